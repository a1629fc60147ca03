/-
  What the law's proof goes by, part 26.
-/
import Derived.Test.YthjkdnlmopafkaaGreatDoorFnSwappedCard00
import Derived.Test.YthjkdnlmopafkaaGreatDoorFnSwappedCard02
import Derived.Test.YthjkdnlmopafkaaGreatDoorFnSwappedCard04
import Derived.Test.YthjkdnlmopafkaaGreatDoorFnSwappedCard07
import Derived.Test.YthjkdnlmopafkaaGreatDoorFnSwappedCard24
namespace Go.Proofs.YthjkdnlmopafkaaGreatDoor
open Go.ChangeShapes Go.WideShapes Go.ChangeAt Go.RowKit
set_option maxRecDepth 100000
set_option maxHeartbeats 16000000
set_option linter.unusedVariables false
set_option linter.unusedSimpArgs false
set_option linter.unnecessarySimpa false
set_option linter.unusedSectionVars false
section
attribute [local go_sem ↓] Go.wp_at_zero Go.wp_at_succ
def qz53 (A : Ar) (n : Int) : Bool := inB n 0 ((Q6q : Int) - 1)
def qz7o (A : Ar) (n : Int) : Bool := inB n 0 ((Q6r : Int) - 1)
def qz2k (A : Ar) (h : Hd) : Bool := qz53 A h.x_ && qz53 A h.pred && ((h.curr == -1) || qz53 A h.curr) && ((h.new_ == -1) || qz53 A h.new_) && qz7o A h.ver && qz7o A h.predVer && qz7o A h.currVer
theorem qzby (A : Ar) (h : Hd) (a0 a1 a2 a3 : Option Addr) (c0 c1 c2 c3 : Nat) (w : World) (hA : A.size <= 1048576) :
  Calls Tryz.prog 100 Q5d w fun e w' => e = .returned (.bool (qz2k A h)) /\ Below Q6o w w' := by
 unfold Ar.size at hA
 have X0 := Q7b (qz6 w Q0j 30) Q0p
 have H0 := qz6 Q35 (hdC h) 56
 have K0 := ((Q6s Q6o w).alloc (Q6v _) (.cells Q02 30)).alloc (by simp) Q0p
 have hz0 : Q6o + 1 < ((Q35).alloc Q0p).heap.size := by simp
 simp only [World.size_alloc] at H0
 go_enter Tryz.func100, Tryz.ntmps100
 have tok : True := trivial
 go_wp2_with (clear tok; refine qz2j ((Q35).alloc Q0p) ?_)
 generalize hw0 : (Q35).alloc Q0p = w0 at *
 show wpList _ _ _ _ _ w0
 clear hw0
 obtain ⟨x0, x1, x2, x3, x4⟩ := row5 X0
 have q10 : w0.cell? ⟨Q6o + 1, 10, none⟩ = some (.int .i64 h.x_) := by simpa using H0 10 (.int .i64 h.x_) rfl
 have q14 : w0.cell? ⟨Q6o + 1, 14, none⟩ = some (.int .i64 h.pred) := by simpa using H0 14 (.int .i64 h.pred) rfl
 have q16 : w0.cell? ⟨Q6o + 1, 16, none⟩ = some (.int .i64 h.curr) := by simpa using H0 16 (.int .i64 h.curr) rfl
 have q18 : w0.cell? ⟨Q6o + 1, 18, none⟩ = some (.int .i64 h.new_) := by simpa using H0 18 (.int .i64 h.new_) rfl
 have q11 : w0.cell? ⟨Q6o + 1, 11, none⟩ = some (.int .i64 h.ver) := by simpa using H0 11 (.int .i64 h.ver) rfl
 have q15 : w0.cell? ⟨Q6o + 1, 15, none⟩ = some (.int .i64 h.predVer) := by simpa using H0 15 (.int .i64 h.predVer) rfl
 have q17 : w0.cell? ⟨Q6o + 1, 17, none⟩ = some (.int .i64 h.currVer) := by simpa using H0 17 (.int .i64 h.currVer) rfl
 go_wp2_with fail
 clear x0 x1 x2 x3 x4 q10 q14 q16 q18 q11 q15 q17
 refine (qz3v _ _ _ _ _ _ _ _ _ (by omega)).mono ?_
 rintro e w1 ⟨rfl, b1⟩
 have X1 := qz0 X0 b1 (by omega)
 have H1 := qz0 H0 b1 (by omega)
 have K1 := K0.trans (b1.mono (by omega))
 have hz1 := Q72 hz0 b1.size
 clear X0 H0 K0 b1
 obtain ⟨x0, x1, x2, x3, x4⟩ := row5 X1
 have q10 : w1.cell? ⟨Q6o + 1, 10, none⟩ = some (.int .i64 h.x_) := by simpa using H1 10 (.int .i64 h.x_) rfl
 have q14 : w1.cell? ⟨Q6o + 1, 14, none⟩ = some (.int .i64 h.pred) := by simpa using H1 14 (.int .i64 h.pred) rfl
 have q16 : w1.cell? ⟨Q6o + 1, 16, none⟩ = some (.int .i64 h.curr) := by simpa using H1 16 (.int .i64 h.curr) rfl
 have q18 : w1.cell? ⟨Q6o + 1, 18, none⟩ = some (.int .i64 h.new_) := by simpa using H1 18 (.int .i64 h.new_) rfl
 have q11 : w1.cell? ⟨Q6o + 1, 11, none⟩ = some (.int .i64 h.ver) := by simpa using H1 11 (.int .i64 h.ver) rfl
 have q15 : w1.cell? ⟨Q6o + 1, 15, none⟩ = some (.int .i64 h.predVer) := by simpa using H1 15 (.int .i64 h.predVer) rfl
 have q17 : w1.cell? ⟨Q6o + 1, 17, none⟩ = some (.int .i64 h.currVer) := by simpa using H1 17 (.int .i64 h.currVer) rfl
 cases ex_ : inB h.x_ 0 ((Q6q : Int) - 1)
 ·have kx_ : qz53 A h.x_ = false := ex_
  have hv : qz2k A h = false := by simp [qz2k, kx_]
  go_wp2
  go_ret
  exact ⟨by first | rfl | (rw [hv]; rfl), K1⟩
 have kx_ : qz53 A h.x_ = true := ex_
 go_wp2_with fail
 clear x0 x1 x2 x3 x4 q10 q14 q16 q18 q11 q15 q17
 refine (qz3v _ _ _ _ _ _ _ _ _ (by omega)).mono ?_
 rintro e w2 ⟨rfl, b2⟩
 have X2 := qz0 X1 b2 (by omega)
 have H2 := qz0 H1 b2 (by omega)
 have K2 := K1.trans (b2.mono (by omega))
 have hz2 := Q72 hz1 b2.size
 clear X1 H1 K1 b2
 obtain ⟨x0, x1, x2, x3, x4⟩ := row5 X2
 have q10 : w2.cell? ⟨Q6o + 1, 10, none⟩ = some (.int .i64 h.x_) := by simpa using H2 10 (.int .i64 h.x_) rfl
 have q14 : w2.cell? ⟨Q6o + 1, 14, none⟩ = some (.int .i64 h.pred) := by simpa using H2 14 (.int .i64 h.pred) rfl
 have q16 : w2.cell? ⟨Q6o + 1, 16, none⟩ = some (.int .i64 h.curr) := by simpa using H2 16 (.int .i64 h.curr) rfl
 have q18 : w2.cell? ⟨Q6o + 1, 18, none⟩ = some (.int .i64 h.new_) := by simpa using H2 18 (.int .i64 h.new_) rfl
 have q11 : w2.cell? ⟨Q6o + 1, 11, none⟩ = some (.int .i64 h.ver) := by simpa using H2 11 (.int .i64 h.ver) rfl
 have q15 : w2.cell? ⟨Q6o + 1, 15, none⟩ = some (.int .i64 h.predVer) := by simpa using H2 15 (.int .i64 h.predVer) rfl
 have q17 : w2.cell? ⟨Q6o + 1, 17, none⟩ = some (.int .i64 h.currVer) := by simpa using H2 17 (.int .i64 h.currVer) rfl
 cases epred : inB h.pred 0 ((Q6q : Int) - 1)
 ·have kpred : qz53 A h.pred = false := epred
  have hv : qz2k A h = false := by simp [qz2k, kpred]
  go_wp2
  go_ret
  exact ⟨by first | rfl | (rw [hv]; rfl), K2⟩
 have kpred : qz53 A h.pred = true := epred
 by_cases mcurr : h.curr = -1
 case pos =>
  have bcurr : (h.curr == -1) = true := by simp [mcurr]
  have dcurr : (h.curr != -1) = false := by simp [mcurr]
  by_cases mnew_ : h.new_ = -1
  case pos =>
   have bnew_ : (h.new_ == -1) = true := by simp [mnew_]
   have dnew_ : (h.new_ != -1) = false := by simp [mnew_]
   go_wp2_with fail
   clear x0 x1 x2 x3 x4 q10 q14 q16 q18 q11 q15 q17
   refine (qz2q _ _ _ _ _ _ _ _ _ (by omega)).mono ?_
   rintro e w3 ⟨rfl, b3⟩
   have X3 := qz0 X2 b3 (by omega)
   have H3 := qz0 H2 b3 (by omega)
   have K3 := K2.trans (b3.mono (by omega))
   have hz3 := Q72 hz2 b3.size
   clear X2 H2 K2 b3
   obtain ⟨x0, x1, x2, x3, x4⟩ := row5 X3
   have q10 : w3.cell? ⟨Q6o + 1, 10, none⟩ = some (.int .i64 h.x_) := by simpa using H3 10 (.int .i64 h.x_) rfl
   have q14 : w3.cell? ⟨Q6o + 1, 14, none⟩ = some (.int .i64 h.pred) := by simpa using H3 14 (.int .i64 h.pred) rfl
   have q16 : w3.cell? ⟨Q6o + 1, 16, none⟩ = some (.int .i64 h.curr) := by simpa using H3 16 (.int .i64 h.curr) rfl
   have q18 : w3.cell? ⟨Q6o + 1, 18, none⟩ = some (.int .i64 h.new_) := by simpa using H3 18 (.int .i64 h.new_) rfl
   have q11 : w3.cell? ⟨Q6o + 1, 11, none⟩ = some (.int .i64 h.ver) := by simpa using H3 11 (.int .i64 h.ver) rfl
   have q15 : w3.cell? ⟨Q6o + 1, 15, none⟩ = some (.int .i64 h.predVer) := by simpa using H3 15 (.int .i64 h.predVer) rfl
   have q17 : w3.cell? ⟨Q6o + 1, 17, none⟩ = some (.int .i64 h.currVer) := by simpa using H3 17 (.int .i64 h.currVer) rfl
   cases ever : inB h.ver 0 ((Q6r : Int) - 1)
   ·have kver : qz7o A h.ver = false := ever
    have hv : qz2k A h = false := by simp [qz2k, kver]
    go_wp2
    go_ret
    exact ⟨by first | rfl | (rw [hv]; rfl), K3⟩
   have kver : qz7o A h.ver = true := ever
   go_wp2_with fail
   clear x0 x1 x2 x3 x4 q10 q14 q16 q18 q11 q15 q17
   refine (qz2q _ _ _ _ _ _ _ _ _ (by omega)).mono ?_
   rintro e w4 ⟨rfl, b4⟩
   have X4 := qz0 X3 b4 (by omega)
   have H4 := qz0 H3 b4 (by omega)
   have K4 := K3.trans (b4.mono (by omega))
   have hz4 := Q72 hz3 b4.size
   clear X3 H3 K3 b4
   obtain ⟨x0, x1, x2, x3, x4⟩ := row5 X4
   have q10 : w4.cell? ⟨Q6o + 1, 10, none⟩ = some (.int .i64 h.x_) := by simpa using H4 10 (.int .i64 h.x_) rfl
   have q14 : w4.cell? ⟨Q6o + 1, 14, none⟩ = some (.int .i64 h.pred) := by simpa using H4 14 (.int .i64 h.pred) rfl
   have q16 : w4.cell? ⟨Q6o + 1, 16, none⟩ = some (.int .i64 h.curr) := by simpa using H4 16 (.int .i64 h.curr) rfl
   have q18 : w4.cell? ⟨Q6o + 1, 18, none⟩ = some (.int .i64 h.new_) := by simpa using H4 18 (.int .i64 h.new_) rfl
   have q11 : w4.cell? ⟨Q6o + 1, 11, none⟩ = some (.int .i64 h.ver) := by simpa using H4 11 (.int .i64 h.ver) rfl
   have q15 : w4.cell? ⟨Q6o + 1, 15, none⟩ = some (.int .i64 h.predVer) := by simpa using H4 15 (.int .i64 h.predVer) rfl
   have q17 : w4.cell? ⟨Q6o + 1, 17, none⟩ = some (.int .i64 h.currVer) := by simpa using H4 17 (.int .i64 h.currVer) rfl
   cases epredVer : inB h.predVer 0 ((Q6r : Int) - 1)
   ·have kpredVer : qz7o A h.predVer = false := epredVer
    have hv : qz2k A h = false := by simp [qz2k, kpredVer]
    go_wp2
    go_ret
    exact ⟨by first | rfl | (rw [hv]; rfl), K4⟩
   have kpredVer : qz7o A h.predVer = true := epredVer
   go_wp2_with fail
   clear x0 x1 x2 x3 x4 q10 q14 q16 q18 q11 q15 q17
   refine (qz2q _ _ _ _ _ _ _ _ _ (by omega)).mono ?_
   rintro e w5 ⟨rfl, b5⟩
   have X5 := qz0 X4 b5 (by omega)
   have H5 := qz0 H4 b5 (by omega)
   have K5 := K4.trans (b5.mono (by omega))
   have hz5 := Q72 hz4 b5.size
   clear X4 H4 K4 b5
   obtain ⟨x0, x1, x2, x3, x4⟩ := row5 X5
   have q10 : w5.cell? ⟨Q6o + 1, 10, none⟩ = some (.int .i64 h.x_) := by simpa using H5 10 (.int .i64 h.x_) rfl
   have q14 : w5.cell? ⟨Q6o + 1, 14, none⟩ = some (.int .i64 h.pred) := by simpa using H5 14 (.int .i64 h.pred) rfl
   have q16 : w5.cell? ⟨Q6o + 1, 16, none⟩ = some (.int .i64 h.curr) := by simpa using H5 16 (.int .i64 h.curr) rfl
   have q18 : w5.cell? ⟨Q6o + 1, 18, none⟩ = some (.int .i64 h.new_) := by simpa using H5 18 (.int .i64 h.new_) rfl
   have q11 : w5.cell? ⟨Q6o + 1, 11, none⟩ = some (.int .i64 h.ver) := by simpa using H5 11 (.int .i64 h.ver) rfl
   have q15 : w5.cell? ⟨Q6o + 1, 15, none⟩ = some (.int .i64 h.predVer) := by simpa using H5 15 (.int .i64 h.predVer) rfl
   have q17 : w5.cell? ⟨Q6o + 1, 17, none⟩ = some (.int .i64 h.currVer) := by simpa using H5 17 (.int .i64 h.currVer) rfl
   have hv : qz2k A h = inB h.currVer 0 ((Q6r : Int) - 1) := by unfold qz2k; rw [kx_, kpred, bcurr, bnew_, kver, kpredVer]; rfl
   go_wp2
   go_ret
   exact ⟨by first | rfl | (rw [hv]; rfl), K5⟩
  have bnew_ : (h.new_ == -1) = false := by simp [mnew_]
  have dnew_ : (h.new_ != -1) = true := by simp [mnew_]
  go_wp2_with fail
  clear x0 x1 x2 x3 x4 q10 q14 q16 q18 q11 q15 q17
  refine (qz3v _ _ _ _ _ _ _ _ _ (by omega)).mono ?_
  rintro e w3 ⟨rfl, b3⟩
  have X3 := qz0 X2 b3 (by omega)
  have H3 := qz0 H2 b3 (by omega)
  have K3 := K2.trans (b3.mono (by omega))
  have hz3 := Q72 hz2 b3.size
  clear X2 H2 K2 b3
  obtain ⟨x0, x1, x2, x3, x4⟩ := row5 X3
  have q10 : w3.cell? ⟨Q6o + 1, 10, none⟩ = some (.int .i64 h.x_) := by simpa using H3 10 (.int .i64 h.x_) rfl
  have q14 : w3.cell? ⟨Q6o + 1, 14, none⟩ = some (.int .i64 h.pred) := by simpa using H3 14 (.int .i64 h.pred) rfl
  have q16 : w3.cell? ⟨Q6o + 1, 16, none⟩ = some (.int .i64 h.curr) := by simpa using H3 16 (.int .i64 h.curr) rfl
  have q18 : w3.cell? ⟨Q6o + 1, 18, none⟩ = some (.int .i64 h.new_) := by simpa using H3 18 (.int .i64 h.new_) rfl
  have q11 : w3.cell? ⟨Q6o + 1, 11, none⟩ = some (.int .i64 h.ver) := by simpa using H3 11 (.int .i64 h.ver) rfl
  have q15 : w3.cell? ⟨Q6o + 1, 15, none⟩ = some (.int .i64 h.predVer) := by simpa using H3 15 (.int .i64 h.predVer) rfl
  have q17 : w3.cell? ⟨Q6o + 1, 17, none⟩ = some (.int .i64 h.currVer) := by simpa using H3 17 (.int .i64 h.currVer) rfl
  cases enew_ : inB h.new_ 0 ((Q6q : Int) - 1)
  ·have knew_ : qz53 A h.new_ = false := enew_
   have hv : qz2k A h = false := by simp [qz2k, knew_, mnew_]
   go_wp2
   go_ret
   exact ⟨by first | rfl | (rw [hv]; rfl), K3⟩
  have knew_ : qz53 A h.new_ = true := enew_
  go_wp2_with fail
  clear x0 x1 x2 x3 x4 q10 q14 q16 q18 q11 q15 q17
  refine (qz2q _ _ _ _ _ _ _ _ _ (by omega)).mono ?_
  rintro e w4 ⟨rfl, b4⟩
  have X4 := qz0 X3 b4 (by omega)
  have H4 := qz0 H3 b4 (by omega)
  have K4 := K3.trans (b4.mono (by omega))
  have hz4 := Q72 hz3 b4.size
  clear X3 H3 K3 b4
  obtain ⟨x0, x1, x2, x3, x4⟩ := row5 X4
  have q10 : w4.cell? ⟨Q6o + 1, 10, none⟩ = some (.int .i64 h.x_) := by simpa using H4 10 (.int .i64 h.x_) rfl
  have q14 : w4.cell? ⟨Q6o + 1, 14, none⟩ = some (.int .i64 h.pred) := by simpa using H4 14 (.int .i64 h.pred) rfl
  have q16 : w4.cell? ⟨Q6o + 1, 16, none⟩ = some (.int .i64 h.curr) := by simpa using H4 16 (.int .i64 h.curr) rfl
  have q18 : w4.cell? ⟨Q6o + 1, 18, none⟩ = some (.int .i64 h.new_) := by simpa using H4 18 (.int .i64 h.new_) rfl
  have q11 : w4.cell? ⟨Q6o + 1, 11, none⟩ = some (.int .i64 h.ver) := by simpa using H4 11 (.int .i64 h.ver) rfl
  have q15 : w4.cell? ⟨Q6o + 1, 15, none⟩ = some (.int .i64 h.predVer) := by simpa using H4 15 (.int .i64 h.predVer) rfl
  have q17 : w4.cell? ⟨Q6o + 1, 17, none⟩ = some (.int .i64 h.currVer) := by simpa using H4 17 (.int .i64 h.currVer) rfl
  cases ever : inB h.ver 0 ((Q6r : Int) - 1)
  ·have kver : qz7o A h.ver = false := ever
   have hv : qz2k A h = false := by simp [qz2k, kver]
   go_wp2
   go_ret
   exact ⟨by first | rfl | (rw [hv]; rfl), K4⟩
  have kver : qz7o A h.ver = true := ever
  go_wp2_with fail
  clear x0 x1 x2 x3 x4 q10 q14 q16 q18 q11 q15 q17
  refine (qz2q _ _ _ _ _ _ _ _ _ (by omega)).mono ?_
  rintro e w5 ⟨rfl, b5⟩
  have X5 := qz0 X4 b5 (by omega)
  have H5 := qz0 H4 b5 (by omega)
  have K5 := K4.trans (b5.mono (by omega))
  have hz5 := Q72 hz4 b5.size
  clear X4 H4 K4 b5
  obtain ⟨x0, x1, x2, x3, x4⟩ := row5 X5
  have q10 : w5.cell? ⟨Q6o + 1, 10, none⟩ = some (.int .i64 h.x_) := by simpa using H5 10 (.int .i64 h.x_) rfl
  have q14 : w5.cell? ⟨Q6o + 1, 14, none⟩ = some (.int .i64 h.pred) := by simpa using H5 14 (.int .i64 h.pred) rfl
  have q16 : w5.cell? ⟨Q6o + 1, 16, none⟩ = some (.int .i64 h.curr) := by simpa using H5 16 (.int .i64 h.curr) rfl
  have q18 : w5.cell? ⟨Q6o + 1, 18, none⟩ = some (.int .i64 h.new_) := by simpa using H5 18 (.int .i64 h.new_) rfl
  have q11 : w5.cell? ⟨Q6o + 1, 11, none⟩ = some (.int .i64 h.ver) := by simpa using H5 11 (.int .i64 h.ver) rfl
  have q15 : w5.cell? ⟨Q6o + 1, 15, none⟩ = some (.int .i64 h.predVer) := by simpa using H5 15 (.int .i64 h.predVer) rfl
  have q17 : w5.cell? ⟨Q6o + 1, 17, none⟩ = some (.int .i64 h.currVer) := by simpa using H5 17 (.int .i64 h.currVer) rfl
  cases epredVer : inB h.predVer 0 ((Q6r : Int) - 1)
  ·have kpredVer : qz7o A h.predVer = false := epredVer
   have hv : qz2k A h = false := by simp [qz2k, kpredVer]
   go_wp2
   go_ret
   exact ⟨by first | rfl | (rw [hv]; rfl), K5⟩
  have kpredVer : qz7o A h.predVer = true := epredVer
  go_wp2_with fail
  clear x0 x1 x2 x3 x4 q10 q14 q16 q18 q11 q15 q17
  refine (qz2q _ _ _ _ _ _ _ _ _ (by omega)).mono ?_
  rintro e w6 ⟨rfl, b6⟩
  have X6 := qz0 X5 b6 (by omega)
  have H6 := qz0 H5 b6 (by omega)
  have K6 := K5.trans (b6.mono (by omega))
  have hz6 := Q72 hz5 b6.size
  clear X5 H5 K5 b6
  obtain ⟨x0, x1, x2, x3, x4⟩ := row5 X6
  have q10 : w6.cell? ⟨Q6o + 1, 10, none⟩ = some (.int .i64 h.x_) := by simpa using H6 10 (.int .i64 h.x_) rfl
  have q14 : w6.cell? ⟨Q6o + 1, 14, none⟩ = some (.int .i64 h.pred) := by simpa using H6 14 (.int .i64 h.pred) rfl
  have q16 : w6.cell? ⟨Q6o + 1, 16, none⟩ = some (.int .i64 h.curr) := by simpa using H6 16 (.int .i64 h.curr) rfl
  have q18 : w6.cell? ⟨Q6o + 1, 18, none⟩ = some (.int .i64 h.new_) := by simpa using H6 18 (.int .i64 h.new_) rfl
  have q11 : w6.cell? ⟨Q6o + 1, 11, none⟩ = some (.int .i64 h.ver) := by simpa using H6 11 (.int .i64 h.ver) rfl
  have q15 : w6.cell? ⟨Q6o + 1, 15, none⟩ = some (.int .i64 h.predVer) := by simpa using H6 15 (.int .i64 h.predVer) rfl
  have q17 : w6.cell? ⟨Q6o + 1, 17, none⟩ = some (.int .i64 h.currVer) := by simpa using H6 17 (.int .i64 h.currVer) rfl
  have hv : qz2k A h = inB h.currVer 0 ((Q6r : Int) - 1) := by unfold qz2k; rw [kx_, kpred, bcurr, bnew_, knew_, kver, kpredVer]; rfl
  go_wp2
  go_ret
  exact ⟨by first | rfl | (rw [hv]; rfl), K6⟩
 have bcurr : (h.curr == -1) = false := by simp [mcurr]
 have dcurr : (h.curr != -1) = true := by simp [mcurr]
 go_wp2_with fail
 clear x0 x1 x2 x3 x4 q10 q14 q16 q18 q11 q15 q17
 refine (qz3v _ _ _ _ _ _ _ _ _ (by omega)).mono ?_
 rintro e w3 ⟨rfl, b3⟩
 have X3 := qz0 X2 b3 (by omega)
 have H3 := qz0 H2 b3 (by omega)
 have K3 := K2.trans (b3.mono (by omega))
 have hz3 := Q72 hz2 b3.size
 clear X2 H2 K2 b3
 obtain ⟨x0, x1, x2, x3, x4⟩ := row5 X3
 have q10 : w3.cell? ⟨Q6o + 1, 10, none⟩ = some (.int .i64 h.x_) := by simpa using H3 10 (.int .i64 h.x_) rfl
 have q14 : w3.cell? ⟨Q6o + 1, 14, none⟩ = some (.int .i64 h.pred) := by simpa using H3 14 (.int .i64 h.pred) rfl
 have q16 : w3.cell? ⟨Q6o + 1, 16, none⟩ = some (.int .i64 h.curr) := by simpa using H3 16 (.int .i64 h.curr) rfl
 have q18 : w3.cell? ⟨Q6o + 1, 18, none⟩ = some (.int .i64 h.new_) := by simpa using H3 18 (.int .i64 h.new_) rfl
 have q11 : w3.cell? ⟨Q6o + 1, 11, none⟩ = some (.int .i64 h.ver) := by simpa using H3 11 (.int .i64 h.ver) rfl
 have q15 : w3.cell? ⟨Q6o + 1, 15, none⟩ = some (.int .i64 h.predVer) := by simpa using H3 15 (.int .i64 h.predVer) rfl
 have q17 : w3.cell? ⟨Q6o + 1, 17, none⟩ = some (.int .i64 h.currVer) := by simpa using H3 17 (.int .i64 h.currVer) rfl
 cases ecurr : inB h.curr 0 ((Q6q : Int) - 1)
 ·have kcurr : qz53 A h.curr = false := ecurr
  have hv : qz2k A h = false := by simp [qz2k, kcurr, mcurr]
  go_wp2
  go_ret
  exact ⟨by first | rfl | (rw [hv]; rfl), K3⟩
 have kcurr : qz53 A h.curr = true := ecurr
 by_cases mnew_ : h.new_ = -1
 case pos =>
  have bnew_ : (h.new_ == -1) = true := by simp [mnew_]
  have dnew_ : (h.new_ != -1) = false := by simp [mnew_]
  go_wp2_with fail
  clear x0 x1 x2 x3 x4 q10 q14 q16 q18 q11 q15 q17
  refine (qz2q _ _ _ _ _ _ _ _ _ (by omega)).mono ?_
  rintro e w4 ⟨rfl, b4⟩
  have X4 := qz0 X3 b4 (by omega)
  have H4 := qz0 H3 b4 (by omega)
  have K4 := K3.trans (b4.mono (by omega))
  have hz4 := Q72 hz3 b4.size
  clear X3 H3 K3 b4
  obtain ⟨x0, x1, x2, x3, x4⟩ := row5 X4
  have q10 : w4.cell? ⟨Q6o + 1, 10, none⟩ = some (.int .i64 h.x_) := by simpa using H4 10 (.int .i64 h.x_) rfl
  have q14 : w4.cell? ⟨Q6o + 1, 14, none⟩ = some (.int .i64 h.pred) := by simpa using H4 14 (.int .i64 h.pred) rfl
  have q16 : w4.cell? ⟨Q6o + 1, 16, none⟩ = some (.int .i64 h.curr) := by simpa using H4 16 (.int .i64 h.curr) rfl
  have q18 : w4.cell? ⟨Q6o + 1, 18, none⟩ = some (.int .i64 h.new_) := by simpa using H4 18 (.int .i64 h.new_) rfl
  have q11 : w4.cell? ⟨Q6o + 1, 11, none⟩ = some (.int .i64 h.ver) := by simpa using H4 11 (.int .i64 h.ver) rfl
  have q15 : w4.cell? ⟨Q6o + 1, 15, none⟩ = some (.int .i64 h.predVer) := by simpa using H4 15 (.int .i64 h.predVer) rfl
  have q17 : w4.cell? ⟨Q6o + 1, 17, none⟩ = some (.int .i64 h.currVer) := by simpa using H4 17 (.int .i64 h.currVer) rfl
  cases ever : inB h.ver 0 ((Q6r : Int) - 1)
  ·have kver : qz7o A h.ver = false := ever
   have hv : qz2k A h = false := by simp [qz2k, kver]
   go_wp2
   go_ret
   exact ⟨by first | rfl | (rw [hv]; rfl), K4⟩
  have kver : qz7o A h.ver = true := ever
  go_wp2_with fail
  clear x0 x1 x2 x3 x4 q10 q14 q16 q18 q11 q15 q17
  refine (qz2q _ _ _ _ _ _ _ _ _ (by omega)).mono ?_
  rintro e w5 ⟨rfl, b5⟩
  have X5 := qz0 X4 b5 (by omega)
  have H5 := qz0 H4 b5 (by omega)
  have K5 := K4.trans (b5.mono (by omega))
  have hz5 := Q72 hz4 b5.size
  clear X4 H4 K4 b5
  obtain ⟨x0, x1, x2, x3, x4⟩ := row5 X5
  have q10 : w5.cell? ⟨Q6o + 1, 10, none⟩ = some (.int .i64 h.x_) := by simpa using H5 10 (.int .i64 h.x_) rfl
  have q14 : w5.cell? ⟨Q6o + 1, 14, none⟩ = some (.int .i64 h.pred) := by simpa using H5 14 (.int .i64 h.pred) rfl
  have q16 : w5.cell? ⟨Q6o + 1, 16, none⟩ = some (.int .i64 h.curr) := by simpa using H5 16 (.int .i64 h.curr) rfl
  have q18 : w5.cell? ⟨Q6o + 1, 18, none⟩ = some (.int .i64 h.new_) := by simpa using H5 18 (.int .i64 h.new_) rfl
  have q11 : w5.cell? ⟨Q6o + 1, 11, none⟩ = some (.int .i64 h.ver) := by simpa using H5 11 (.int .i64 h.ver) rfl
  have q15 : w5.cell? ⟨Q6o + 1, 15, none⟩ = some (.int .i64 h.predVer) := by simpa using H5 15 (.int .i64 h.predVer) rfl
  have q17 : w5.cell? ⟨Q6o + 1, 17, none⟩ = some (.int .i64 h.currVer) := by simpa using H5 17 (.int .i64 h.currVer) rfl
  cases epredVer : inB h.predVer 0 ((Q6r : Int) - 1)
  ·have kpredVer : qz7o A h.predVer = false := epredVer
   have hv : qz2k A h = false := by simp [qz2k, kpredVer]
   go_wp2
   go_ret
   exact ⟨by first | rfl | (rw [hv]; rfl), K5⟩
  have kpredVer : qz7o A h.predVer = true := epredVer
  go_wp2_with fail
  clear x0 x1 x2 x3 x4 q10 q14 q16 q18 q11 q15 q17
  refine (qz2q _ _ _ _ _ _ _ _ _ (by omega)).mono ?_
  rintro e w6 ⟨rfl, b6⟩
  have X6 := qz0 X5 b6 (by omega)
  have H6 := qz0 H5 b6 (by omega)
  have K6 := K5.trans (b6.mono (by omega))
  have hz6 := Q72 hz5 b6.size
  clear X5 H5 K5 b6
  obtain ⟨x0, x1, x2, x3, x4⟩ := row5 X6
  have q10 : w6.cell? ⟨Q6o + 1, 10, none⟩ = some (.int .i64 h.x_) := by simpa using H6 10 (.int .i64 h.x_) rfl
  have q14 : w6.cell? ⟨Q6o + 1, 14, none⟩ = some (.int .i64 h.pred) := by simpa using H6 14 (.int .i64 h.pred) rfl
  have q16 : w6.cell? ⟨Q6o + 1, 16, none⟩ = some (.int .i64 h.curr) := by simpa using H6 16 (.int .i64 h.curr) rfl
  have q18 : w6.cell? ⟨Q6o + 1, 18, none⟩ = some (.int .i64 h.new_) := by simpa using H6 18 (.int .i64 h.new_) rfl
  have q11 : w6.cell? ⟨Q6o + 1, 11, none⟩ = some (.int .i64 h.ver) := by simpa using H6 11 (.int .i64 h.ver) rfl
  have q15 : w6.cell? ⟨Q6o + 1, 15, none⟩ = some (.int .i64 h.predVer) := by simpa using H6 15 (.int .i64 h.predVer) rfl
  have q17 : w6.cell? ⟨Q6o + 1, 17, none⟩ = some (.int .i64 h.currVer) := by simpa using H6 17 (.int .i64 h.currVer) rfl
  have hv : qz2k A h = inB h.currVer 0 ((Q6r : Int) - 1) := by unfold qz2k; rw [kx_, kpred, bcurr, kcurr, bnew_, kver, kpredVer]; rfl
  go_wp2
  go_ret
  exact ⟨by first | rfl | (rw [hv]; rfl), K6⟩
 have bnew_ : (h.new_ == -1) = false := by simp [mnew_]
 have dnew_ : (h.new_ != -1) = true := by simp [mnew_]
 go_wp2_with fail
 clear x0 x1 x2 x3 x4 q10 q14 q16 q18 q11 q15 q17
 refine (qz3v _ _ _ _ _ _ _ _ _ (by omega)).mono ?_
 rintro e w4 ⟨rfl, b4⟩
 have X4 := qz0 X3 b4 (by omega)
 have H4 := qz0 H3 b4 (by omega)
 have K4 := K3.trans (b4.mono (by omega))
 have hz4 := Q72 hz3 b4.size
 clear X3 H3 K3 b4
 obtain ⟨x0, x1, x2, x3, x4⟩ := row5 X4
 have q10 : w4.cell? ⟨Q6o + 1, 10, none⟩ = some (.int .i64 h.x_) := by simpa using H4 10 (.int .i64 h.x_) rfl
 have q14 : w4.cell? ⟨Q6o + 1, 14, none⟩ = some (.int .i64 h.pred) := by simpa using H4 14 (.int .i64 h.pred) rfl
 have q16 : w4.cell? ⟨Q6o + 1, 16, none⟩ = some (.int .i64 h.curr) := by simpa using H4 16 (.int .i64 h.curr) rfl
 have q18 : w4.cell? ⟨Q6o + 1, 18, none⟩ = some (.int .i64 h.new_) := by simpa using H4 18 (.int .i64 h.new_) rfl
 have q11 : w4.cell? ⟨Q6o + 1, 11, none⟩ = some (.int .i64 h.ver) := by simpa using H4 11 (.int .i64 h.ver) rfl
 have q15 : w4.cell? ⟨Q6o + 1, 15, none⟩ = some (.int .i64 h.predVer) := by simpa using H4 15 (.int .i64 h.predVer) rfl
 have q17 : w4.cell? ⟨Q6o + 1, 17, none⟩ = some (.int .i64 h.currVer) := by simpa using H4 17 (.int .i64 h.currVer) rfl
 cases enew_ : inB h.new_ 0 ((Q6q : Int) - 1)
 ·have knew_ : qz53 A h.new_ = false := enew_
  have hv : qz2k A h = false := by simp [qz2k, knew_, mnew_]
  go_wp2
  go_ret
  exact ⟨by first | rfl | (rw [hv]; rfl), K4⟩
 have knew_ : qz53 A h.new_ = true := enew_
 go_wp2_with fail
 clear x0 x1 x2 x3 x4 q10 q14 q16 q18 q11 q15 q17
 refine (qz2q _ _ _ _ _ _ _ _ _ (by omega)).mono ?_
 rintro e w5 ⟨rfl, b5⟩
 have X5 := qz0 X4 b5 (by omega)
 have H5 := qz0 H4 b5 (by omega)
 have K5 := K4.trans (b5.mono (by omega))
 have hz5 := Q72 hz4 b5.size
 clear X4 H4 K4 b5
 obtain ⟨x0, x1, x2, x3, x4⟩ := row5 X5
 have q10 : w5.cell? ⟨Q6o + 1, 10, none⟩ = some (.int .i64 h.x_) := by simpa using H5 10 (.int .i64 h.x_) rfl
 have q14 : w5.cell? ⟨Q6o + 1, 14, none⟩ = some (.int .i64 h.pred) := by simpa using H5 14 (.int .i64 h.pred) rfl
 have q16 : w5.cell? ⟨Q6o + 1, 16, none⟩ = some (.int .i64 h.curr) := by simpa using H5 16 (.int .i64 h.curr) rfl
 have q18 : w5.cell? ⟨Q6o + 1, 18, none⟩ = some (.int .i64 h.new_) := by simpa using H5 18 (.int .i64 h.new_) rfl
 have q11 : w5.cell? ⟨Q6o + 1, 11, none⟩ = some (.int .i64 h.ver) := by simpa using H5 11 (.int .i64 h.ver) rfl
 have q15 : w5.cell? ⟨Q6o + 1, 15, none⟩ = some (.int .i64 h.predVer) := by simpa using H5 15 (.int .i64 h.predVer) rfl
 have q17 : w5.cell? ⟨Q6o + 1, 17, none⟩ = some (.int .i64 h.currVer) := by simpa using H5 17 (.int .i64 h.currVer) rfl
 cases ever : inB h.ver 0 ((Q6r : Int) - 1)
 ·have kver : qz7o A h.ver = false := ever
  have hv : qz2k A h = false := by simp [qz2k, kver]
  go_wp2
  go_ret
  exact ⟨by first | rfl | (rw [hv]; rfl), K5⟩
 have kver : qz7o A h.ver = true := ever
 go_wp2_with fail
 clear x0 x1 x2 x3 x4 q10 q14 q16 q18 q11 q15 q17
 refine (qz2q _ _ _ _ _ _ _ _ _ (by omega)).mono ?_
 rintro e w6 ⟨rfl, b6⟩
 have X6 := qz0 X5 b6 (by omega)
 have H6 := qz0 H5 b6 (by omega)
 have K6 := K5.trans (b6.mono (by omega))
 have hz6 := Q72 hz5 b6.size
 clear X5 H5 K5 b6
 obtain ⟨x0, x1, x2, x3, x4⟩ := row5 X6
 have q10 : w6.cell? ⟨Q6o + 1, 10, none⟩ = some (.int .i64 h.x_) := by simpa using H6 10 (.int .i64 h.x_) rfl
 have q14 : w6.cell? ⟨Q6o + 1, 14, none⟩ = some (.int .i64 h.pred) := by simpa using H6 14 (.int .i64 h.pred) rfl
 have q16 : w6.cell? ⟨Q6o + 1, 16, none⟩ = some (.int .i64 h.curr) := by simpa using H6 16 (.int .i64 h.curr) rfl
 have q18 : w6.cell? ⟨Q6o + 1, 18, none⟩ = some (.int .i64 h.new_) := by simpa using H6 18 (.int .i64 h.new_) rfl
 have q11 : w6.cell? ⟨Q6o + 1, 11, none⟩ = some (.int .i64 h.ver) := by simpa using H6 11 (.int .i64 h.ver) rfl
 have q15 : w6.cell? ⟨Q6o + 1, 15, none⟩ = some (.int .i64 h.predVer) := by simpa using H6 15 (.int .i64 h.predVer) rfl
 have q17 : w6.cell? ⟨Q6o + 1, 17, none⟩ = some (.int .i64 h.currVer) := by simpa using H6 17 (.int .i64 h.currVer) rfl
 cases epredVer : inB h.predVer 0 ((Q6r : Int) - 1)
 ·have kpredVer : qz7o A h.predVer = false := epredVer
  have hv : qz2k A h = false := by simp [qz2k, kpredVer]
  go_wp2
  go_ret
  exact ⟨by first | rfl | (rw [hv]; rfl), K6⟩
 have kpredVer : qz7o A h.predVer = true := epredVer
 go_wp2_with fail
 clear x0 x1 x2 x3 x4 q10 q14 q16 q18 q11 q15 q17
 refine (qz2q _ _ _ _ _ _ _ _ _ (by omega)).mono ?_
 rintro e w7 ⟨rfl, b7⟩
 have X7 := qz0 X6 b7 (by omega)
 have H7 := qz0 H6 b7 (by omega)
 have K7 := K6.trans (b7.mono (by omega))
 have hz7 := Q72 hz6 b7.size
 clear X6 H6 K6 b7
 obtain ⟨x0, x1, x2, x3, x4⟩ := row5 X7
 have q10 : w7.cell? ⟨Q6o + 1, 10, none⟩ = some (.int .i64 h.x_) := by simpa using H7 10 (.int .i64 h.x_) rfl
 have q14 : w7.cell? ⟨Q6o + 1, 14, none⟩ = some (.int .i64 h.pred) := by simpa using H7 14 (.int .i64 h.pred) rfl
 have q16 : w7.cell? ⟨Q6o + 1, 16, none⟩ = some (.int .i64 h.curr) := by simpa using H7 16 (.int .i64 h.curr) rfl
 have q18 : w7.cell? ⟨Q6o + 1, 18, none⟩ = some (.int .i64 h.new_) := by simpa using H7 18 (.int .i64 h.new_) rfl
 have q11 : w7.cell? ⟨Q6o + 1, 11, none⟩ = some (.int .i64 h.ver) := by simpa using H7 11 (.int .i64 h.ver) rfl
 have q15 : w7.cell? ⟨Q6o + 1, 15, none⟩ = some (.int .i64 h.predVer) := by simpa using H7 15 (.int .i64 h.predVer) rfl
 have q17 : w7.cell? ⟨Q6o + 1, 17, none⟩ = some (.int .i64 h.currVer) := by simpa using H7 17 (.int .i64 h.currVer) rfl
 have hv : qz2k A h = inB h.currVer 0 ((Q6r : Int) - 1) := by unfold qz2k; rw [kx_, kpred, bcurr, kcurr, bnew_, knew_, kver, kpredVer]; rfl
 go_wp2
 go_ret
 exact ⟨by first | rfl | (rw [hv]; rfl), K7⟩
end
section
theorem qzhu {A : Ar} {k : Int} (hn : 0 < Q6q) (h : (k == -1 || qz53 A k) = true) : k < (Q6q : Int) := by
 rw [Bool.or_eq_true] at h
 rcases h with h | h
 ·have := beq_iff_eq.1 h; omega
 ·have := (qz13 _ _ _).1 h; omega
theorem qzfu {x y z u : Int} {A : Ar} {h : Hd} {me : Int} (hOk : qz10 x y z u A = true) (hh : qz4a x y z u h = true) (hk : qz2k A h = true) (hm0 : 0 <= me) (hm1 : me < x) : qzcu A h me := by
 have h1 := (qz1r hOk).1
 simp only [qz6r, Bool.and_eq_true, beq_iff_eq, qz13] at h1
 obtain ⟨⟨⟨⟨⟨_, hcam⟩, hsl⟩, _⟩, hnl⟩, hvl⟩ := h1
 have hn0 : 0 < Q6q := by omega
 simp only [qz2k, Bool.and_eq_true] at hk
 obtain ⟨⟨⟨⟨⟨⟨k1, k2⟩, k3⟩, k4⟩, k5⟩, k6⟩, k7⟩ := hk
 have k1' := (qz13 _ _ _).1 k1
 have k2' := (qz13 _ _ _).1 k2
 have k3' := qzhu hn0 k3
 have k4' := qzhu hn0 k4
 have k5' := (qz13 _ _ _).1 k5
 have k7' := (qz13 _ _ _).1 k7
 simp only [qz4a, qz4p, Bool.and_eq_true, qz13] at hh
 obtain ⟨_, hF⟩ := hh
 obtain ⟨⟨⟨⟨⟨⟨⟨⟨⟨⟨⟨⟨⟨⟨f0, f1⟩, f2⟩, f3⟩, f4⟩, f5⟩, f6⟩, f7⟩, f8⟩, f9⟩, f10⟩, f11⟩, f12⟩, f13⟩, f14⟩ := hF
 constructor <;> omega
theorem qz9z (x y z u : Int) (A : Ar) (h : Hd) : (qz22 x y z u A h).1.camera = Q6w := by
 unfold qz22
 split
 ·rfl
 ·exact qz2m _ _ _ _ _ _ _
theorem qz7a (x y z u : Int) (A : Ar) (h : Hd) : (qzw x y z u A h).1.camera = Q6w := by
 unfold qzw
 split
 ·exact qz9q _ _ _ _
 ·split
  ·show (if 0 <= h.new_ then _ else A : Ar).camera = _
   split <;> rfl
  ·split
   ·exact qz2m _ _ _ _ _ _ _
   ·split
    ·show (if 0 <= qz4j x y z u h.key /\ 0 <= h.new_ then _ else A : Ar).camera = _
     split <;> rfl
    ·split
     ·exact qz2m _ _ _ _ _ _ _
     ·split
      ·exact qz2m _ _ _ _ _ _ _
      ·rfl
theorem qzax (A : Ar) (h : Hd) : (qz4g A h).1.camera = Q6w := by
 unfold qz4g
 repeat' split
 all_goals rfl
theorem qz9d (A : Ar) (h : Hd) (d : Dd) (clock : Int) : (qz25 A h d clock).1.camera = Q6w := by
 unfold qz25
 repeat' split
 all_goals rfl
theorem qz9h (x y z u : Int) (A : Ar) (h : Hd) (d : Dd) (tk : Bool) (me clock : Int) : Q19.1.camera = qz27 A h tk me := by
 unfold qz18 qz27
 by_cases h1 : h.at_ = 1 ∨ h.at_ = 6
 ·rw [if_pos h1, if_neg (by omega)]; exact qz9z _ _ _ _ _ _
 rw [if_neg h1]
 by_cases h2 : h.at_ <= 5
 ·rw [if_pos h2, if_neg (by omega)]; exact qz9d _ _ _ _
 rw [if_neg h2]
 by_cases h3 : h.at_ <= 12
 ·rw [if_pos h3, if_neg (by omega)]; exact qz7a _ _ _ _ _ _
 rw [if_neg h3]
 by_cases h4 : h.at_ <= 18
 ·rw [if_pos h4, if_pos (by omega)]
 rw [if_neg h4, if_neg (show ¬ (13 <= h.at_ /\ h.at_ <= 18) by omega)]
 split
 ·rfl
 ·split
  ·rfl
  ·exact qzax _ _
end
end Go.Proofs.YthjkdnlmopafkaaGreatDoor
