/-
  What can be asked is asked once at a time; what can't leaves the hand as it is: at every list of bytes the law of calls returns true and leaves its argument as it was. No condition.
-/
import Derived.Laws.StructEq
import Derived.Test.YtclkglkhhnapiaaFnCallP
namespace Go.Proofs.Ytclkglkhhnapiaa
open Go.ChangeShapes Go.WideShapes Go.ChangeAt Go.RowKit
set_option maxRecDepth 100000
set_option maxHeartbeats 16000000
set_option linter.unusedVariables false
set_option linter.unusedSimpArgs false
set_option linter.unnecessarySimpa false
set_option linter.unusedSectionVars false
section
attribute [local go_sem ↓] Go.wp_at_zero Go.wp_at_succ
theorem qz2p (c k v : Int) (w : World) :
  Calls Try.prog 10 #[.int .i64 c, .int .i64 k, .int .i64 v] w fun e w' => e = .returned (.bool (qz2c c k v)) /\ w' = w := by
 by_cases c1 : c = 1
 ·subst c1
  cases e1 : inB k 0 63
  ·have hv : qz2c 1 k v = false := by simp [qz2c, e1]
   go_enter Try.func10, Try.ntmps10
   go_wp2_with (first | (go_at_call 40; refine (qz1j _ _).mono ?_; rintro e w' ⟨rfl, hw⟩; obtain rfl := hw.symm) | (go_at_call 41; refine (qzp _ _ _ _).mono ?_; rintro e w' ⟨rfl, hw⟩; obtain rfl := hw.symm))
   go_ret
   exact ⟨by first | rfl | (rw [hv]; rfl), rfl⟩
  have hv : qz2c 1 k v = inB v 0 9999 := by simp [qz2c, e1]
  go_enter Try.func10, Try.ntmps10
  go_wp2_with (first | (go_at_call 40; refine (qz1j _ _).mono ?_; rintro e w' ⟨rfl, hw⟩; obtain rfl := hw.symm) | (go_at_call 41; refine (qzp _ _ _ _).mono ?_; rintro e w' ⟨rfl, hw⟩; obtain rfl := hw.symm))
  go_ret
  exact ⟨by first | rfl | (rw [hv]; rfl), rfl⟩
 by_cases c7 : c = 7
 ·subst c7
  cases e0 : inB v 0 63
  ·have hv : qz2c 7 k v = false := by simp [qz2c, e0]
   go_enter Try.func10, Try.ntmps10
   go_wp2_with (first | (go_at_call 40; refine (qz1j _ _).mono ?_; rintro e w' ⟨rfl, hw⟩; obtain rfl := hw.symm) | (go_at_call 41; refine (qzp _ _ _ _).mono ?_; rintro e w' ⟨rfl, hw⟩; obtain rfl := hw.symm))
   go_ret
   exact ⟨by first | rfl | (rw [hv]; rfl), rfl⟩
  have e9 : inB v 0 9999 = true := (qz1b _ _ _).2 (by have := (qz1b _ _ _).1 e0; omega)
  cases e1 : inB k 0 63
  ·have hv : qz2c 7 k v = false := by simp [qz2c, e1, e0]
   go_enter Try.func10, Try.ntmps10
   go_wp2_with (first | (go_at_call 40; refine (qz1j _ _).mono ?_; rintro e w' ⟨rfl, hw⟩; obtain rfl := hw.symm) | (go_at_call 41; refine (qzp _ _ _ _).mono ?_; rintro e w' ⟨rfl, hw⟩; obtain rfl := hw.symm))
   go_ret
   exact ⟨by first | rfl | (rw [hv]; rfl), rfl⟩
  have hv : qz2c 7 k v = true := by simp [qz2c, e1, e0]
  go_enter Try.func10, Try.ntmps10
  go_wp2_with (first | (go_at_call 40; refine (qz1j _ _).mono ?_; rintro e w' ⟨rfl, hw⟩; obtain rfl := hw.symm) | (go_at_call 41; refine (qzp _ _ _ _).mono ?_; rintro e w' ⟨rfl, hw⟩; obtain rfl := hw.symm))
  go_ret
  exact ⟨by first | rfl | (rw [hv]; rfl), rfl⟩
 by_cases c2 : c = 2
 ·subst c2
  cases e1 : inB k 0 63
  ·have hv : qz2c 2 k v = false := by simp [qz2c, e1]
   go_enter Try.func10, Try.ntmps10
   go_wp2_with (first | (go_at_call 40; refine (qz1j _ _).mono ?_; rintro e w' ⟨rfl, hw⟩; obtain rfl := hw.symm) | (go_at_call 41; refine (qzp _ _ _ _).mono ?_; rintro e w' ⟨rfl, hw⟩; obtain rfl := hw.symm))
   go_ret
   exact ⟨by first | rfl | (rw [hv]; rfl), rfl⟩
  have hv : qz2c 2 k v = (v == 0) := by simp [qz2c, e1]
  go_enter Try.func10, Try.ntmps10
  go_wp2_with (first | (go_at_call 40; refine (qz1j _ _).mono ?_; rintro e w' ⟨rfl, hw⟩; obtain rfl := hw.symm) | (go_at_call 41; refine (qzp _ _ _ _).mono ?_; rintro e w' ⟨rfl, hw⟩; obtain rfl := hw.symm))
  go_ret
  exact ⟨by first | rfl | (rw [hv]; rfl), rfl⟩
 by_cases c3 : c = 3
 ·subst c3
  cases e1 : inB k 0 63
  ·have hv : qz2c 3 k v = false := by simp [qz2c, e1]
   go_enter Try.func10, Try.ntmps10
   go_wp2_with (first | (go_at_call 40; refine (qz1j _ _).mono ?_; rintro e w' ⟨rfl, hw⟩; obtain rfl := hw.symm) | (go_at_call 41; refine (qzp _ _ _ _).mono ?_; rintro e w' ⟨rfl, hw⟩; obtain rfl := hw.symm))
   go_ret
   exact ⟨by first | rfl | (rw [hv]; rfl), rfl⟩
  have hv : qz2c 3 k v = (v == 0) := by simp [qz2c, e1]
  go_enter Try.func10, Try.ntmps10
  go_wp2_with (first | (go_at_call 40; refine (qz1j _ _).mono ?_; rintro e w' ⟨rfl, hw⟩; obtain rfl := hw.symm) | (go_at_call 41; refine (qzp _ _ _ _).mono ?_; rintro e w' ⟨rfl, hw⟩; obtain rfl := hw.symm))
  go_ret
  exact ⟨by first | rfl | (rw [hv]; rfl), rfl⟩
 by_cases c6 : c = 6
 ·subst c6
  cases e1 : inB k 0 63
  ·have hv : qz2c 6 k v = false := by simp [qz2c, e1]
   go_enter Try.func10, Try.ntmps10
   go_wp2_with (first | (go_at_call 40; refine (qz1j _ _).mono ?_; rintro e w' ⟨rfl, hw⟩; obtain rfl := hw.symm) | (go_at_call 41; refine (qzp _ _ _ _).mono ?_; rintro e w' ⟨rfl, hw⟩; obtain rfl := hw.symm))
   go_ret
   exact ⟨by first | rfl | (rw [hv]; rfl), rfl⟩
  have hv : qz2c 6 k v = (v == 0) := by simp [qz2c, e1]
  go_enter Try.func10, Try.ntmps10
  go_wp2_with (first | (go_at_call 40; refine (qz1j _ _).mono ?_; rintro e w' ⟨rfl, hw⟩; obtain rfl := hw.symm) | (go_at_call 41; refine (qzp _ _ _ _).mono ?_; rintro e w' ⟨rfl, hw⟩; obtain rfl := hw.symm))
  go_ret
  exact ⟨by first | rfl | (rw [hv]; rfl), rfl⟩
 by_cases c4 : c = 4
 ·subst c4
  cases e1 : (k == -1)
  ·have hv : qz2c 4 k v = false := by simp [qz2c, e1]
   go_enter Try.func10, Try.ntmps10
   go_wp2_with (first | (go_at_call 40; refine (qz1j _ _).mono ?_; rintro e w' ⟨rfl, hw⟩; obtain rfl := hw.symm) | (go_at_call 41; refine (qzp _ _ _ _).mono ?_; rintro e w' ⟨rfl, hw⟩; obtain rfl := hw.symm))
   go_ret
   exact ⟨by first | rfl | (rw [hv]; rfl), rfl⟩
  have hv : qz2c 4 k v = (v == 0) := by simp [qz2c, e1]
  go_enter Try.func10, Try.ntmps10
  go_wp2_with (first | (go_at_call 40; refine (qz1j _ _).mono ?_; rintro e w' ⟨rfl, hw⟩; obtain rfl := hw.symm) | (go_at_call 41; refine (qzp _ _ _ _).mono ?_; rintro e w' ⟨rfl, hw⟩; obtain rfl := hw.symm))
  go_ret
  exact ⟨by first | rfl | (rw [hv]; rfl), rfl⟩
 by_cases c5 : c = 5
 ·subst c5
  cases e1 : (k == -1)
  ·have hv : qz2c 5 k v = false := by simp [qz2c, e1]
   go_enter Try.func10, Try.ntmps10
   go_wp2_with (first | (go_at_call 40; refine (qz1j _ _).mono ?_; rintro e w' ⟨rfl, hw⟩; obtain rfl := hw.symm) | (go_at_call 41; refine (qzp _ _ _ _).mono ?_; rintro e w' ⟨rfl, hw⟩; obtain rfl := hw.symm))
   go_ret
   exact ⟨by first | rfl | (rw [hv]; rfl), rfl⟩
  have hv : qz2c 5 k v = (v == 0) := by simp [qz2c, e1]
  go_enter Try.func10, Try.ntmps10
  go_wp2_with (first | (go_at_call 40; refine (qz1j _ _).mono ?_; rintro e w' ⟨rfl, hw⟩; obtain rfl := hw.symm) | (go_at_call 41; refine (qzp _ _ _ _).mono ?_; rintro e w' ⟨rfl, hw⟩; obtain rfl := hw.symm))
  go_ret
  exact ⟨by first | rfl | (rw [hv]; rfl), rfl⟩
 by_cases c8 : c = 8
 ·subst c8
  cases e1 : (k == -1)
  ·have hv : qz2c 8 k v = false := by simp [qz2c, e1]
   go_enter Try.func10, Try.ntmps10
   go_wp2_with (first | (go_at_call 40; refine (qz1j _ _).mono ?_; rintro e w' ⟨rfl, hw⟩; obtain rfl := hw.symm) | (go_at_call 41; refine (qzp _ _ _ _).mono ?_; rintro e w' ⟨rfl, hw⟩; obtain rfl := hw.symm))
   go_ret
   exact ⟨by first | rfl | (rw [hv]; rfl), rfl⟩
  have hv : qz2c 8 k v = (v == 0) := by simp [qz2c, e1]
  go_enter Try.func10, Try.ntmps10
  go_wp2_with (first | (go_at_call 40; refine (qz1j _ _).mono ?_; rintro e w' ⟨rfl, hw⟩; obtain rfl := hw.symm) | (go_at_call 41; refine (qzp _ _ _ _).mono ?_; rintro e w' ⟨rfl, hw⟩; obtain rfl := hw.symm))
  go_ret
  exact ⟨by first | rfl | (rw [hv]; rfl), rfl⟩
 have b1 : (c == 1) = false := by simp [c1]
 have b2 : (c == 2) = false := by simp [c2]
 have b3 : (c == 3) = false := by simp [c3]
 have b4 : (c == 4) = false := by simp [c4]
 have b5 : (c == 5) = false := by simp [c5]
 have b6 : (c == 6) = false := by simp [c6]
 have b7 : (c == 7) = false := by simp [c7]
 have b8 : (c == 8) = false := by simp [c8]
 have hv : qz2c c k v = false := by simp [qz2c, c1, c2, c3, c4, c5, c6, c7, c8]
 go_enter Try.func10, Try.ntmps10
 go_wp2_with (first | (go_at_call 40; refine (qz1j _ _).mono ?_; rintro e w' ⟨rfl, hw⟩; obtain rfl := hw.symm) | (go_at_call 41; refine (qzp _ _ _ _).mono ?_; rintro e w' ⟨rfl, hw⟩; obtain rfl := hw.symm))
 go_ret
 exact ⟨by first | rfl | (rw [hv]; rfl), rfl⟩
def qzb7 (c : Int) : Bool := (c == 5) || (c == 6) || (c == 7)
theorem qz4k (c : Int) (w : World) : Calls Try.prog 77 #[.int .i64 c] w fun e w' => e = .returned (.bool (qzb7 c)) /\ w' = w := by
 by_cases c5 : c = 5
 ·subst c5
  go_enter Try.func77, Try.ntmps77
  go_wp2
  go_ret
  exact ⟨by first | rfl | (rw [hv]; rfl), rfl⟩
 by_cases c6 : c = 6
 ·subst c6
  go_enter Try.func77, Try.ntmps77
  go_wp2
  go_ret
  exact ⟨by first | rfl | (rw [hv]; rfl), rfl⟩
 by_cases c7 : c = 7
 ·subst c7
  go_enter Try.func77, Try.ntmps77
  go_wp2
  go_ret
  exact ⟨by first | rfl | (rw [hv]; rfl), rfl⟩
 have b5 : (c == 5) = false := by simp [c5]
 have b6 : (c == 6) = false := by simp [c6]
 have b7 : (c == 7) = false := by simp [c7]
 have hv : qzb7 c = false := by simp [qzb7, b5, b6, b7]
 go_enter Try.func77, Try.ntmps77
 go_wp2
 go_ret
 exact ⟨by first | rfl | (rw [hv]; rfl), rfl⟩
theorem qz3t (c : Int) (hc : c = 1 ∨ c = 2 ∨ c = 3 ∨ c = 4 ∨ c = 5 ∨ c = 6 ∨ c = 7 ∨ c = 8) (w : World) : Calls Try.prog 38 #[.int .i64 c] w fun e w' => e = .returned (.tuple #[.int .i64 (qz9v c), .int .i64 (qz6v c)]) /\ w' = w := by
 rcases hc with rfl | rfl | rfl | rfl | rfl | rfl | rfl | rfl
 ·go_enter Try.func38, Try.ntmps38
  go_wp2
  go_ret2
  exact ⟨rfl, rfl⟩
 ·go_enter Try.func38, Try.ntmps38
  go_wp2
  go_ret2
  exact ⟨rfl, rfl⟩
 ·go_enter Try.func38, Try.ntmps38
  go_wp2
  go_ret2
  exact ⟨rfl, rfl⟩
 ·go_enter Try.func38, Try.ntmps38
  go_wp2
  go_ret2
  exact ⟨rfl, rfl⟩
 ·go_enter Try.func38, Try.ntmps38
  go_wp2
  go_ret2
  exact ⟨rfl, rfl⟩
 ·go_enter Try.func38, Try.ntmps38
  go_wp2
  go_ret2
  exact ⟨rfl, rfl⟩
 ·go_enter Try.func38, Try.ntmps38
  go_wp2
  go_ret2
  exact ⟨rfl, rfl⟩
 ·go_enter Try.func38, Try.ntmps38
  go_wp2
  go_ret2
  exact ⟨rfl, rfl⟩
theorem qz9y (x y z u : Int) (h : Hd) (c k v : Int) (w : World) :
  Calls Try.prog 36 #[.agg (hdC h).toArray, .agg #[.int .i64 x, .int .i64 y, .int .i64 z, .int .i64 u], .int .i64 c, .int .i64 k, .int .i64 v] w fun e w' => e = .returned (.int .i64 (qz1f x y z u h c k v)) /\ Below w.heap.size w w' := by
 show Calls Try.prog 36 #[.agg #[.int .i64 h.at_, .int .i64 h.then_, .int .i64 h.code, .int .i64 h.key, .int .i64 h.value, .int .i64 h.begin, .int .i64 h.reply, .int .i64 h.out, .int .i64 h.sum, .int .i64 h.held, .int .i64 h.x_, .int .i64 h.ver, .int .i64 h.cam, .int .i64 h.camAt, .int .i64 h.pred, .int .i64 h.predVer, .int .i64 h.curr, .int .i64 h.currVer, .int .i64 h.new_, .int .i64 h.least, .int .i64 h.index, .int .i64 h.round], .agg #[.int .i64 x, .int .i64 y, .int .i64 z, .int .i64 u], .int .i64 c, .int .i64 k, .int .i64 v] w fun e w' => e = .returned (.int .i64 (qz1f x y z u h c k v)) /\ Below w.heap.size w w'
 have P0 := qz1t (w.alloc (.cells (hdC h).toArray 27)) x y z u 25
 have X0 := World.rangeAt_alloc (qzd w (hdC h) 27) (.cells #[.int .i64 x, .int .i64 y, .int .i64 z, .int .i64 u] 25)
 have K0 := ((Below.refl w.heap.size w).alloc (Nat.le_refl _) (.cells (hdC h).toArray 27)).alloc (by simp) (.cells #[.int .i64 x, .int .i64 y, .int .i64 z, .int .i64 u] 25)
 have hz0 : w.heap.size < ((w.alloc (.cells (hdC h).toArray 27)).alloc (.cells #[.int .i64 x, .int .i64 y, .int .i64 z, .int .i64 u] 25)).heap.size := by simp; omega
 simp only [World.size_alloc] at X0 P0
 obtain ⟨p0, p1, p2, p3⟩ := id P0
 go_enter Try.func36, Try.ntmps36
 go_wp2_with (refine wpList_load_mid rfl 27 (.tmp 5) rfl w.heap.size 0 rfl (hdC h) _ ?hc Try.underlying27 rfl (qz1 h) ?_)
 case hc => exact X0
 change Calls Try.prog _ _ ((w.alloc (.cells (hdC h).toArray 27)).alloc (.cells #[.int .i64 x, .int .i64 y, .int .i64 z, .int .i64 u] 25)) _
 generalize hw0 : (w.alloc (.cells (hdC h).toArray 27)).alloc (.cells #[.int .i64 x, .int .i64 y, .int .i64 z, .int .i64 u] 25) = w0 at *
 clear hw0 p0 p1 p2 p3 P0
 refine (qz7h x y z u h _).mono ?_
 rintro e w1 ⟨rfl, b1⟩
 have X1 := qz0 X0 b1 hz0
 have K1 := K0.trans (b1.mono (by omega))
 clear X0 K0 b1 hz0
 have q0 : w1.cell? ⟨w.heap.size, 0, none⟩ = some (.int .i64 h.at_) := by simpa using X1 0 (.int .i64 h.at_) rfl
 have q9 : w1.cell? ⟨w.heap.size, 9, none⟩ = some (.int .i64 h.held) := by simpa using X1 9 (.int .i64 h.held) rfl
 clear X1
 cases e1 : qz3c x y z u h
 ·have hv : qz1f x y z u h c k v = 5 := by simp [qz1f, e1]
  go_wp2
  go_ret
  exact ⟨by first | rfl | (rw [hv]; rfl), K1⟩
 have hheld : -1 <= h.held := by
  have e1' := e1
  simp only [qz3c, qz3s, Bool.and_eq_true, qz1b] at e1'
  omega
 by_cases e2 : h.at_ = 0
 case neg =>
  have hv : qz1f x y z u h c k v = 1 := by simp [qz1f, e1, e2]
  go_wp2
  go_ret
  exact ⟨by first | rfl | (rw [hv]; rfl), K1⟩
 cases e3 : qz2c c k v
 ·have hv : qz1f x y z u h c k v = 2 := by simp [qz1f, e1, e2, e3]
  go_wp2_with (go_at_call 10; refine (qz2p _ _ _ _).mono ?_; rintro e w' ⟨rfl, hw⟩; obtain rfl := hw.symm)
  go_ret
  exact ⟨by first | rfl | (rw [hv]; rfl), K1⟩
 by_cases e4 : h.held = -1
 ·have e4' : h.held < 0 := by omega
  have e5 : ¬ (0 <= h.held) := by omega
  by_cases c5 : c = 5
  ·subst c5
   have ha : qzb7 5 = true := rfl
   have hv : qz1f x y z u h 5 k v = 3 := by simp [qz1f, e1, e2, e3, e4]
   clear e4' hheld
   go_wp2_with (first | (go_at_call 10; refine (qz2p _ _ _ _).mono ?_; rintro e w' ⟨rfl, hw⟩; obtain rfl := hw.symm) | (go_at_call 77; refine (qz4k _ _).mono ?_; rintro e w' ⟨rfl, hw⟩; obtain rfl := hw.symm))
   go_ret
   exact ⟨by first | rfl | (rw [hv]; rfl), K1⟩
  by_cases c6 : c = 6
  ·subst c6
   have ha : qzb7 6 = true := rfl
   have hv : qz1f x y z u h 6 k v = 3 := by simp [qz1f, e1, e2, e3, e4]
   clear e4' hheld
   go_wp2_with (first | (go_at_call 10; refine (qz2p _ _ _ _).mono ?_; rintro e w' ⟨rfl, hw⟩; obtain rfl := hw.symm) | (go_at_call 77; refine (qz4k _ _).mono ?_; rintro e w' ⟨rfl, hw⟩; obtain rfl := hw.symm))
   go_ret
   exact ⟨by first | rfl | (rw [hv]; rfl), K1⟩
  by_cases c7 : c = 7
  ·subst c7
   have ha : qzb7 7 = true := rfl
   have hv : qz1f x y z u h 7 k v = 3 := by simp [qz1f, e1, e2, e3, e4]
   clear e4' hheld
   go_wp2_with (first | (go_at_call 10; refine (qz2p _ _ _ _).mono ?_; rintro e w' ⟨rfl, hw⟩; obtain rfl := hw.symm) | (go_at_call 77; refine (qz4k _ _).mono ?_; rintro e w' ⟨rfl, hw⟩; obtain rfl := hw.symm))
   go_ret
   exact ⟨by first | rfl | (rw [hv]; rfl), K1⟩
  have ha : qzb7 c = false := by simp [qzb7, c5, c6, c7]
  by_cases c4 : c = 4
  ·subst c4
   have hv : qz1f x y z u h 4 k v = 0 := by simp [qz1f, e1, e2, e3, e4]
   clear e4' hheld
   go_wp2_with (first | (go_at_call 10; refine (qz2p _ _ _ _).mono ?_; rintro e w' ⟨rfl, hw⟩; obtain rfl := hw.symm) | (go_at_call 77; refine (qz4k _ _).mono ?_; rintro e w' ⟨rfl, hw⟩; obtain rfl := hw.symm))
   go_ret
   exact ⟨by first | rfl | (rw [hv]; rfl), K1⟩
  have b4 : (c == 4) = false := by simp [c4]
  have hv : qz1f x y z u h c k v = 0 := by simp [qz1f, e1, e2, e3, e5, c5, c6, c7]
  clear e4' hheld
  go_wp2_with (first | (go_at_call 10; refine (qz2p _ _ _ _).mono ?_; rintro e w' ⟨rfl, hw⟩; obtain rfl := hw.symm) | (go_at_call 77; refine (qz4k _ _).mono ?_; rintro e w' ⟨rfl, hw⟩; obtain rfl := hw.symm))
  go_ret
  exact ⟨by first | rfl | (rw [hv]; rfl), K1⟩
 have e4' : ¬ h.held < 0 := by omega
 have e5 : 0 <= h.held := by omega
 have b9 : (h.held == -1) = false := by simp [e4]
 have b9' : (h.held != -1) = true := by simp [e4]
 by_cases c4 : c = 4
 ·subst c4
  have ha : qzb7 4 = false := rfl
  have hv : qz1f x y z u h 4 k v = 4 := by simp [qz1f, e1, e2, e3, e4', e5]
  clear e4' hheld
  go_wp2_with (first | (go_at_call 10; refine (qz2p _ _ _ _).mono ?_; rintro e w' ⟨rfl, hw⟩; obtain rfl := hw.symm) | (go_at_call 77; refine (qz4k _ _).mono ?_; rintro e w' ⟨rfl, hw⟩; obtain rfl := hw.symm))
  go_ret
  exact ⟨by first | rfl | (rw [hv]; rfl), K1⟩
 have b4 : (c == 4) = false := by simp [c4]
 cases ha : qzb7 c
 ·have hv : qz1f x y z u h c k v = 0 := by simp [qz1f, e1, e2, e3, e4', c4]
  clear e4' hheld
  go_wp2_with (first | (go_at_call 10; refine (qz2p _ _ _ _).mono ?_; rintro e w' ⟨rfl, hw⟩; obtain rfl := hw.symm) | (go_at_call 77; refine (qz4k _ _).mono ?_; rintro e w' ⟨rfl, hw⟩; obtain rfl := hw.symm))
  go_ret
  exact ⟨by first | rfl | (rw [hv]; rfl), K1⟩
 have hv : qz1f x y z u h c k v = 0 := by simp [qz1f, e1, e2, e3, e4', c4]
 clear e4' hheld
 go_wp2_with (first | (go_at_call 10; refine (qz2p _ _ _ _).mono ?_; rintro e w' ⟨rfl, hw⟩; obtain rfl := hw.symm) | (go_at_call 77; refine (qz4k _ _).mono ?_; rintro e w' ⟨rfl, hw⟩; obtain rfl := hw.symm))
 go_ret
 exact ⟨by first | rfl | (rw [hv]; rfl), K1⟩
theorem qz7s (x y z u : Int) (h : Hd) (c k v : Int) (w : World) :
  Calls Try.prog 8 #[.agg #[.int .i64 x, .int .i64 y, .int .i64 z, .int .i64 u], .agg (hdC h).toArray, .int .i64 c, .int .i64 k, .int .i64 v] w fun e w' => e = .returned (.tuple #[.agg (hdC (qz1n x y z u h c k v)).toArray, .int .i64 (qz1f x y z u h c k v)]) /\ Below w.heap.size w w' := by
 show Calls Try.prog 8 #[.agg #[.int .i64 x, .int .i64 y, .int .i64 z, .int .i64 u], .agg #[.int .i64 h.at_, .int .i64 h.then_, .int .i64 h.code, .int .i64 h.key, .int .i64 h.value, .int .i64 h.begin, .int .i64 h.reply, .int .i64 h.out, .int .i64 h.sum, .int .i64 h.held, .int .i64 h.x_, .int .i64 h.ver, .int .i64 h.cam, .int .i64 h.camAt, .int .i64 h.pred, .int .i64 h.predVer, .int .i64 h.curr, .int .i64 h.currVer, .int .i64 h.new_, .int .i64 h.least, .int .i64 h.index, .int .i64 h.round], .int .i64 c, .int .i64 k, .int .i64 v] w fun e w' => e = .returned (.tuple #[.agg (hdC (qz1n x y z u h c k v)).toArray, .int .i64 (qz1f x y z u h c k v)]) /\ Below w.heap.size w w'
 have P0 := ((qz1t w x y z u 25).below ((Below.refl _ _).alloc (Nat.le_refl _) (.cells (hdC h).toArray 27)) (by simp)).below ((Below.refl _ _).alloc (Nat.le_refl _) (.cells #[.int .i64 0, .int .i64 0, .int .i64 0, .int .i64 0, .int .i64 0, .int .i64 0, .int .i64 0, .int .i64 0, .int .i64 0, .int .i64 0, .int .i64 0, .int .i64 0, .int .i64 0, .int .i64 0, .int .i64 0, .int .i64 0, .int .i64 0, .int .i64 0, .int .i64 0, .int .i64 0, .int .i64 0, .int .i64 0] 27)) (by simp; omega)
 have X0 := World.rangeAt_alloc (qzd (w.alloc (.cells #[.int .i64 x, .int .i64 y, .int .i64 z, .int .i64 u] 25)) (hdC h) 27) (.cells #[.int .i64 0, .int .i64 0, .int .i64 0, .int .i64 0, .int .i64 0, .int .i64 0, .int .i64 0, .int .i64 0, .int .i64 0, .int .i64 0, .int .i64 0, .int .i64 0, .int .i64 0, .int .i64 0, .int .i64 0, .int .i64 0, .int .i64 0, .int .i64 0, .int .i64 0, .int .i64 0, .int .i64 0, .int .i64 0] 27)
 have F0 := qzh ((w.alloc (.cells #[.int .i64 x, .int .i64 y, .int .i64 z, .int .i64 u] 25)).alloc (.cells (hdC h).toArray 27)) #[.int .i64 0, .int .i64 0, .int .i64 0, .int .i64 0, .int .i64 0, .int .i64 0, .int .i64 0, .int .i64 0, .int .i64 0, .int .i64 0, .int .i64 0, .int .i64 0, .int .i64 0, .int .i64 0, .int .i64 0, .int .i64 0, .int .i64 0, .int .i64 0, .int .i64 0, .int .i64 0, .int .i64 0, .int .i64 0] 27 22 (by decide)
 have K0 := (((Below.refl w.heap.size w).alloc (Nat.le_refl _) (.cells #[.int .i64 x, .int .i64 y, .int .i64 z, .int .i64 u] 25)).alloc (by simp) (.cells (hdC h).toArray 27)).alloc (by simp; omega) (.cells #[.int .i64 0, .int .i64 0, .int .i64 0, .int .i64 0, .int .i64 0, .int .i64 0, .int .i64 0, .int .i64 0, .int .i64 0, .int .i64 0, .int .i64 0, .int .i64 0, .int .i64 0, .int .i64 0, .int .i64 0, .int .i64 0, .int .i64 0, .int .i64 0, .int .i64 0, .int .i64 0, .int .i64 0, .int .i64 0] 27)
 have hz0 : w.heap.size + 1 + 1 < (((w.alloc (.cells #[.int .i64 x, .int .i64 y, .int .i64 z, .int .i64 u] 25)).alloc (.cells (hdC h).toArray 27)).alloc (.cells #[.int .i64 0, .int .i64 0, .int .i64 0, .int .i64 0, .int .i64 0, .int .i64 0, .int .i64 0, .int .i64 0, .int .i64 0, .int .i64 0, .int .i64 0, .int .i64 0, .int .i64 0, .int .i64 0, .int .i64 0, .int .i64 0, .int .i64 0, .int .i64 0, .int .i64 0, .int .i64 0, .int .i64 0, .int .i64 0] 27)).heap.size := by simp
 simp only [World.size_alloc] at X0 F0
 obtain ⟨p0, p1, p2, p3⟩ := id P0
 go_enter Try.func8, Try.ntmps8
 go_wp2_with (refine wpList_load_mid rfl 27 (.tmp 6) rfl (w.heap.size + 1) 0 rfl (hdC h) _ ?hc Try.underlying27 rfl (qz1 h) ?_)
 case hc => exact X0
 change Calls Try.prog _ _ (((w.alloc (.cells #[.int .i64 x, .int .i64 y, .int .i64 z, .int .i64 u] 25)).alloc (.cells (hdC h).toArray 27)).alloc (.cells #[.int .i64 0, .int .i64 0, .int .i64 0, .int .i64 0, .int .i64 0, .int .i64 0, .int .i64 0, .int .i64 0, .int .i64 0, .int .i64 0, .int .i64 0, .int .i64 0, .int .i64 0, .int .i64 0, .int .i64 0, .int .i64 0, .int .i64 0, .int .i64 0, .int .i64 0, .int .i64 0, .int .i64 0, .int .i64 0] 27)) _
 generalize hw0 : ((w.alloc (.cells #[.int .i64 x, .int .i64 y, .int .i64 z, .int .i64 u] 25)).alloc (.cells (hdC h).toArray 27)).alloc (.cells #[.int .i64 0, .int .i64 0, .int .i64 0, .int .i64 0, .int .i64 0, .int .i64 0, .int .i64 0, .int .i64 0, .int .i64 0, .int .i64 0, .int .i64 0, .int .i64 0, .int .i64 0, .int .i64 0, .int .i64 0, .int .i64 0, .int .i64 0, .int .i64 0, .int .i64 0, .int .i64 0, .int .i64 0, .int .i64 0] 27) = w0 at *
 clear hw0 p0 p1 p2 p3 P0
 refine (qz9y x y z u h c k v _).mono ?_
 rintro e w1 ⟨rfl, b1⟩
 have X1 := qz0 X0 b1 (by omega)
 have F1 := qz6 F0 b1 (by omega)
 have K1 := K0.trans (b1.mono (by omega))
 have hz1 := Nat.lt_of_lt_of_le hz0 b1.size
 clear X0 F0 K0 b1 hz0
 by_cases e5 : qz1f x y z u h c k v = 5
 ·have hv : qz1n x y z u h c k v = qz7c := by simp [qz1n, e5]
  rw [e5]
  have hq : Hid (qz1n x y z u h c k v = qz7c /\ qz1f x y z u h c k v = 5) := ⟨hv, e5⟩
  clear hv e5
  go_wp2_with (refine wpList_store_mid rfl 27 (.tmp 10) (.tmp 43) rfl (w.heap.size + 1 + 1) 0 _ rfl rfl ?ht ?hi ?h1 ?_)
  case ht => exact F1
  case hi => exact qza qz7c
  case h1 => exact qzf qz7c
  refine bodyPost_ret (v := .tuple #[.agg (hdC qz7c).toArray, .int .i64 5]) ?_ rfl ⟨by rw [hq.out.1, hq.out.2], ?_⟩
  ·exact qzi Try.results8 _ _ (w.heap.size + 1 + 1) 0 rfl (hdC qz7c) _ (World.rangeAt_setCells_same _ _ _ _ F1) Try.underlying27 rfl (qz1 qz7c)
  ·exact Below.setCells (by omega) _ _ _ K1
 by_cases e0 : qz1f x y z u h c k v = 0
 case neg =>
  have hv : qz1n x y z u h c k v = h := by simp [qz1n, e5, e0]
  have hq : Hid (qz1n x y z u h c k v = h) := hv
  have b0 : (qz1f x y z u h c k v == 0) = false := by simp [e0]
  have b5 : (qz1f x y z u h c k v == 5) = false := by simp [e5]
  clear hv e0 e5
  go_wp2_with (first | (refine wpList_load_mid rfl 27 (.tmp 6) rfl (w.heap.size + 1) 0 rfl (hdC h) _ ?hc Try.underlying27 rfl (qz1 h) ?_) | (refine wpList_store_mid rfl 27 (.tmp 10) (.tmp 21) rfl (w.heap.size + 1 + 1) 0 _ rfl rfl ?ht ?hi ?h1 ?_))
  case hc => exact X1
  case ht => exact F1
  case hi => exact qza h
  case h1 => exact qzf h
  refine bodyPost_ret (v := .tuple #[.agg (hdC h).toArray, .int .i64 (qz1f x y z u h c k v)]) ?_ rfl ⟨by rw [hq.out], ?_⟩
  ·exact qzi Try.results8 _ _ (w.heap.size + 1 + 1) 0 rfl (hdC h) _ (World.rangeAt_setCells_same _ _ _ _ F1) Try.underlying27 rfl (qz1 h)
  ·exact Below.setCells (by omega) _ _ _ K1
 have hv : qz1n x y z u h c k v = qz1h h c k v := by simp [qz1n, e0]
 obtain ⟨_, _, hfit, _, _⟩ := qz48 e0
 rw [e0]
 have hq : Hid (qz1n x y z u h c k v = qz1h h c k v /\ qz1f x y z u h c k v = 0) := ⟨hv, e0⟩
 clear hv e0 e5
 go_wp2_with (refine wpList_load_mid rfl 27 (.tmp 6) rfl (w.heap.size + 1) 0 rfl (hdC h) _ ?hc Try.underlying27 rfl (qz1 h) ?_)
 case hc => exact X1
 refine (qz9h h 0 0 0 _).mono ?_
 rintro e w2 ⟨rfl, b2⟩
 have F2 := qz6 F1 b2 (by omega)
 have K2 := K1.trans (b2.mono (by omega))
 have hz2 := Nat.lt_of_lt_of_le hz1 b2.size
 clear X1 F1 K1 b2 hz1
 have hset : (w2.alloc (.cells #[.int .i64 0, .int .i64 0, .int .i64 0, .int .i64 0, .int .i64 0, .int .i64 0, .int .i64 0, .int .i64 0, .int .i64 0, .int .i64 0, .int .i64 0, .int .i64 0, .int .i64 0, .int .i64 0, .int .i64 0, .int .i64 0, .int .i64 0, .int .i64 0, .int .i64 0, .int .i64 0, .int .i64 0, .int .i64 0] 27)).setCells w2.heap.size 0 (hdC (qzb h 0 0 0)).toArray.toList = w2.alloc (.cells #[.int .i64 0, .int .i64 0, .int .i64 0, .int .i64 (-1), .int .i64 0, .int .i64 0, .int .i64 0, .int .i64 0, .int .i64 0, .int .i64 h.held, .int .i64 0, .int .i64 0, .int .i64 0, .int .i64 0, .int .i64 0, .int .i64 0, .int .i64 (-1), .int .i64 0, .int .i64 (-1), .int .i64 0, .int .i64 0, .int .i64 0] 27) := qz11 w2 27 (hdC (qzb h 0 0 0)) [] [.int .i64 0, .int .i64 0, .int .i64 0, .int .i64 0, .int .i64 0, .int .i64 0, .int .i64 0, .int .i64 0, .int .i64 0, .int .i64 0, .int .i64 0, .int .i64 0, .int .i64 0, .int .i64 0, .int .i64 0, .int .i64 0, .int .i64 0, .int .i64 0, .int .i64 0, .int .i64 0, .int .i64 0, .int .i64 0] rfl
 have FA := qzh w2 #[.int .i64 0, .int .i64 0, .int .i64 0, .int .i64 0, .int .i64 0, .int .i64 0, .int .i64 0, .int .i64 0, .int .i64 0, .int .i64 0, .int .i64 0, .int .i64 0, .int .i64 0, .int .i64 0, .int .i64 0, .int .i64 0, .int .i64 0, .int .i64 0, .int .i64 0, .int .i64 0, .int .i64 0, .int .i64 0] 27 22 (by decide)
 have K3 := K2.alloc (by omega) (.cells (hdC (qz1h h c k v)).toArray 27)
 have R3 := qzd w2 (hdC (qz1h h c k v)) 27
 have F3 := World.there_alloc F2 (.cells (hdC (qz1h h c k v)).toArray 27)
 rcases qz44 hfit with rfl | rfl | rfl | rfl | rfl | rfl | rfl | rfl
 ·go_wp2_with (first | (go_at_call 38; refine (qz3t 1 (by decide) _).mono ?_; rintro e w' ⟨rfl, hw⟩; obtain rfl := hw.symm) | (refine wpList_store_mid rfl 27 (.tmp 13) (.tmp 26) rfl w2.heap.size 0 _ rfl rfl FA (qza (qzb h 0 0 0)) (qzf _) ?_; rw [hset]) | (refine wpList_load_mid rfl 27 (.tmp 13) rfl w2.heap.size 0 rfl (hdC (qz1h h 1 k v)) _ ?hc1 Try.underlying27 rfl (qz1 _) ?_) | (refine wpList_store_mid rfl 27 (.tmp 10) (.tmp 40) rfl (w.heap.size + 1 + 1) 0 _ rfl rfl ?ht1 ?hi1 ?h11 ?_))
  case hc1 => exact R3
  case ht1 => exact F3
  case hi1 => exact qza _
  case h11 => exact qzf _
  refine bodyPost_ret (v := .tuple #[.agg (hdC (qz1h h 1 k v)).toArray, .int .i64 0]) ?_ rfl ⟨by rw [hq.out.1, hq.out.2], ?_⟩
  ·exact qzi Try.results8 _ _ (w.heap.size + 1 + 1) 0 rfl (hdC (qz1h h 1 k v)) _ (World.rangeAt_setCells_same _ _ _ _ F3) Try.underlying27 rfl (qz1 _)
  ·exact Below.setCells (by omega) _ _ _ K3
 ·go_wp2_with (first | (go_at_call 38; refine (qz3t 2 (by decide) _).mono ?_; rintro e w' ⟨rfl, hw⟩; obtain rfl := hw.symm) | (refine wpList_store_mid rfl 27 (.tmp 13) (.tmp 26) rfl w2.heap.size 0 _ rfl rfl FA (qza (qzb h 0 0 0)) (qzf _) ?_; rw [hset]) | (refine wpList_load_mid rfl 27 (.tmp 13) rfl w2.heap.size 0 rfl (hdC (qz1h h 2 k v)) _ ?hc2 Try.underlying27 rfl (qz1 _) ?_) | (refine wpList_store_mid rfl 27 (.tmp 10) (.tmp 40) rfl (w.heap.size + 1 + 1) 0 _ rfl rfl ?ht2 ?hi2 ?h12 ?_))
  case hc2 => exact R3
  case ht2 => exact F3
  case hi2 => exact qza _
  case h12 => exact qzf _
  refine bodyPost_ret (v := .tuple #[.agg (hdC (qz1h h 2 k v)).toArray, .int .i64 0]) ?_ rfl ⟨by rw [hq.out.1, hq.out.2], ?_⟩
  ·exact qzi Try.results8 _ _ (w.heap.size + 1 + 1) 0 rfl (hdC (qz1h h 2 k v)) _ (World.rangeAt_setCells_same _ _ _ _ F3) Try.underlying27 rfl (qz1 _)
  ·exact Below.setCells (by omega) _ _ _ K3
 ·go_wp2_with (first | (go_at_call 38; refine (qz3t 3 (by decide) _).mono ?_; rintro e w' ⟨rfl, hw⟩; obtain rfl := hw.symm) | (refine wpList_store_mid rfl 27 (.tmp 13) (.tmp 26) rfl w2.heap.size 0 _ rfl rfl FA (qza (qzb h 0 0 0)) (qzf _) ?_; rw [hset]) | (refine wpList_load_mid rfl 27 (.tmp 13) rfl w2.heap.size 0 rfl (hdC (qz1h h 3 k v)) _ ?hc3 Try.underlying27 rfl (qz1 _) ?_) | (refine wpList_store_mid rfl 27 (.tmp 10) (.tmp 40) rfl (w.heap.size + 1 + 1) 0 _ rfl rfl ?ht3 ?hi3 ?h13 ?_))
  case hc3 => exact R3
  case ht3 => exact F3
  case hi3 => exact qza _
  case h13 => exact qzf _
  refine bodyPost_ret (v := .tuple #[.agg (hdC (qz1h h 3 k v)).toArray, .int .i64 0]) ?_ rfl ⟨by rw [hq.out.1, hq.out.2], ?_⟩
  ·exact qzi Try.results8 _ _ (w.heap.size + 1 + 1) 0 rfl (hdC (qz1h h 3 k v)) _ (World.rangeAt_setCells_same _ _ _ _ F3) Try.underlying27 rfl (qz1 _)
  ·exact Below.setCells (by omega) _ _ _ K3
 ·go_wp2_with (first | (go_at_call 38; refine (qz3t 4 (by decide) _).mono ?_; rintro e w' ⟨rfl, hw⟩; obtain rfl := hw.symm) | (refine wpList_store_mid rfl 27 (.tmp 13) (.tmp 26) rfl w2.heap.size 0 _ rfl rfl FA (qza (qzb h 0 0 0)) (qzf _) ?_; rw [hset]) | (refine wpList_load_mid rfl 27 (.tmp 13) rfl w2.heap.size 0 rfl (hdC (qz1h h 4 k v)) _ ?hc4 Try.underlying27 rfl (qz1 _) ?_) | (refine wpList_store_mid rfl 27 (.tmp 10) (.tmp 40) rfl (w.heap.size + 1 + 1) 0 _ rfl rfl ?ht4 ?hi4 ?h14 ?_))
  case hc4 => exact R3
  case ht4 => exact F3
  case hi4 => exact qza _
  case h14 => exact qzf _
  refine bodyPost_ret (v := .tuple #[.agg (hdC (qz1h h 4 k v)).toArray, .int .i64 0]) ?_ rfl ⟨by rw [hq.out.1, hq.out.2], ?_⟩
  ·exact qzi Try.results8 _ _ (w.heap.size + 1 + 1) 0 rfl (hdC (qz1h h 4 k v)) _ (World.rangeAt_setCells_same _ _ _ _ F3) Try.underlying27 rfl (qz1 _)
  ·exact Below.setCells (by omega) _ _ _ K3
 ·go_wp2_with (first | (go_at_call 38; refine (qz3t 5 (by decide) _).mono ?_; rintro e w' ⟨rfl, hw⟩; obtain rfl := hw.symm) | (refine wpList_store_mid rfl 27 (.tmp 13) (.tmp 26) rfl w2.heap.size 0 _ rfl rfl FA (qza (qzb h 0 0 0)) (qzf _) ?_; rw [hset]) | (refine wpList_load_mid rfl 27 (.tmp 13) rfl w2.heap.size 0 rfl (hdC (qz1h h 5 k v)) _ ?hc5 Try.underlying27 rfl (qz1 _) ?_) | (refine wpList_store_mid rfl 27 (.tmp 10) (.tmp 40) rfl (w.heap.size + 1 + 1) 0 _ rfl rfl ?ht5 ?hi5 ?h15 ?_))
  case hc5 => exact R3
  case ht5 => exact F3
  case hi5 => exact qza _
  case h15 => exact qzf _
  refine bodyPost_ret (v := .tuple #[.agg (hdC (qz1h h 5 k v)).toArray, .int .i64 0]) ?_ rfl ⟨by rw [hq.out.1, hq.out.2], ?_⟩
  ·exact qzi Try.results8 _ _ (w.heap.size + 1 + 1) 0 rfl (hdC (qz1h h 5 k v)) _ (World.rangeAt_setCells_same _ _ _ _ F3) Try.underlying27 rfl (qz1 _)
  ·exact Below.setCells (by omega) _ _ _ K3
 ·go_wp2_with (first | (go_at_call 38; refine (qz3t 6 (by decide) _).mono ?_; rintro e w' ⟨rfl, hw⟩; obtain rfl := hw.symm) | (refine wpList_store_mid rfl 27 (.tmp 13) (.tmp 26) rfl w2.heap.size 0 _ rfl rfl FA (qza (qzb h 0 0 0)) (qzf _) ?_; rw [hset]) | (refine wpList_load_mid rfl 27 (.tmp 13) rfl w2.heap.size 0 rfl (hdC (qz1h h 6 k v)) _ ?hc6 Try.underlying27 rfl (qz1 _) ?_) | (refine wpList_store_mid rfl 27 (.tmp 10) (.tmp 40) rfl (w.heap.size + 1 + 1) 0 _ rfl rfl ?ht6 ?hi6 ?h16 ?_))
  case hc6 => exact R3
  case ht6 => exact F3
  case hi6 => exact qza _
  case h16 => exact qzf _
  refine bodyPost_ret (v := .tuple #[.agg (hdC (qz1h h 6 k v)).toArray, .int .i64 0]) ?_ rfl ⟨by rw [hq.out.1, hq.out.2], ?_⟩
  ·exact qzi Try.results8 _ _ (w.heap.size + 1 + 1) 0 rfl (hdC (qz1h h 6 k v)) _ (World.rangeAt_setCells_same _ _ _ _ F3) Try.underlying27 rfl (qz1 _)
  ·exact Below.setCells (by omega) _ _ _ K3
 ·go_wp2_with (first | (go_at_call 38; refine (qz3t 7 (by decide) _).mono ?_; rintro e w' ⟨rfl, hw⟩; obtain rfl := hw.symm) | (refine wpList_store_mid rfl 27 (.tmp 13) (.tmp 26) rfl w2.heap.size 0 _ rfl rfl FA (qza (qzb h 0 0 0)) (qzf _) ?_; rw [hset]) | (refine wpList_load_mid rfl 27 (.tmp 13) rfl w2.heap.size 0 rfl (hdC (qz1h h 7 k v)) _ ?hc7 Try.underlying27 rfl (qz1 _) ?_) | (refine wpList_store_mid rfl 27 (.tmp 10) (.tmp 40) rfl (w.heap.size + 1 + 1) 0 _ rfl rfl ?ht7 ?hi7 ?h17 ?_))
  case hc7 => exact R3
  case ht7 => exact F3
  case hi7 => exact qza _
  case h17 => exact qzf _
  refine bodyPost_ret (v := .tuple #[.agg (hdC (qz1h h 7 k v)).toArray, .int .i64 0]) ?_ rfl ⟨by rw [hq.out.1, hq.out.2], ?_⟩
  ·exact qzi Try.results8 _ _ (w.heap.size + 1 + 1) 0 rfl (hdC (qz1h h 7 k v)) _ (World.rangeAt_setCells_same _ _ _ _ F3) Try.underlying27 rfl (qz1 _)
  ·exact Below.setCells (by omega) _ _ _ K3
 ·go_wp2_with (first | (go_at_call 38; refine (qz3t 8 (by decide) _).mono ?_; rintro e w' ⟨rfl, hw⟩; obtain rfl := hw.symm) | (refine wpList_store_mid rfl 27 (.tmp 13) (.tmp 26) rfl w2.heap.size 0 _ rfl rfl FA (qza (qzb h 0 0 0)) (qzf _) ?_; rw [hset]) | (refine wpList_load_mid rfl 27 (.tmp 13) rfl w2.heap.size 0 rfl (hdC (qz1h h 8 k v)) _ ?hc8 Try.underlying27 rfl (qz1 _) ?_) | (refine wpList_store_mid rfl 27 (.tmp 10) (.tmp 40) rfl (w.heap.size + 1 + 1) 0 _ rfl rfl ?ht8 ?hi8 ?h18 ?_))
  case hc8 => exact R3
  case ht8 => exact F3
  case hi8 => exact qza _
  case h18 => exact qzf _
  refine bodyPost_ret (v := .tuple #[.agg (hdC (qz1h h 8 k v)).toArray, .int .i64 0]) ?_ rfl ⟨by rw [hq.out.1, hq.out.2], ?_⟩
  ·exact qzi Try.results8 _ _ (w.heap.size + 1 + 1) 0 rfl (hdC (qz1h h 8 k v)) _ (World.rangeAt_setCells_same _ _ _ _ F3) Try.underlying27 rfl (qz1 _)
  ·exact Below.setCells (by omega) _ _ _ K3
end
section
theorem qz6w (g : Hd) (w : World) : (Op.equalIn 10000 27 (.agg (hdC g).toArray) (.agg (hdC g).toArray)).run Try.prog w = .ok true w := by
 have hS : Try.prog.underlying 27 = some (.struct (Try.prog.fieldsOf 27)) := by kernel_rfl
 have hp : Try.prog.stoodInHeld 27 = false := by kernel_rfl
 rw [show (10000 : Nat) = 9999 + 1 from rfl, run_equalIn_agg w 9999 27 _ _ hS hp]
 simp only [Program.fieldsOf, Try.underlying27, hdC]
 go_simp
theorem qz6n (ev : Operand -> Value) (o : Oper) (x y : Operand) (t' : TypeId) (ho : o.op = .binOp .eql 27 x y t') (g : Hd) (hx : ev x = .agg (hdC g).toArray) (hy : ev y = .agg (hdC g).toArray) (w : World) : (execOp ev o).run Try.prog w = .ok (.value (.bool true)) w := by
 have hm : Try.prog.eqGuardType Try.prog.depth 27 = false := by kernel_rfl
 have h1 := qz6w g w
 simp [execOp, ho, hx, hy, run_eqGuard_agg w .eql 27 x y _ _ hm, run_eql_struct, h1, Result.andThen]
end
section
open Go.ChangeShapes Go.WideShapes Go.ChangeAt Go.RowKit Go.Sort
attribute [local go_sem ↓] Go.wp_at_zero Go.wp_at_succ
theorem qzad {H : Type} {enc : TypeId × Value -> H} {W : World} {r : Reach} {b0 base : Nat} {spare : Nat -> Bool} {held : Bool} {v : Value} {d : DataW H} {p : List MemPlace} (hv : Value.okWide Try.prog W r b0 22 v) (h : DataW.Trod enc Try.prog W base spare held 22 v d p) :
  ∃ a len cap, v = .slice a len cap /\ qz1p W.heap.size W a len := by
 obtain ⟨a, len, cap, rfl⟩ := okWide_slice Try.underlying22 hv
 obtain ⟨fuel, hf⟩ := h
 refine ⟨a, len, cap, rfl, ?_⟩
 rcases open_ints Try.underlying22 Try.underlying5 (by kernel_rfl) hf with ⟨hcs, _⟩ | ⟨x, l, c, zs, hcs, _, hl, hm, hz, _, hcell, hwz⟩
 ·simp [Value.cells] at hcs
  obtain ⟨rfl, rfl, rfl⟩ := hcs
  intro j hj
  omega
 ·simp [Value.cells] at hcs
  obtain ⟨rfl, rfl, rfl⟩ := hcs
  intro j hj
  have hj2 : j < zs.length := by
   rw [hz]
   split <;> omega
  have hc := hcell j hj2
  obtain ⟨bb, off, spot⟩ := x
  have hspot : spot = none := by simpa [Addr.add] using World.cell?_spot (hcell 0 (by omega))
  subst hspot
  rw [Addr.add_mid] at hc
  have hw := hwz (zs.getD j 0) (by rw [List.getD_eq_getElem?_getD, List.getElem?_eq_getElem hj2]; exact List.getElem_mem hj2)
  have hb := bounds_u8 hw
  exact ⟨bb, off, zs.getD j 0, rfl, World.block_lt_of_cell? W _ hc, hc, hb.1, hb.2⟩
theorem qzar {x y z u : Int} {g : Hd} {c q v : Int} (e : qz1f x y z u g c q v = 0) : qz3c x y z u (qz1h g c q v) = true := by
 obtain ⟨h1, h2, h3, h4, h5⟩ := qz48 e
 have hc := qz44 h3
 have h1' := h1
 unfold qz3c at h1'
 simp only [Bool.and_eq_true] at h1'
 have hp := (qz28 x y z u).1 h1'.1.1
 have hf := h1'.2
 unfold qz3s at hf
 simp only [Bool.and_eq_true, qz1b] at hf
 have hk : -1 <= q /\ q <= 63 /\ 0 <= v /\ v <= 9999 := by
  clear hf h1' h1 e
  rcases hc with rfl | rfl | rfl | rfl | rfl | rfl | rfl | rfl <;> simp [qz2c, inB] at h3 <;> omega
 have ha : 1 <= qz9v c /\ qz9v c <= 20 /\ 0 <= qz6v c /\ qz6v c <= 6 /\ 1 <= c /\ c <= 8 := by
  rcases hc with rfl | rfl | rfl | rfl | rfl | rfl | rfl | rfl <;> decide
 unfold qz3c
 rw [h1'.1.1]
 simp only [Bool.true_and, Bool.and_eq_true]
 unfold qz41 qz3s
 simp only [Bool.and_eq_true, qz1b]
 refine ⟨?_, ?_⟩ <;> simp only [qz1h] <;> omega
theorem qzb0 {x y z u : Int} {g : Hd} {c q v : Int} (e : qz1f x y z u g c q v = 0) : qz1f x y z u (qz1h g c q v) c q v = 1 := by
 obtain ⟨h1, h2, h3, h4, h5⟩ := qz48 e
 have hc := qz44 h3
 have ha : (qz1h g c q v).at_ ≠ 0 := by
  show qz9v c ≠ 0
  rcases hc with rfl | rfl | rfl | rfl | rfl | rfl | rfl | rfl <;> decide
 unfold qz1f
 rw [if_neg (by rw [qzar e]; decide), if_pos ha]
theorem qz3a {P : Program} {ops : Array Oper} {rest : List Oper} {op : Oper} {a : Act} {w : World} {Q : Exit -> Act -> World -> Prop} (hw : Region.wanted op (yielded ops a.tmps) = true) (v : Value)
  (he : (execOp a.eval op).run P w = .ok (.value v) w) (h : wpList P ops Q rest (a.put op.dst v) w) : wpList P ops Q (op :: rest) a w :=
 wpList_step fun K hK => by
  rw [if_pos hw]
  unfold Oper.wp
  rw [he]
  exact hK _ _ h
theorem qz8m (ev : Operand -> Value) (o : Oper) (x y : Operand) (t' : TypeId) (ho : o.op = .binOp .neq 27 x y t') (g : Hd) (hx : ev x = .agg (hdC g).toArray) (hy : ev y = .agg (hdC g).toArray) (w : World) : (execOp ev o).run Try.prog w = .ok (.value (.bool false)) w := by
 have hm : Try.prog.eqGuardType Try.prog.depth 27 = false := by kernel_rfl
 have h1 := qz6w g w
 simp [execOp, ho, hx, hy, run_eqGuard_agg w .neq 27 x y _ _ hm, run_neq_struct, h1, Result.andThen]
theorem qz7i (a : Option Addr) (len cap : Nat) (w : World) (C : qz1p w.heap.size w a len) :
  Calls Try.prog 3 #[.slice a len cap] w fun e w' => e = .returned (.bool true) /\ Below w.heap.size w w' := by
 by_cases hbig : (4096 : Int) < (len : Int)
 ·go_enter Try.func3, Try.ntmps3
  go_wp2_with (go_at_call 6; refine (qzc5 _ _ _ _).mono ?_; rintro e w' ⟨rfl, rfl⟩)
  go_ret
  exact ⟨rfl, Below.refl _ _⟩
 have hlen : len <= 4096 := by omega
 have hbf : decide ((4096 : Int) < (len : Int)) = false := by simpa using hbig
 go_enter Try.func3, Try.ntmps3
 go_wp2_with fail
 refine (qzc5 _ _ _ _).mono ?_
 rintro e w0 ⟨rfl, hw⟩
 obtain rfl := hw.symm
 rw [hbf]
 go_wp2_with fail
 refine (qz75 a len cap _ hlen C).mono ?_
 rintro e w1 ⟨x, y, z, u, g, c, q, v, rfl, b1⟩
 have TP := World.there_alloc (qzh w1 #[.int .i64 0, .int .i64 0, .int .i64 0, .int .i64 0] 25 4 (by decide)) (.cells #[.int .i64 0, .int .i64 0, .int .i64 0, .int .i64 0, .int .i64 0, .int .i64 0, .int .i64 0, .int .i64 0, .int .i64 0, .int .i64 0, .int .i64 0, .int .i64 0, .int .i64 0, .int .i64 0, .int .i64 0, .int .i64 0, .int .i64 0, .int .i64 0, .int .i64 0, .int .i64 0, .int .i64 0, .int .i64 0] 27)
 have TH := World.there_setCells (qzh (w1.alloc (.cells #[.int .i64 0, .int .i64 0, .int .i64 0, .int .i64 0] 25)) #[.int .i64 0, .int .i64 0, .int .i64 0, .int .i64 0, .int .i64 0, .int .i64 0, .int .i64 0, .int .i64 0, .int .i64 0, .int .i64 0, .int .i64 0, .int .i64 0, .int .i64 0, .int .i64 0, .int .i64 0, .int .i64 0, .int .i64 0, .int .i64 0, .int .i64 0, .int .i64 0, .int .i64 0, .int .i64 0] 27 22 (by decide)) w1.heap.size 0 [.int .i64 x, .int .i64 y, .int .i64 z, .int .i64 u]
 simp only [World.size_alloc] at TH
 have KA : Below w1.heap.size w1 ((((w1.alloc (.cells #[.int .i64 0, .int .i64 0, .int .i64 0, .int .i64 0] 25)).alloc (.cells #[.int .i64 0, .int .i64 0, .int .i64 0, .int .i64 0, .int .i64 0, .int .i64 0, .int .i64 0, .int .i64 0, .int .i64 0, .int .i64 0, .int .i64 0, .int .i64 0, .int .i64 0, .int .i64 0, .int .i64 0, .int .i64 0, .int .i64 0, .int .i64 0, .int .i64 0, .int .i64 0, .int .i64 0, .int .i64 0] 27)).setCells w1.heap.size 0 [.int .i64 x, .int .i64 y, .int .i64 z, .int .i64 u]).setCells (w1.heap.size + 1) 0 (hdC g)) := Below.setCells (by omega) _ _ _ (Below.setCells (Nat.le_refl _) _ _ _ (((Below.refl _ _).alloc (Nat.le_refl _) _).alloc (by simp) _))
 have HA : ((((w1.alloc (.cells #[.int .i64 0, .int .i64 0, .int .i64 0, .int .i64 0] 25)).alloc (.cells #[.int .i64 0, .int .i64 0, .int .i64 0, .int .i64 0, .int .i64 0, .int .i64 0, .int .i64 0, .int .i64 0, .int .i64 0, .int .i64 0, .int .i64 0, .int .i64 0, .int .i64 0, .int .i64 0, .int .i64 0, .int .i64 0, .int .i64 0, .int .i64 0, .int .i64 0, .int .i64 0, .int .i64 0, .int .i64 0] 27)).setCells w1.heap.size 0 [.int .i64 x, .int .i64 y, .int .i64 z, .int .i64 u]).setCells (w1.heap.size + 1) 0 (hdC g)).rangeAt (w1.heap.size + 1) 0 (hdC g) := World.rangeAt_setCells_same _ _ _ _ TH
 have PA : ((((w1.alloc (.cells #[.int .i64 0, .int .i64 0, .int .i64 0, .int .i64 0] 25)).alloc (.cells #[.int .i64 0, .int .i64 0, .int .i64 0, .int .i64 0, .int .i64 0, .int .i64 0, .int .i64 0, .int .i64 0, .int .i64 0, .int .i64 0, .int .i64 0, .int .i64 0, .int .i64 0, .int .i64 0, .int .i64 0, .int .i64 0, .int .i64 0, .int .i64 0, .int .i64 0, .int .i64 0, .int .i64 0, .int .i64 0] 27)).setCells w1.heap.size 0 [.int .i64 x, .int .i64 y, .int .i64 z, .int .i64 u]).setCells (w1.heap.size + 1) 0 (hdC g)).rangeAt w1.heap.size 0 [.int .i64 x, .int .i64 y, .int .i64 z, .int .i64 u] := qz3 (World.rangeAt_setCells_same _ _ _ _ TP) (qz8 (w1.heap.size + 1) (hdC g) 0 _) (by rw [qzj]; simp; omega) (by omega)
 have zA : w1.heap.size + 2 <= ((((w1.alloc (.cells #[.int .i64 0, .int .i64 0, .int .i64 0, .int .i64 0] 25)).alloc (.cells #[.int .i64 0, .int .i64 0, .int .i64 0, .int .i64 0, .int .i64 0, .int .i64 0, .int .i64 0, .int .i64 0, .int .i64 0, .int .i64 0, .int .i64 0, .int .i64 0, .int .i64 0, .int .i64 0, .int .i64 0, .int .i64 0, .int .i64 0, .int .i64 0, .int .i64 0, .int .i64 0, .int .i64 0, .int .i64 0] 27)).setCells w1.heap.size 0 [.int .i64 x, .int .i64 y, .int .i64 z, .int .i64 u]).setCells (w1.heap.size + 1) 0 (hdC g)).heap.size := by rw [qzj, qzj]; simp
 go_wp2_with (first | (refine wpList_store_mid rfl 25 (.tmp 3) (.tmp 19) rfl w1.heap.size 0 #[.int .i64 x, .int .i64 y, .int .i64 z, .int .i64 u] ?sx1 ?sy1 ?st1 qzn (by simp [Value.oneCell']) ?_; all_goals (have tkA : True := trivial)) | (clear tkA; refine qz2e _ ?_))
 try (case sx1 => rfl)
 try (case sy1 => rfl)
 try (case st1 => exact TP)
 show wpList _ _ _ _ _ _
 refine wpList_store_mid rfl 27 (.tmp 4) (.tmp 20) rfl (w1.heap.size + 1) 0 (hdC g).toArray rfl rfl ?st2 (qza g) (qzf g) ?_
 case st2 => exact TH
 show wpList _ _ _ _ _ ((((w1.alloc (.cells #[.int .i64 0, .int .i64 0, .int .i64 0, .int .i64 0] 25)).alloc (.cells #[.int .i64 0, .int .i64 0, .int .i64 0, .int .i64 0, .int .i64 0, .int .i64 0, .int .i64 0, .int .i64 0, .int .i64 0, .int .i64 0, .int .i64 0, .int .i64 0, .int .i64 0, .int .i64 0, .int .i64 0, .int .i64 0, .int .i64 0, .int .i64 0, .int .i64 0, .int .i64 0, .int .i64 0, .int .i64 0] 27)).setCells w1.heap.size 0 [.int .i64 x, .int .i64 y, .int .i64 z, .int .i64 u]).setCells (w1.heap.size + 1) 0 (hdC g))
 clear TP TH
 have K2 := b1.trans (KA.mono b1.size)
 have zz1 := b1.size
 generalize (((w1.alloc (.cells #[.int .i64 0, .int .i64 0, .int .i64 0, .int .i64 0] 25)).alloc (.cells #[.int .i64 0, .int .i64 0, .int .i64 0, .int .i64 0, .int .i64 0, .int .i64 0, .int .i64 0, .int .i64 0, .int .i64 0, .int .i64 0, .int .i64 0, .int .i64 0, .int .i64 0, .int .i64 0, .int .i64 0, .int .i64 0, .int .i64 0, .int .i64 0, .int .i64 0, .int .i64 0, .int .i64 0, .int .i64 0] 27)).setCells w1.heap.size 0 [.int .i64 x, .int .i64 y, .int .i64 z, .int .i64 u]).setCells (w1.heap.size + 1) 0 (hdC g) = w2 at *
 show wpList _ _ _ _ _ w2
 clear KA b1
 generalize hbh : w1.heap.size + 1 = bh at *
 generalize hbp : w1.heap.size = bp at *
 have hz2 : bh < w2.heap.size := by omega
 have hlt : bp < bh := by omega
 clear hbh hbp zA
 obtain ⟨X, hX⟩ : ∃ X, Hid (qz1n x y z u g c q v = X) := ⟨_, rfl⟩
 obtain ⟨cd, hC⟩ : ∃ cd, Hid (qz1f x y z u g c q v = cd) := ⟨_, rfl⟩
 have p0 : w2.cell? ⟨bp, 0, none⟩ = some (.int .i64 x) := by simpa using PA 0 (.int .i64 x) rfl
 have p1 : w2.cell? ⟨bp, 1, none⟩ = some (.int .i64 y) := by simpa using PA 1 (.int .i64 y) rfl
 have p2 : w2.cell? ⟨bp, 2, none⟩ = some (.int .i64 z) := by simpa using PA 2 (.int .i64 z) rfl
 have p3 : w2.cell? ⟨bp, 3, none⟩ = some (.int .i64 u) := by simpa using PA 3 (.int .i64 u) rfl
 go_wp2_with (refine wpList_load_mid rfl 27 (.tmp 4) rfl bh 0 ?l2a (hdC g) _ ?l2b Try.underlying27 rfl (qz1 _) ?_)
 try (case l2a => rfl)
 try (case l2b => exact HA)
 refine (qz7s x y z u g c q v _).mono ?_
 rintro e w3 ⟨rfl, b2⟩
 rw [hX.out, hC.out]
 clear p0 p1 p2 p3
 replace PA := qz0 PA b2 (by omega)
 replace HA := qz0 HA b2 (by omega)
 have K3 := K2.trans (b2.mono (by omega))
 have hz3 := Nat.lt_of_lt_of_le hz2 b2.size
 clear K2 hz2 b2
 have F3 := qzh w3 #[.int .i64 0, .int .i64 0, .int .i64 0, .int .i64 0, .int .i64 0, .int .i64 0, .int .i64 0, .int .i64 0, .int .i64 0, .int .i64 0, .int .i64 0, .int .i64 0, .int .i64 0, .int .i64 0, .int .i64 0, .int .i64 0, .int .i64 0, .int .i64 0, .int .i64 0, .int .i64 0, .int .i64 0, .int .i64 0] 27 22 (by decide)
 have al3 : Below w3.heap.size w3 ((w3.alloc (.cells #[.int .i64 0, .int .i64 0, .int .i64 0, .int .i64 0, .int .i64 0, .int .i64 0, .int .i64 0, .int .i64 0, .int .i64 0, .int .i64 0, .int .i64 0, .int .i64 0, .int .i64 0, .int .i64 0, .int .i64 0, .int .i64 0, .int .i64 0, .int .i64 0, .int .i64 0, .int .i64 0, .int .i64 0, .int .i64 0] 27)).setCells w3.heap.size 0 (hdC (X)).toArray.toList) := Below.setCells (Nat.le_refl _) _ _ _ ((Below.refl _ _).alloc (Nat.le_refl _) _)
 have bxR : ((w3.alloc (.cells #[.int .i64 0, .int .i64 0, .int .i64 0, .int .i64 0, .int .i64 0, .int .i64 0, .int .i64 0, .int .i64 0, .int .i64 0, .int .i64 0, .int .i64 0, .int .i64 0, .int .i64 0, .int .i64 0, .int .i64 0, .int .i64 0, .int .i64 0, .int .i64 0, .int .i64 0, .int .i64 0, .int .i64 0, .int .i64 0] 27)).setCells w3.heap.size 0 (hdC (X)).toArray.toList).rangeAt w3.heap.size 0 (hdC (X)) := World.rangeAt_setCells_same _ _ _ _ F3
 replace PA := qz0 PA al3 (by omega)
 replace HA := qz0 HA al3 (by omega)
 have K4 := K3.trans (al3.mono (by omega))
 have bxz : w3.heap.size < ((w3.alloc (.cells #[.int .i64 0, .int .i64 0, .int .i64 0, .int .i64 0, .int .i64 0, .int .i64 0, .int .i64 0, .int .i64 0, .int .i64 0, .int .i64 0, .int .i64 0, .int .i64 0, .int .i64 0, .int .i64 0, .int .i64 0, .int .i64 0, .int .i64 0, .int .i64 0, .int .i64 0, .int .i64 0, .int .i64 0, .int .i64 0] 27)).setCells w3.heap.size 0 (hdC (X)).toArray.toList).heap.size := by rw [qzj]; simp
 have bxl : bh < w3.heap.size := hz3
 go_wp2_with (first | (refine wpList_store_mid rfl 27 (.tmp 8) (.tmp 31) rfl w3.heap.size 0 (hdC (X)).toArray ?sx3 ?sy3 ?st3 (qza (X)) (qzf _) ?_; all_goals (have tk4 : True := trivial)) | (clear tk4; refine qz2e _ ?_))
 try (case sx3 => rfl)
 try (case sy3 => rfl)
 try (case st3 => exact F3)
 show wpList _ _ _ _ _ ((w3.alloc (.cells #[.int .i64 0, .int .i64 0, .int .i64 0, .int .i64 0, .int .i64 0, .int .i64 0, .int .i64 0, .int .i64 0, .int .i64 0, .int .i64 0, .int .i64 0, .int .i64 0, .int .i64 0, .int .i64 0, .int .i64 0, .int .i64 0, .int .i64 0, .int .i64 0, .int .i64 0, .int .i64 0, .int .i64 0, .int .i64 0] 27)).setCells w3.heap.size 0 (hdC (X)).toArray.toList)
 clear F3 al3 K3 hz3
 generalize (w3.alloc (.cells #[.int .i64 0, .int .i64 0, .int .i64 0, .int .i64 0, .int .i64 0, .int .i64 0, .int .i64 0, .int .i64 0, .int .i64 0, .int .i64 0, .int .i64 0, .int .i64 0, .int .i64 0, .int .i64 0, .int .i64 0, .int .i64 0, .int .i64 0, .int .i64 0, .int .i64 0, .int .i64 0, .int .i64 0, .int .i64 0] 27)).setCells w3.heap.size 0 (hdC (X)).toArray.toList = w4 at *
 show wpList _ _ _ _ _ w4
 generalize w3.heap.size = bx at *
 have hz4 : bx < w4.heap.size := bxz
 clear bxz
 have p0 : w4.cell? ⟨bp, 0, none⟩ = some (.int .i64 x) := by simpa using PA 0 (.int .i64 x) rfl
 have p1 : w4.cell? ⟨bp, 1, none⟩ = some (.int .i64 y) := by simpa using PA 1 (.int .i64 y) rfl
 have p2 : w4.cell? ⟨bp, 2, none⟩ = some (.int .i64 z) := by simpa using PA 2 (.int .i64 z) rfl
 have p3 : w4.cell? ⟨bp, 3, none⟩ = some (.int .i64 u) := by simpa using PA 3 (.int .i64 u) rfl
 go_wp2_with (refine wpList_load_mid rfl 27 (.tmp 4) rfl bh 0 ?l4a (hdC g) _ ?l4b Try.underlying27 rfl (qz1 _) ?_)
 try (case l4a => rfl)
 try (case l4b => exact HA)
 refine (qz58 x y z u g c q v _).mono ?_
 rintro e w5 ⟨rfl, b4⟩
 rw [hX.out, hC.out]
 clear p0 p1 p2 p3
 replace PA := qz0 PA b4 (by omega)
 replace HA := qz0 HA b4 (by omega)
 replace bxR := qz0 bxR b4 (by omega)
 have K5 := K4.trans (b4.mono (by omega))
 have hz5 := Nat.lt_of_lt_of_le hz4 b4.size
 clear K4 hz4 b4
 have F5 := qzh w5 #[.int .i64 0, .int .i64 0, .int .i64 0, .int .i64 0, .int .i64 0, .int .i64 0, .int .i64 0, .int .i64 0, .int .i64 0, .int .i64 0, .int .i64 0, .int .i64 0, .int .i64 0, .int .i64 0, .int .i64 0, .int .i64 0, .int .i64 0, .int .i64 0, .int .i64 0, .int .i64 0, .int .i64 0, .int .i64 0] 27 22 (by decide)
 have al5 : Below w5.heap.size w5 ((w5.alloc (.cells #[.int .i64 0, .int .i64 0, .int .i64 0, .int .i64 0, .int .i64 0, .int .i64 0, .int .i64 0, .int .i64 0, .int .i64 0, .int .i64 0, .int .i64 0, .int .i64 0, .int .i64 0, .int .i64 0, .int .i64 0, .int .i64 0, .int .i64 0, .int .i64 0, .int .i64 0, .int .i64 0, .int .i64 0, .int .i64 0] 27)).setCells w5.heap.size 0 (hdC (X)).toArray.toList) := Below.setCells (Nat.le_refl _) _ _ _ ((Below.refl _ _).alloc (Nat.le_refl _) _)
 have bzR : ((w5.alloc (.cells #[.int .i64 0, .int .i64 0, .int .i64 0, .int .i64 0, .int .i64 0, .int .i64 0, .int .i64 0, .int .i64 0, .int .i64 0, .int .i64 0, .int .i64 0, .int .i64 0, .int .i64 0, .int .i64 0, .int .i64 0, .int .i64 0, .int .i64 0, .int .i64 0, .int .i64 0, .int .i64 0, .int .i64 0, .int .i64 0] 27)).setCells w5.heap.size 0 (hdC (X)).toArray.toList).rangeAt w5.heap.size 0 (hdC (X)) := World.rangeAt_setCells_same _ _ _ _ F5
 replace PA := qz0 PA al5 (by omega)
 replace HA := qz0 HA al5 (by omega)
 replace bxR := qz0 bxR al5 (by omega)
 have K6 := K5.trans (al5.mono (by omega))
 have bzz : w5.heap.size < ((w5.alloc (.cells #[.int .i64 0, .int .i64 0, .int .i64 0, .int .i64 0, .int .i64 0, .int .i64 0, .int .i64 0, .int .i64 0, .int .i64 0, .int .i64 0, .int .i64 0, .int .i64 0, .int .i64 0, .int .i64 0, .int .i64 0, .int .i64 0, .int .i64 0, .int .i64 0, .int .i64 0, .int .i64 0, .int .i64 0, .int .i64 0] 27)).setCells w5.heap.size 0 (hdC (X)).toArray.toList).heap.size := by rw [qzj]; simp
 have bzl : bx < w5.heap.size := hz5
 go_wp2_with (first | (refine wpList_store_mid rfl 27 (.tmp 10) (.tmp 40) rfl w5.heap.size 0 (hdC (X)).toArray ?sx5 ?sy5 ?st5 (qza (X)) (qzf _) ?_; all_goals (have tk6 : True := trivial)) | (clear tk6; refine qz2e _ ?_))
 try (case sx5 => rfl)
 try (case sy5 => rfl)
 try (case st5 => exact F5)
 show wpList _ _ _ _ _ ((w5.alloc (.cells #[.int .i64 0, .int .i64 0, .int .i64 0, .int .i64 0, .int .i64 0, .int .i64 0, .int .i64 0, .int .i64 0, .int .i64 0, .int .i64 0, .int .i64 0, .int .i64 0, .int .i64 0, .int .i64 0, .int .i64 0, .int .i64 0, .int .i64 0, .int .i64 0, .int .i64 0, .int .i64 0, .int .i64 0, .int .i64 0] 27)).setCells w5.heap.size 0 (hdC (X)).toArray.toList)
 clear F5 al5 K5 hz5
 generalize (w5.alloc (.cells #[.int .i64 0, .int .i64 0, .int .i64 0, .int .i64 0, .int .i64 0, .int .i64 0, .int .i64 0, .int .i64 0, .int .i64 0, .int .i64 0, .int .i64 0, .int .i64 0, .int .i64 0, .int .i64 0, .int .i64 0, .int .i64 0, .int .i64 0, .int .i64 0, .int .i64 0, .int .i64 0, .int .i64 0, .int .i64 0] 27)).setCells w5.heap.size 0 (hdC (X)).toArray.toList = w6 at *
 show wpList _ _ _ _ _ w6
 generalize w5.heap.size = bz at *
 have hz6 : bz < w6.heap.size := bzz
 have hcc : (cd != cd) = false := by simp
 have hff : (qz2c c q v != qz2c c q v) = false := by simp
 go_wp2_with (first | ((refine qz18 ?m8w 27 (.tmp 8) rfl bx 0 ?m8x (hdC (X)) _ ?m8c Try.underlying27 rfl (qz1 _) ?_); all_goals (have tkB : True := trivial)) | (clear tkB; refine qz2e _ ?_))
 try (case m8w => rfl)
 try (case m8x => rfl)
 try (case m8c => exact bxR)
 show wpList _ _ _ _ _ _
 refine qz18 (by first | rfl | kernel_rfl) 27 (.tmp 10) rfl bz 0 rfl (hdC X) _ bzR Try.underlying27 rfl (qz1 _) ?_
 refine qz3a (by first | rfl | kernel_rfl) (.bool false) (qz8m _ _ (.tmp 46) (.tmp 47) _ rfl X rfl rfl _) ?_
 go_upto_region 8 with (first | (go_at_call 10; refine (qz2p _ _ _ _).mono ?_; rintro e w' ⟨rfl, hw⟩; obtain rfl := hw.symm) | (go_at_call 11; refine (qz1u _ _ _ _).mono ?_; rintro e w' ⟨rfl, hw⟩; obtain rfl := hw.symm))
 clear hcc hff
 by_cases e5 : cd = 5
 case pos =>
  subst e5
  have hXz : X = qz7c := by rw [<- hX.out]; simp [qz1n, hC.out]
  subst hXz
  go_wp2_with (first | (refine qz18 ?n8w 27 (.tmp 8) rfl bx 0 ?n8x (hdC (qz7c)) _ ?n8c Try.underlying27 rfl (qz1 _) ?_) | (refine qz3a ?nvw (.bool true) (qz6n _ _ (.tmp 63) (.tmp 64) _ rfl (qz7c) rfl rfl _) ?_))
  try (case n8w => rfl)
  try (case n8x => rfl)
  try (case n8c => exact bxR)
  try (case nvw => rfl)
  go_ret
  exact ⟨rfl, K6⟩
 have b5 : (cd == 5) = false := by simp [e5]
 by_cases e0 : cd = 0
 case neg =>
  have hXg : X = g := by rw [<- hX.out]; simp [qz1n, hC.out, e5, e0]
  subst hXg
  have b0 : (cd != 0) = true := by simp [e0]
  clear e5 e0
  go_wp2_with (first | ((refine qz18 ?o8w 27 (.tmp 8) rfl bx 0 ?o8x (hdC (X)) _ ?o8c Try.underlying27 rfl (qz1 _) ?_); all_goals (have tkC : True := trivial)) | (clear tkC; refine qz2e _ ?_))
  try (case o8w => rfl)
  try (case o8x => rfl)
  try (case o8c => exact bxR)
  show wpList _ _ _ _ _ _
  refine qz18 (by first | rfl | kernel_rfl) 27 (.tmp 4) rfl bh 0 rfl (hdC X) _ HA Try.underlying27 rfl (qz1 _) ?_
  refine qz3a (by first | rfl | kernel_rfl) (.bool true) (qz6n _ _ (.tmp 68) (.tmp 69) _ rfl X rfl rfl _) ?_
  go_wp2
  go_ret
  exact ⟨rfl, K6⟩
 subst e0
 have hXa : X = qz1h g c q v := by rw [<- hX.out]; simp [qz1n, hC.out]
 have hbz := qzb0 hC.out
 have hok := qzar hC.out
 rw [<- hXa] at hbz hok
 have x2 : X.code = c := by rw [hXa]; rfl
 have x3 : X.key = q := by rw [hXa]; rfl
 have x4 : X.value = v := by rw [hXa]; rfl
 have x9 : X.held = g.held := by rw [hXa]; rfl
 clear hXa b5 e5
 have hbz' : Hid (qz1f x y z u X c q v = 1) := hbz
 have hXX : Hid (qz1n x y z u X c q v = X) := by show _ = _; simp [qz1n, hbz]
 clear hbz
 go_upto_region 12 with fail
 have p0 : w6.cell? ⟨bp, 0, none⟩ = some (.int .i64 x) := by simpa using PA 0 (.int .i64 x) rfl
 have p1 : w6.cell? ⟨bp, 1, none⟩ = some (.int .i64 y) := by simpa using PA 1 (.int .i64 y) rfl
 have p2 : w6.cell? ⟨bp, 2, none⟩ = some (.int .i64 z) := by simpa using PA 2 (.int .i64 z) rfl
 have p3 : w6.cell? ⟨bp, 3, none⟩ = some (.int .i64 u) := by simpa using PA 3 (.int .i64 u) rfl
 go_wp2_with (refine wpList_load_mid rfl 27 (.tmp 8) rfl bx 0 ?l6a (hdC X) _ ?l6b Try.underlying27 rfl (qz1 _) ?_)
 try (case l6a => rfl)
 try (case l6b => exact bxR)
 refine (qz7s x y z u X c q v _).mono ?_
 rintro e w7 ⟨rfl, b6⟩
 rw [hXX.out, hbz'.out]
 clear p0 p1 p2 p3
 replace PA := qz0 PA b6 (by omega)
 replace HA := qz0 HA b6 (by omega)
 replace bxR := qz0 bxR b6 (by omega)
 have K7 := K6.trans (b6.mono (by omega))
 have hz7 := Nat.lt_of_lt_of_le hz6 b6.size
 clear K6 hz6 b6
 have F7 := qzh w7 #[.int .i64 0, .int .i64 0, .int .i64 0, .int .i64 0, .int .i64 0, .int .i64 0, .int .i64 0, .int .i64 0, .int .i64 0, .int .i64 0, .int .i64 0, .int .i64 0, .int .i64 0, .int .i64 0, .int .i64 0, .int .i64 0, .int .i64 0, .int .i64 0, .int .i64 0, .int .i64 0, .int .i64 0, .int .i64 0] 27 22 (by decide)
 have al7 : Below w7.heap.size w7 ((w7.alloc (.cells #[.int .i64 0, .int .i64 0, .int .i64 0, .int .i64 0, .int .i64 0, .int .i64 0, .int .i64 0, .int .i64 0, .int .i64 0, .int .i64 0, .int .i64 0, .int .i64 0, .int .i64 0, .int .i64 0, .int .i64 0, .int .i64 0, .int .i64 0, .int .i64 0, .int .i64 0, .int .i64 0, .int .i64 0, .int .i64 0] 27)).setCells w7.heap.size 0 (hdC (X)).toArray.toList) := Below.setCells (Nat.le_refl _) _ _ _ ((Below.refl _ _).alloc (Nat.le_refl _) _)
 have btR : ((w7.alloc (.cells #[.int .i64 0, .int .i64 0, .int .i64 0, .int .i64 0, .int .i64 0, .int .i64 0, .int .i64 0, .int .i64 0, .int .i64 0, .int .i64 0, .int .i64 0, .int .i64 0, .int .i64 0, .int .i64 0, .int .i64 0, .int .i64 0, .int .i64 0, .int .i64 0, .int .i64 0, .int .i64 0, .int .i64 0, .int .i64 0] 27)).setCells w7.heap.size 0 (hdC (X)).toArray.toList).rangeAt w7.heap.size 0 (hdC (X)) := World.rangeAt_setCells_same _ _ _ _ F7
 replace PA := qz0 PA al7 (by omega)
 replace HA := qz0 HA al7 (by omega)
 replace bxR := qz0 bxR al7 (by omega)
 have K8 := K7.trans (al7.mono (by omega))
 have btz : w7.heap.size < ((w7.alloc (.cells #[.int .i64 0, .int .i64 0, .int .i64 0, .int .i64 0, .int .i64 0, .int .i64 0, .int .i64 0, .int .i64 0, .int .i64 0, .int .i64 0, .int .i64 0, .int .i64 0, .int .i64 0, .int .i64 0, .int .i64 0, .int .i64 0, .int .i64 0, .int .i64 0, .int .i64 0, .int .i64 0, .int .i64 0, .int .i64 0] 27)).setCells w7.heap.size 0 (hdC (X)).toArray.toList).heap.size := by rw [qzj]; simp
 have btl : bz < w7.heap.size := hz7
 go_wp2_with (first | (refine wpList_store_mid rfl 27 (.tmp 12) (.tmp 78) rfl w7.heap.size 0 (hdC (X)).toArray ?sx7 ?sy7 ?st7 (qza (X)) (qzf _) ?_; all_goals (have tk8 : True := trivial)) | (clear tk8; refine qz2e _ ?_))
 try (case sx7 => rfl)
 try (case sy7 => rfl)
 try (case st7 => exact F7)
 show wpList _ _ _ _ _ ((w7.alloc (.cells #[.int .i64 0, .int .i64 0, .int .i64 0, .int .i64 0, .int .i64 0, .int .i64 0, .int .i64 0, .int .i64 0, .int .i64 0, .int .i64 0, .int .i64 0, .int .i64 0, .int .i64 0, .int .i64 0, .int .i64 0, .int .i64 0, .int .i64 0, .int .i64 0, .int .i64 0, .int .i64 0, .int .i64 0, .int .i64 0] 27)).setCells w7.heap.size 0 (hdC (X)).toArray.toList)
 clear F7 al7 K7 hz7
 generalize (w7.alloc (.cells #[.int .i64 0, .int .i64 0, .int .i64 0, .int .i64 0, .int .i64 0, .int .i64 0, .int .i64 0, .int .i64 0, .int .i64 0, .int .i64 0, .int .i64 0, .int .i64 0, .int .i64 0, .int .i64 0, .int .i64 0, .int .i64 0, .int .i64 0, .int .i64 0, .int .i64 0, .int .i64 0, .int .i64 0, .int .i64 0] 27)).setCells w7.heap.size 0 (hdC (X)).toArray.toList = w8 at *
 show wpList _ _ _ _ _ w8
 generalize w7.heap.size = bt at *
 have hz8 : bt < w8.heap.size := btz
 have p0 : w8.cell? ⟨bp, 0, none⟩ = some (.int .i64 x) := by simpa using PA 0 (.int .i64 x) rfl
 have p1 : w8.cell? ⟨bp, 1, none⟩ = some (.int .i64 y) := by simpa using PA 1 (.int .i64 y) rfl
 have p2 : w8.cell? ⟨bp, 2, none⟩ = some (.int .i64 z) := by simpa using PA 2 (.int .i64 z) rfl
 have p3 : w8.cell? ⟨bp, 3, none⟩ = some (.int .i64 u) := by simpa using PA 3 (.int .i64 u) rfl
 have c2 : w8.cell? ⟨bx, 2, none⟩ = some (.int .i64 X.code) := by simpa using bxR 2 (.int .i64 X.code) rfl
 have c3 : w8.cell? ⟨bx, 3, none⟩ = some (.int .i64 X.key) := by simpa using bxR 3 (.int .i64 X.key) rfl
 have c4 : w8.cell? ⟨bx, 4, none⟩ = some (.int .i64 X.value) := by simpa using bxR 4 (.int .i64 X.value) rfl
 have c9 : w8.cell? ⟨bx, 9, none⟩ = some (.int .i64 X.held) := by simpa using bxR 9 (.int .i64 X.held) rfl
 have h9 : w8.cell? ⟨bh, 9, none⟩ = some (.int .i64 g.held) := by simpa using HA 9 (.int .i64 g.held) rfl
 rw [x2] at c2
 rw [x3] at c3
 rw [x4] at c4
 rw [x9] at c9
 clear x2 x3 x4 x9
 go_wp2_with (refine qz18 ?t8w 27 (.tmp 8) rfl bx 0 ?t8x (hdC (X)) _ ?t8c Try.underlying27 rfl (qz1 _) ?_)
 try (case t8w => rfl)
 try (case t8x => rfl)
 try (case t8c => exact bxR)
 refine (qz7h x y z u X _).mono ?_
 rintro e w9 ⟨rfl, b9⟩
 rw [hok]
 go_wp2
 go_ret
 exact ⟨rfl, K8.trans (b9.mono (by omega))⟩
theorem qz6h (os : Os) (started : os.Started) (H : Type) (enc : TypeId × Value -> H) :
  ReturnsInHanded {} Try.checked os 3 .any (Rows.fnCalledSpec.pre6 enc Try.prog Try.f3 Rows.fnCalledRow.domain false) (Rows.fnCalledSpec.post enc Try.prog Try.f3 false true false false) := by
 refine returnsInHanded_of_change (C := Try.checked) own started (by kernel_rfl) Try.func3
  (ChangeSpec.witness6 (enc := enc) (C := Try.checked) false ⟨#[], #[.slice none 0 0], []⟩ 8 (by kernel_rfl) (by kernel_rfl) (by kernel_rfl) (by kernel_rfl)) ?_
 intro W base args ds gs before hval0 hW hcnd _
 have hval : ∀ (j : Nat) t v, Try.f3.params[j]? = some t -> args[j]? = some v -> Value.okWide Try.prog W .any base t v := hval0
 have hW' := hW
 obtain ⟨p, q, hA0, hV, rfl, hfz, hnd⟩ := hW
 have hA : DataW.TrodAll enc Try.prog W 0 (fun _ => true) true Try.f3.params.toList args.toList ds p := hA0
 rw [Try.params3] at hA hval
 obtain ⟨v0, vs0, d0, ds0, p0, q0, hargs, rfl, rfl, h0, r0⟩ := trodAll_cons hA
 obtain ⟨rfl, rfl, rfl⟩ := trodAll_nil r0
 obtain rfl : args = #[v0] := by cases args; simp_all
 obtain ⟨rfl, rfl⟩ := trodVars_none hV
 have k0 := h0
 have lt0 : ∀ x ∈ p0, x.block < W.heap.size := by obtain ⟨m, hm⟩ := k0; exact DataW.trod_lt m _ _ _ hm
 obtain ⟨a0, len0, cap0, hv0, w0⟩ := qzad (hval 0 22 v0 rfl rfl) h0
 subst hv0
 clear hA0 hval0
 refine (qz7i a0 len0 cap0 W w0).mono fun e W' ⟨he, bel⟩ => ?_
 subst he
 exact ⟨_, rfl, _, _, _, [], _, [], hW', trodAll_mk1 (shut_bool Try.underlying4 _), (trodAll_cons_mk (Below.trod qzd7 (by kernel_rfl) (of_decide_eq_true (by kernel_rfl)) k0 bel lt0) trodAll_mk0), rfl, bel.frame _, fun h => by cases h⟩
theorem fnCalled_holds : Rows.FnCalledSaid :=
 OpenClaim.holds_of_wide 3 Try.f3 rfl rfl rfl rfl rfl rfl rfl ⟨rfl, rfl, rfl, rfl, rfl⟩ rfl rfl rfl rfl rfl (by kernel_rfl) Try.func3 (by kernel_rfl)
  (of_decide_eq_true (by kernel_rfl)) (by unfold Func.isWrapper; first | (rw [if_pos (by decide +kernel)]; kernel_rfl) | (rw [if_neg (by decide +kernel)]; exact ⟨rfl, rfl⟩))
  (fun os started H enc _ => qz6h os started H enc)
#print axioms fnCalled_holds
end
end Go.Proofs.Ytclkglkhhnapiaa
