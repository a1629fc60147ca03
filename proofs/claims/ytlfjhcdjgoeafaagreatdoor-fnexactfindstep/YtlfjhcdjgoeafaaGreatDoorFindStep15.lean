/-
  What the law's proof goes by, part 16.
-/
import Derived.Test.YtlfjhcdjgoeafaaGreatDoorFindStep00
import Derived.Test.YtlfjhcdjgoeafaaGreatDoorFindStep07
namespace Go.Proofs.YtlfjhcdjgoeafaaGreatDoor
open Go.ChangeShapes Go.WideShapes Go.ChangeAt Go.RowKit
set_option linter.unusedVariables false
set_option linter.unusedSimpArgs false
set_option linter.unnecessarySimpa false
set_option linter.unusedSectionVars false
section
attribute [local go_sem ↓] Go.wp_at_zero Go.wp_at_succ
def grC (h : Hd) : List Value := [.int .i64 h.x_, .int .i64 h.ver, .int .i64 h.cam, .int .i64 h.camAt, .int .i64 h.pred, .int .i64 h.predVer, .int .i64 h.curr, .int .i64 h.currVer, .int .i64 h.new_, .int .i64 h.least, .int .i64 h.index, .int .i64 h.round, .int .i64 h.at_, .int .i64 h.then_, .int .i64 h.code, .int .i64 h.key, .int .i64 h.value, .int .i64 h.begin, .int .i64 h.reply, .int .i64 h.out, .int .i64 h.sum, .int .i64 h.held]
def rgC (h : Hd) : List Value := [.int .i64 h.x_, .int .i64 h.ver, .int .i64 h.cam, .int .i64 h.camAt, .int .i64 h.pred, .int .i64 h.predVer, .int .i64 h.curr, .int .i64 h.currVer, .int .i64 h.new_, .int .i64 h.least, .int .i64 h.index, .int .i64 h.round]
theorem sizeGrip (h : Hd) : (Tryz.prog.info? 95).map (fun i => i.size) = some (grC h).toArray.size := by
 show _ = some 22
 kernel_rfl
theorem sizeGripL (h : Hd) : (Tryz.prog.info? 95).map (fun i => i.size) = some (grC h).length := by
 show _ = some 22
 kernel_rfl
theorem oneGrip (h : Hd) : (grC h).toArray.all (·.oneCell') = true := by simp [grC, Value.oneCell']
theorem sizeRegsL (h : Hd) : (Tryz.prog.info? 93).map (fun i => i.size) = some (rgC h).length := by
 show _ = some 12
 kernel_rfl
theorem grip_regs {w : World} {b : Nat} {h : Hd} (X : w.rangeAt b 0 (grC h)) : w.rangeAt b 0 (rgC h) := by
 intro j v hv
 refine X j v ?_
 have hj : j < (rgC h).length := (List.getElem?_eq_some_iff.1 hv).1
 have e : grC h = rgC h ++ [.int .i64 h.at_, .int .i64 h.then_, .int .i64 h.code, .int .i64 h.key, .int .i64 h.value, .int .i64 h.begin, .int .i64 h.reply, .int .i64 h.out, .int .i64 h.sum, .int .i64 h.held] := rfl
 rw [e, List.getElem?_append_left hj]
 exact hv
theorem isClock_any (n : Int) (w : World) : Calls Tryz.prog 53 #[.int .i64 n] w fun e w' => e = .returned (.bool (inB n 0 20000)) ∧ w' = w := by
 go_enter Tryz.func53, Tryz.ntmps53
 go_wp2_with (go_at_call 81; refine (within_any _ _ _ _).mono ?_; rintro e w' ⟨rfl, rfl⟩)
 go_ret
 exact ⟨rfl, rfl⟩
theorem isStamp_any (n : Int) (w : World) : Calls Tryz.prog 102 #[.int .i64 n] w fun e w' => e = .returned (.bool (inB n 0 100)) ∧ w' = w := by
 go_enter Tryz.func102, Tryz.ntmps102
 go_wp2_with (go_at_call 81; refine (within_any _ _ _ _).mono ?_; rintro e w' ⟨rfl, rfl⟩)
 go_ret
 exact ⟨rfl, rfl⟩
def statesB (h : Hd) : Bool := inB h.at_ 0 23 && inB h.then_ 0 7 && inB h.code 0 8 && inB h.reply 0 7
set_option maxRecDepth 100000 in
set_option maxHeartbeats 4000000 in
theorem states_any (h : Hd) (w : World) : Calls Tryz.prog 86 #[.agg (grC h).toArray] w fun e w' => e = .returned (.bool (statesB h)) ∧ Below w.heap.size w w' := by
 show Calls Tryz.prog 86 #[.agg #[.int .i64 h.x_, .int .i64 h.ver, .int .i64 h.cam, .int .i64 h.camAt, .int .i64 h.pred, .int .i64 h.predVer, .int .i64 h.curr, .int .i64 h.currVer, .int .i64 h.new_, .int .i64 h.least, .int .i64 h.index, .int .i64 h.round, .int .i64 h.at_, .int .i64 h.then_, .int .i64 h.code, .int .i64 h.key, .int .i64 h.value, .int .i64 h.begin, .int .i64 h.reply, .int .i64 h.out, .int .i64 h.sum, .int .i64 h.held]] w fun e w' => e = .returned (.bool (statesB h)) ∧ Below w.heap.size w w'
 have KK := (Below.refl w.heap.size w).alloc (Nat.le_refl _) (.cells #[.int .i64 h.x_, .int .i64 h.ver, .int .i64 h.cam, .int .i64 h.camAt, .int .i64 h.pred, .int .i64 h.predVer, .int .i64 h.curr, .int .i64 h.currVer, .int .i64 h.new_, .int .i64 h.least, .int .i64 h.index, .int .i64 h.round, .int .i64 h.at_, .int .i64 h.then_, .int .i64 h.code, .int .i64 h.key, .int .i64 h.value, .int .i64 h.begin, .int .i64 h.reply, .int .i64 h.out, .int .i64 h.sum, .int .i64 h.held] 95)
 cases e0 : inB h.at_ 0 23
 ·have hv : statesB h = false := by simp only [statesB, e0, Bool.true_and, Bool.and_true, Bool.false_and, Bool.and_false, Bool.true_or, Bool.or_true, Bool.or_false, Bool.false_or]
  go_enter Tryz.func86, Tryz.ntmps86
  go_wp2_with (go_at_call 81; refine (within_any _ _ _ _).mono ?_; rintro e w' ⟨rfl, hw⟩; obtain rfl := hw.symm)
  go_ret
  exact ⟨by rw [hv]; rfl, KK⟩
 cases e1 : inB h.then_ 0 7
 ·have hv : statesB h = false := by simp only [statesB, e0, e1, Bool.true_and, Bool.and_true, Bool.false_and, Bool.and_false, Bool.true_or, Bool.or_true, Bool.or_false, Bool.false_or]
  go_enter Tryz.func86, Tryz.ntmps86
  go_wp2_with (go_at_call 81; refine (within_any _ _ _ _).mono ?_; rintro e w' ⟨rfl, hw⟩; obtain rfl := hw.symm)
  go_ret
  exact ⟨by rw [hv]; rfl, KK⟩
 cases e2 : inB h.code 0 8
 ·have hv : statesB h = false := by simp only [statesB, e0, e1, e2, Bool.true_and, Bool.and_true, Bool.false_and, Bool.and_false, Bool.true_or, Bool.or_true, Bool.or_false, Bool.false_or]
  go_enter Tryz.func86, Tryz.ntmps86
  go_wp2_with (go_at_call 81; refine (within_any _ _ _ _).mono ?_; rintro e w' ⟨rfl, hw⟩; obtain rfl := hw.symm)
  go_ret
  exact ⟨by rw [hv]; rfl, KK⟩
 have hv : statesB h = inB h.reply 0 7 := by simp only [statesB, e0, e1, e2, Bool.true_and, Bool.and_true, Bool.false_and, Bool.and_false, Bool.true_or, Bool.or_true, Bool.or_false, Bool.false_or]
 go_enter Tryz.func86, Tryz.ntmps86
 go_wp2_with (go_at_call 81; refine (within_any _ _ _ _).mono ?_; rintro e w' ⟨rfl, hw⟩; obtain rfl := hw.symm)
 go_ret
 exact ⟨by rw [hv]; rfl, KK⟩
def amountsB (h : Hd) : Bool := (inB h.key 0 63 || h.key == -1) && inB h.value 0 9999 && inB h.out 0 1000000 && inB h.sum 0 1000000 && inB h.index 0 60
set_option maxRecDepth 100000 in
set_option maxHeartbeats 4000000 in
theorem amounts_any (h : Hd) (w : World) : Calls Tryz.prog 87 #[.agg (grC h).toArray] w fun e w' => e = .returned (.bool (amountsB h)) ∧ Below w.heap.size w w' := by
 show Calls Tryz.prog 87 #[.agg #[.int .i64 h.x_, .int .i64 h.ver, .int .i64 h.cam, .int .i64 h.camAt, .int .i64 h.pred, .int .i64 h.predVer, .int .i64 h.curr, .int .i64 h.currVer, .int .i64 h.new_, .int .i64 h.least, .int .i64 h.index, .int .i64 h.round, .int .i64 h.at_, .int .i64 h.then_, .int .i64 h.code, .int .i64 h.key, .int .i64 h.value, .int .i64 h.begin, .int .i64 h.reply, .int .i64 h.out, .int .i64 h.sum, .int .i64 h.held]] w fun e w' => e = .returned (.bool (amountsB h)) ∧ Below w.heap.size w w'
 have KK := (Below.refl w.heap.size w).alloc (Nat.le_refl _) (.cells #[.int .i64 h.x_, .int .i64 h.ver, .int .i64 h.cam, .int .i64 h.camAt, .int .i64 h.pred, .int .i64 h.predVer, .int .i64 h.curr, .int .i64 h.currVer, .int .i64 h.new_, .int .i64 h.least, .int .i64 h.index, .int .i64 h.round, .int .i64 h.at_, .int .i64 h.then_, .int .i64 h.code, .int .i64 h.key, .int .i64 h.value, .int .i64 h.begin, .int .i64 h.reply, .int .i64 h.out, .int .i64 h.sum, .int .i64 h.held] 95)
 cases e0 : inB h.key 0 63
 ·by_cases k0 : h.key = -1
  ·have b0 : (h.key == -1) = true := by rw [k0]; rfl
   cases e1 : inB h.value 0 9999
   ·have hv : amountsB h = false := by simp only [amountsB, e0, b0, e1, Bool.true_and, Bool.and_true, Bool.false_and, Bool.and_false, Bool.true_or, Bool.or_true, Bool.or_false, Bool.false_or]
    go_enter Tryz.func87, Tryz.ntmps87
    go_wp2_with (first | (go_at_call 81; refine (within_any _ _ _ _).mono ?_; rintro e w' ⟨rfl, hw⟩; obtain rfl := hw.symm) | (go_at_call 101; refine (keyOk_any _ _).mono ?_; rintro e w' ⟨rfl, hw⟩; obtain rfl := hw.symm))
    go_ret
    exact ⟨by rw [hv]; rfl, by rw [k0] at KK; exact KK⟩
   cases e2 : inB h.out 0 1000000
   ·have hv : amountsB h = false := by simp only [amountsB, e0, b0, e1, e2, Bool.true_and, Bool.and_true, Bool.false_and, Bool.and_false, Bool.true_or, Bool.or_true, Bool.or_false, Bool.false_or]
    go_enter Tryz.func87, Tryz.ntmps87
    go_wp2_with (first | (go_at_call 81; refine (within_any _ _ _ _).mono ?_; rintro e w' ⟨rfl, hw⟩; obtain rfl := hw.symm) | (go_at_call 101; refine (keyOk_any _ _).mono ?_; rintro e w' ⟨rfl, hw⟩; obtain rfl := hw.symm))
    go_ret
    exact ⟨by rw [hv]; rfl, by rw [k0] at KK; exact KK⟩
   cases e3 : inB h.sum 0 1000000
   ·have hv : amountsB h = false := by simp only [amountsB, e0, b0, e1, e2, e3, Bool.true_and, Bool.and_true, Bool.false_and, Bool.and_false, Bool.true_or, Bool.or_true, Bool.or_false, Bool.false_or]
    go_enter Tryz.func87, Tryz.ntmps87
    go_wp2_with (first | (go_at_call 81; refine (within_any _ _ _ _).mono ?_; rintro e w' ⟨rfl, hw⟩; obtain rfl := hw.symm) | (go_at_call 101; refine (keyOk_any _ _).mono ?_; rintro e w' ⟨rfl, hw⟩; obtain rfl := hw.symm))
    go_ret
    exact ⟨by rw [hv]; rfl, by rw [k0] at KK; exact KK⟩
   have hv : amountsB h = inB h.index 0 60 := by simp only [amountsB, e0, b0, e1, e2, e3, Bool.true_and, Bool.and_true, Bool.false_and, Bool.and_false, Bool.true_or, Bool.or_true, Bool.or_false, Bool.false_or]
   go_enter Tryz.func87, Tryz.ntmps87
   go_wp2_with (first | (go_at_call 81; refine (within_any _ _ _ _).mono ?_; rintro e w' ⟨rfl, hw⟩; obtain rfl := hw.symm) | (go_at_call 101; refine (keyOk_any _ _).mono ?_; rintro e w' ⟨rfl, hw⟩; obtain rfl := hw.symm))
   go_ret
   exact ⟨by rw [hv]; rfl, by rw [k0] at KK; exact KK⟩
  ·have b0 : (h.key == -1) = false := by simpa using k0
   have hv : amountsB h = false := by simp only [amountsB, e0, b0, Bool.true_and, Bool.and_true, Bool.false_and, Bool.and_false, Bool.true_or, Bool.or_true, Bool.or_false, Bool.false_or]
   go_enter Tryz.func87, Tryz.ntmps87
   go_wp2_with (first | (go_at_call 81; refine (within_any _ _ _ _).mono ?_; rintro e w' ⟨rfl, hw⟩; obtain rfl := hw.symm) | (go_at_call 101; refine (keyOk_any _ _).mono ?_; rintro e w' ⟨rfl, hw⟩; obtain rfl := hw.symm))
   go_ret
   exact ⟨by rw [hv]; rfl, KK⟩
 cases e1 : inB h.value 0 9999
 ·have hv : amountsB h = false := by simp only [amountsB, e0, e1, Bool.true_and, Bool.and_true, Bool.false_and, Bool.and_false, Bool.true_or, Bool.or_true, Bool.or_false, Bool.false_or]
  go_enter Tryz.func87, Tryz.ntmps87
  go_wp2_with (first | (go_at_call 81; refine (within_any _ _ _ _).mono ?_; rintro e w' ⟨rfl, hw⟩; obtain rfl := hw.symm) | (go_at_call 101; refine (keyOk_any _ _).mono ?_; rintro e w' ⟨rfl, hw⟩; obtain rfl := hw.symm))
  go_ret
  exact ⟨by rw [hv]; rfl, KK⟩
 cases e2 : inB h.out 0 1000000
 ·have hv : amountsB h = false := by simp only [amountsB, e0, e1, e2, Bool.true_and, Bool.and_true, Bool.false_and, Bool.and_false, Bool.true_or, Bool.or_true, Bool.or_false, Bool.false_or]
  go_enter Tryz.func87, Tryz.ntmps87
  go_wp2_with (first | (go_at_call 81; refine (within_any _ _ _ _).mono ?_; rintro e w' ⟨rfl, hw⟩; obtain rfl := hw.symm) | (go_at_call 101; refine (keyOk_any _ _).mono ?_; rintro e w' ⟨rfl, hw⟩; obtain rfl := hw.symm))
  go_ret
  exact ⟨by rw [hv]; rfl, KK⟩
 cases e3 : inB h.sum 0 1000000
 ·have hv : amountsB h = false := by simp only [amountsB, e0, e1, e2, e3, Bool.true_and, Bool.and_true, Bool.false_and, Bool.and_false, Bool.true_or, Bool.or_true, Bool.or_false, Bool.false_or]
  go_enter Tryz.func87, Tryz.ntmps87
  go_wp2_with (first | (go_at_call 81; refine (within_any _ _ _ _).mono ?_; rintro e w' ⟨rfl, hw⟩; obtain rfl := hw.symm) | (go_at_call 101; refine (keyOk_any _ _).mono ?_; rintro e w' ⟨rfl, hw⟩; obtain rfl := hw.symm))
  go_ret
  exact ⟨by rw [hv]; rfl, KK⟩
 have hv : amountsB h = inB h.index 0 60 := by simp only [amountsB, e0, e1, e2, e3, Bool.true_and, Bool.and_true, Bool.false_and, Bool.and_false, Bool.true_or, Bool.or_true, Bool.or_false, Bool.false_or]
 go_enter Tryz.func87, Tryz.ntmps87
 go_wp2_with (first | (go_at_call 81; refine (within_any _ _ _ _).mono ?_; rintro e w' ⟨rfl, hw⟩; obtain rfl := hw.symm) | (go_at_call 101; refine (keyOk_any _ _).mono ?_; rintro e w' ⟨rfl, hw⟩; obtain rfl := hw.symm))
 go_ret
 exact ⟨by rw [hv]; rfl, KK⟩
def timesB (h : Hd) : Bool := inB h.begin 0 20000 && inB h.camAt 0 20000 && inB h.round 0 20000 && (inB h.held 0 100 || h.held == -1) && inB h.cam 0 100 && inB h.least 0 100
set_option maxRecDepth 100000 in
set_option maxHeartbeats 4000000 in
theorem times_any (h : Hd) (w : World) : Calls Tryz.prog 88 #[.agg (grC h).toArray] w fun e w' => e = .returned (.bool (timesB h)) ∧ Below w.heap.size w w' := by
 show Calls Tryz.prog 88 #[.agg #[.int .i64 h.x_, .int .i64 h.ver, .int .i64 h.cam, .int .i64 h.camAt, .int .i64 h.pred, .int .i64 h.predVer, .int .i64 h.curr, .int .i64 h.currVer, .int .i64 h.new_, .int .i64 h.least, .int .i64 h.index, .int .i64 h.round, .int .i64 h.at_, .int .i64 h.then_, .int .i64 h.code, .int .i64 h.key, .int .i64 h.value, .int .i64 h.begin, .int .i64 h.reply, .int .i64 h.out, .int .i64 h.sum, .int .i64 h.held]] w fun e w' => e = .returned (.bool (timesB h)) ∧ Below w.heap.size w w'
 have KK := (Below.refl w.heap.size w).alloc (Nat.le_refl _) (.cells #[.int .i64 h.x_, .int .i64 h.ver, .int .i64 h.cam, .int .i64 h.camAt, .int .i64 h.pred, .int .i64 h.predVer, .int .i64 h.curr, .int .i64 h.currVer, .int .i64 h.new_, .int .i64 h.least, .int .i64 h.index, .int .i64 h.round, .int .i64 h.at_, .int .i64 h.then_, .int .i64 h.code, .int .i64 h.key, .int .i64 h.value, .int .i64 h.begin, .int .i64 h.reply, .int .i64 h.out, .int .i64 h.sum, .int .i64 h.held] 95)
 cases e0 : inB h.begin 0 20000
 ·have hv : timesB h = false := by simp only [timesB, e0, Bool.true_and, Bool.and_true, Bool.false_and, Bool.and_false, Bool.true_or, Bool.or_true, Bool.or_false, Bool.false_or]
  go_enter Tryz.func88, Tryz.ntmps88
  go_wp2_with (first | (go_at_call 53; refine (isClock_any _ _).mono ?_; rintro e w' ⟨rfl, hw⟩; obtain rfl := hw.symm) | (go_at_call 102; refine (isStamp_any _ _).mono ?_; rintro e w' ⟨rfl, hw⟩; obtain rfl := hw.symm))
  go_ret
  exact ⟨by rw [hv]; rfl, KK⟩
 cases e1 : inB h.camAt 0 20000
 ·have hv : timesB h = false := by simp only [timesB, e0, e1, Bool.true_and, Bool.and_true, Bool.false_and, Bool.and_false, Bool.true_or, Bool.or_true, Bool.or_false, Bool.false_or]
  go_enter Tryz.func88, Tryz.ntmps88
  go_wp2_with (first | (go_at_call 53; refine (isClock_any _ _).mono ?_; rintro e w' ⟨rfl, hw⟩; obtain rfl := hw.symm) | (go_at_call 102; refine (isStamp_any _ _).mono ?_; rintro e w' ⟨rfl, hw⟩; obtain rfl := hw.symm))
  go_ret
  exact ⟨by rw [hv]; rfl, KK⟩
 cases e2 : inB h.round 0 20000
 ·have hv : timesB h = false := by simp only [timesB, e0, e1, e2, Bool.true_and, Bool.and_true, Bool.false_and, Bool.and_false, Bool.true_or, Bool.or_true, Bool.or_false, Bool.false_or]
  go_enter Tryz.func88, Tryz.ntmps88
  go_wp2_with (first | (go_at_call 53; refine (isClock_any _ _).mono ?_; rintro e w' ⟨rfl, hw⟩; obtain rfl := hw.symm) | (go_at_call 102; refine (isStamp_any _ _).mono ?_; rintro e w' ⟨rfl, hw⟩; obtain rfl := hw.symm))
  go_ret
  exact ⟨by rw [hv]; rfl, KK⟩
 cases e3 : inB h.held 0 100
 ·by_cases k3 : h.held = -1
  ·have b3 : (h.held == -1) = true := by rw [k3]; rfl
   cases e4 : inB h.cam 0 100
   ·have hv : timesB h = false := by simp only [timesB, e0, e1, e2, e3, b3, e4, Bool.true_and, Bool.and_true, Bool.false_and, Bool.and_false, Bool.true_or, Bool.or_true, Bool.or_false, Bool.false_or]
    go_enter Tryz.func88, Tryz.ntmps88
    go_wp2_with (first | (go_at_call 53; refine (isClock_any _ _).mono ?_; rintro e w' ⟨rfl, hw⟩; obtain rfl := hw.symm) | (go_at_call 102; refine (isStamp_any _ _).mono ?_; rintro e w' ⟨rfl, hw⟩; obtain rfl := hw.symm))
    go_ret
    exact ⟨by rw [hv]; rfl, by rw [k3] at KK; exact KK⟩
   have hv : timesB h = inB h.least 0 100 := by simp only [timesB, e0, e1, e2, e3, b3, e4, Bool.true_and, Bool.and_true, Bool.false_and, Bool.and_false, Bool.true_or, Bool.or_true, Bool.or_false, Bool.false_or]
   go_enter Tryz.func88, Tryz.ntmps88
   go_wp2_with (first | (go_at_call 53; refine (isClock_any _ _).mono ?_; rintro e w' ⟨rfl, hw⟩; obtain rfl := hw.symm) | (go_at_call 102; refine (isStamp_any _ _).mono ?_; rintro e w' ⟨rfl, hw⟩; obtain rfl := hw.symm))
   go_ret
   exact ⟨by rw [hv]; rfl, by rw [k3] at KK; exact KK⟩
  ·have b3 : (h.held == -1) = false := by simpa using k3
   have hv : timesB h = false := by simp only [timesB, e0, e1, e2, e3, b3, Bool.true_and, Bool.and_true, Bool.false_and, Bool.and_false, Bool.true_or, Bool.or_true, Bool.or_false, Bool.false_or]
   go_enter Tryz.func88, Tryz.ntmps88
   go_wp2_with (first | (go_at_call 53; refine (isClock_any _ _).mono ?_; rintro e w' ⟨rfl, hw⟩; obtain rfl := hw.symm) | (go_at_call 102; refine (isStamp_any _ _).mono ?_; rintro e w' ⟨rfl, hw⟩; obtain rfl := hw.symm))
   go_ret
   exact ⟨by rw [hv]; rfl, KK⟩
 cases e4 : inB h.cam 0 100
 ·have hv : timesB h = false := by simp only [timesB, e0, e1, e2, e3, e4, Bool.true_and, Bool.and_true, Bool.false_and, Bool.and_false, Bool.true_or, Bool.or_true, Bool.or_false, Bool.false_or]
  go_enter Tryz.func88, Tryz.ntmps88
  go_wp2_with (first | (go_at_call 53; refine (isClock_any _ _).mono ?_; rintro e w' ⟨rfl, hw⟩; obtain rfl := hw.symm) | (go_at_call 102; refine (isStamp_any _ _).mono ?_; rintro e w' ⟨rfl, hw⟩; obtain rfl := hw.symm))
  go_ret
  exact ⟨by rw [hv]; rfl, KK⟩
 have hv : timesB h = inB h.least 0 100 := by simp only [timesB, e0, e1, e2, e3, e4, Bool.true_and, Bool.and_true, Bool.false_and, Bool.and_false, Bool.true_or, Bool.or_true, Bool.or_false, Bool.false_or]
 go_enter Tryz.func88, Tryz.ntmps88
 go_wp2_with (first | (go_at_call 53; refine (isClock_any _ _).mono ?_; rintro e w' ⟨rfl, hw⟩; obtain rfl := hw.symm) | (go_at_call 102; refine (isStamp_any _ _).mono ?_; rintro e w' ⟨rfl, hw⟩; obtain rfl := hw.symm))
 go_ret
 exact ⟨by rw [hv]; rfl, KK⟩
def placesB (y z : Int) (h : Hd) : Bool := inB h.x_ 0 (y - 1) && inB h.pred 0 (y - 1) && inB h.curr (-1) (y - 1) && inB h.new_ (-1) (y - 1) && inB h.ver 0 (z - 1) && inB h.predVer 0 (z - 1) && inB h.currVer 0 (z - 1)
set_option maxRecDepth 100000 in
set_option maxHeartbeats 4000000 in
theorem places_any (y z : Int) (h : Hd) (w : World) (hy : 0 ≤ y ∧ y ≤ 1048576) (hz : 0 ≤ z ∧ z ≤ 1048576) : Calls Tryz.prog 55 #[.agg (rgC h).toArray, .int .i64 y, .int .i64 z] w fun e w' => e = .returned (.bool (placesB y z h)) ∧ Below w.heap.size w w' := by
 show Calls Tryz.prog 55 #[.agg #[.int .i64 h.x_, .int .i64 h.ver, .int .i64 h.cam, .int .i64 h.camAt, .int .i64 h.pred, .int .i64 h.predVer, .int .i64 h.curr, .int .i64 h.currVer, .int .i64 h.new_, .int .i64 h.least, .int .i64 h.index, .int .i64 h.round], .int .i64 y, .int .i64 z] w fun e w' => e = .returned (.bool (placesB y z h)) ∧ Below w.heap.size w w'
 have KK := (Below.refl w.heap.size w).alloc (Nat.le_refl _) (.cells #[.int .i64 h.x_, .int .i64 h.ver, .int .i64 h.cam, .int .i64 h.camAt, .int .i64 h.pred, .int .i64 h.predVer, .int .i64 h.curr, .int .i64 h.currVer, .int .i64 h.new_, .int .i64 h.least, .int .i64 h.index, .int .i64 h.round] 93)
 cases e0 : inB h.x_ 0 (y - 1)
 ·have hv : placesB y z h = false := by simp only [placesB, e0, Bool.true_and, Bool.and_true, Bool.false_and, Bool.and_false, Bool.true_or, Bool.or_true, Bool.or_false, Bool.false_or]
  go_enter Tryz.func55, Tryz.ntmps55
  go_wp2_with (go_at_call 81; refine (within_any _ _ _ _).mono ?_; rintro e w' ⟨rfl, hw⟩; obtain rfl := hw.symm)
  go_ret
  exact ⟨by rw [hv]; rfl, KK⟩
 cases e1 : inB h.pred 0 (y - 1)
 ·have hv : placesB y z h = false := by simp only [placesB, e0, e1, Bool.true_and, Bool.and_true, Bool.false_and, Bool.and_false, Bool.true_or, Bool.or_true, Bool.or_false, Bool.false_or]
  go_enter Tryz.func55, Tryz.ntmps55
  go_wp2_with (go_at_call 81; refine (within_any _ _ _ _).mono ?_; rintro e w' ⟨rfl, hw⟩; obtain rfl := hw.symm)
  go_ret
  exact ⟨by rw [hv]; rfl, KK⟩
 cases e2 : inB h.curr (-1) (y - 1)
 ·have hv : placesB y z h = false := by simp only [placesB, e0, e1, e2, Bool.true_and, Bool.and_true, Bool.false_and, Bool.and_false, Bool.true_or, Bool.or_true, Bool.or_false, Bool.false_or]
  go_enter Tryz.func55, Tryz.ntmps55
  go_wp2_with (go_at_call 81; refine (within_any _ _ _ _).mono ?_; rintro e w' ⟨rfl, hw⟩; obtain rfl := hw.symm)
  go_ret
  exact ⟨by rw [hv]; rfl, KK⟩
 cases e3 : inB h.new_ (-1) (y - 1)
 ·have hv : placesB y z h = false := by simp only [placesB, e0, e1, e2, e3, Bool.true_and, Bool.and_true, Bool.false_and, Bool.and_false, Bool.true_or, Bool.or_true, Bool.or_false, Bool.false_or]
  go_enter Tryz.func55, Tryz.ntmps55
  go_wp2_with (go_at_call 81; refine (within_any _ _ _ _).mono ?_; rintro e w' ⟨rfl, hw⟩; obtain rfl := hw.symm)
  go_ret
  exact ⟨by rw [hv]; rfl, KK⟩
 cases e4 : inB h.ver 0 (z - 1)
 ·have hv : placesB y z h = false := by simp only [placesB, e0, e1, e2, e3, e4, Bool.true_and, Bool.and_true, Bool.false_and, Bool.and_false, Bool.true_or, Bool.or_true, Bool.or_false, Bool.false_or]
  go_enter Tryz.func55, Tryz.ntmps55
  go_wp2_with (go_at_call 81; refine (within_any _ _ _ _).mono ?_; rintro e w' ⟨rfl, hw⟩; obtain rfl := hw.symm)
  go_ret
  exact ⟨by rw [hv]; rfl, KK⟩
 cases e5 : inB h.predVer 0 (z - 1)
 ·have hv : placesB y z h = false := by simp only [placesB, e0, e1, e2, e3, e4, e5, Bool.true_and, Bool.and_true, Bool.false_and, Bool.and_false, Bool.true_or, Bool.or_true, Bool.or_false, Bool.false_or]
  go_enter Tryz.func55, Tryz.ntmps55
  go_wp2_with (go_at_call 81; refine (within_any _ _ _ _).mono ?_; rintro e w' ⟨rfl, hw⟩; obtain rfl := hw.symm)
  go_ret
  exact ⟨by rw [hv]; rfl, KK⟩
 have hv : placesB y z h = inB h.currVer 0 (z - 1) := by simp only [placesB, e0, e1, e2, e3, e4, e5, Bool.true_and, Bool.and_true, Bool.false_and, Bool.and_false, Bool.true_or, Bool.or_true, Bool.or_false, Bool.false_or]
 go_enter Tryz.func55, Tryz.ntmps55
 go_wp2_with (go_at_call 81; refine (within_any _ _ _ _).mono ?_; rintro e w' ⟨rfl, hw⟩; obtain rfl := hw.symm)
 go_ret
 exact ⟨by rw [hv]; rfl, KK⟩
set_option maxRecDepth 100000 in
set_option maxHeartbeats 4000000 in
theorem gripOf_any (h : Hd) (w : World) : Calls Tryz.prog 54 #[.agg (hdC h).toArray] w fun e w' => e = .returned (.agg (grC h).toArray) ∧ Below w.heap.size w w' := by
 show Calls Tryz.prog 54 #[.agg #[.int .i64 h.at_, .int .i64 h.then_, .int .i64 h.code, .int .i64 h.key, .int .i64 h.value, .int .i64 h.begin, .int .i64 h.reply, .int .i64 h.out, .int .i64 h.sum, .int .i64 h.held, .int .i64 h.x_, .int .i64 h.ver, .int .i64 h.cam, .int .i64 h.camAt, .int .i64 h.pred, .int .i64 h.predVer, .int .i64 h.curr, .int .i64 h.currVer, .int .i64 h.new_, .int .i64 h.least, .int .i64 h.index, .int .i64 h.round]] w fun e w' => e = .returned (.agg (grC h).toArray) ∧ Below w.heap.size w w'
 go_enter Tryz.func54, Tryz.ntmps54
 have F0 := there_new (w.alloc (.cells #[.int .i64 h.at_, .int .i64 h.then_, .int .i64 h.code, .int .i64 h.key, .int .i64 h.value, .int .i64 h.begin, .int .i64 h.reply, .int .i64 h.out, .int .i64 h.sum, .int .i64 h.held, .int .i64 h.x_, .int .i64 h.ver, .int .i64 h.cam, .int .i64 h.camAt, .int .i64 h.pred, .int .i64 h.predVer, .int .i64 h.curr, .int .i64 h.currVer, .int .i64 h.new_, .int .i64 h.least, .int .i64 h.index, .int .i64 h.round] 36)) #[.int .i64 0, .int .i64 0, .int .i64 0, .int .i64 0, .int .i64 0, .int .i64 0, .int .i64 0, .int .i64 0, .int .i64 0, .int .i64 0, .int .i64 0, .int .i64 0, .int .i64 0, .int .i64 0, .int .i64 0, .int .i64 0, .int .i64 0, .int .i64 0, .int .i64 0, .int .i64 0, .int .i64 0, .int .i64 0] 95 22 (by decide)
 have K0 := ((Below.refl w.heap.size w).alloc (Nat.le_refl _) (.cells #[.int .i64 h.at_, .int .i64 h.then_, .int .i64 h.code, .int .i64 h.key, .int .i64 h.value, .int .i64 h.begin, .int .i64 h.reply, .int .i64 h.out, .int .i64 h.sum, .int .i64 h.held, .int .i64 h.x_, .int .i64 h.ver, .int .i64 h.cam, .int .i64 h.camAt, .int .i64 h.pred, .int .i64 h.predVer, .int .i64 h.curr, .int .i64 h.currVer, .int .i64 h.new_, .int .i64 h.least, .int .i64 h.index, .int .i64 h.round] 36)).alloc (by simp) (.cells #[.int .i64 0, .int .i64 0, .int .i64 0, .int .i64 0, .int .i64 0, .int .i64 0, .int .i64 0, .int .i64 0, .int .i64 0, .int .i64 0, .int .i64 0, .int .i64 0, .int .i64 0, .int .i64 0, .int .i64 0, .int .i64 0, .int .i64 0, .int .i64 0, .int .i64 0, .int .i64 0, .int .i64 0, .int .i64 0] 95)
 simp only [World.size_alloc] at F0
 go_wp2_with (refine wpList_store_mid rfl 95 (.tmp 2) (.tmp 48) rfl (w.heap.size + 1) 0 _ rfl rfl ?ht ?hi ?h1 ?_)
 case ht => exact F0
 case hi => exact sizeGrip h
 case h1 => exact oneGrip h
 refine bodyPost_ret (v := .agg (grC h).toArray) ?_ rfl ⟨rfl, ?_⟩
 ·exact results_row Tryz.results54 _ _ (w.heap.size + 1) 0 rfl (grC h) _ (World.rangeAt_setCells_same _ _ _ _ F0) Tryz.underlying95 rfl (sizeGripL h)
 ·exact Below.setCells (by omega) _ _ _ K0
theorem or_one (n hi : Int) (hh : 0 ≤ hi) : (inB n 0 hi || n == -1) = inB n (-1) hi := by
 cases e : inB n (-1) hi
 ·have h1 : ¬ (-1 ≤ n ∧ n ≤ hi) := fun h => by rw [inB_yes h.1 h.2] at e; exact absurd e (by decide)
  rw [inB_no (by omega), Bool.false_or]
  exact beq_eq_false_iff_ne.2 (by omega)
 ·obtain ⟨h1, h2⟩ := (inB_iff _ _ _).1 e
  by_cases h3 : n = -1
  ·subst h3
   simp
  ·rw [inB_yes (by omega) h2, Bool.true_or]
theorem parts_are (x y z u : Int) (h : Hd) (hp : planB x y z u = true) : (statesB h && amountsB h && timesB h && placesB y z h) = handB x y z u h := by
 have hpl := (planB_iff x y z u).1 hp
 unfold statesB amountsB timesB placesB handB handNB handFB
 rw [hp, or_one _ 63 (by decide), or_one _ 100 (by decide), Bool.true_and]
 generalize inB h.x_ 0 (y - 1) = a0
 generalize inB h.pred 0 (y - 1) = a1
 generalize inB h.curr (-1) (y - 1) = a2
 generalize inB h.new_ (-1) (y - 1) = a3
 generalize inB h.ver 0 (z - 1) = a4
 generalize inB h.predVer 0 (z - 1) = a5
 generalize inB h.currVer 0 (z - 1) = a6
 simp only [Bool.and_assoc, Bool.and_comm, Bool.and_left_comm]
set_option maxRecDepth 100000 in
set_option maxHeartbeats 4000000 in
theorem handOk_any (x y z u : Int) (h : Hd) (w : World) :
  Calls Tryz.prog 51 #[.agg #[.int .i64 x, .int .i64 y, .int .i64 z, .int .i64 u], .agg (hdC h).toArray] w fun e w' => e = .returned (.bool (handB x y z u h)) ∧ Below w.heap.size w w' := by
 have P0 := (planAt_alloc w x y z u 43).below ((Below.refl _ _).alloc (Nat.le_refl _) (.cells (hdC h).toArray 36)) (by simp)
 have X0 := rangeAt_new (w.alloc (.cells #[.int .i64 x, .int .i64 y, .int .i64 z, .int .i64 u] 43)) (hdC h) 36
 have K0 := ((Below.refl w.heap.size w).alloc (Nat.le_refl _) (.cells #[.int .i64 x, .int .i64 y, .int .i64 z, .int .i64 u] 43)).alloc (by simp) (.cells (hdC h).toArray 36)
 have z0 : w.heap.size + 1 < ((w.alloc (.cells #[.int .i64 x, .int .i64 y, .int .i64 z, .int .i64 u] 43)).alloc (.cells (hdC h).toArray 36)).heap.size := by simp
 simp only [World.size_alloc] at X0
 go_enter Tryz.func51, Tryz.ntmps51
 go_wp2_with (refine wpList_load_mid rfl 36 (.tmp 3) rfl (w.heap.size + 1) 0 rfl (hdC h) _ ?hc Tryz.underlying36 rfl (sizeHandL h) ?_)
 case hc => exact X0
 change Calls Tryz.prog _ _ ((w.alloc (.cells #[.int .i64 x, .int .i64 y, .int .i64 z, .int .i64 u] 43)).alloc (.cells (hdC h).toArray 36)) _
 generalize hw0 : (w.alloc (.cells #[.int .i64 x, .int .i64 y, .int .i64 z, .int .i64 u] 43)).alloc (.cells (hdC h).toArray 36) = w0 at *
 clear hw0
 refine (gripOf_any h _).mono ?_
 rintro e w1 ⟨rfl, b0⟩
 have P1 := P0.below b0 (by omega)
 have K1 := K0.trans (b0.mono (by omega))
 have z1 := Nat.lt_of_lt_of_le z0 b0.size
 clear P0 X0 K0 z0 b0
 have FA := there_new w1 #[.int .i64 0, .int .i64 0, .int .i64 0, .int .i64 0, .int .i64 0, .int .i64 0, .int .i64 0, .int .i64 0, .int .i64 0, .int .i64 0, .int .i64 0, .int .i64 0, .int .i64 0, .int .i64 0, .int .i64 0, .int .i64 0, .int .i64 0, .int .i64 0, .int .i64 0, .int .i64 0, .int .i64 0, .int .i64 0] 95 22 (by decide)
 have hset : (w1.alloc (.cells #[.int .i64 0, .int .i64 0, .int .i64 0, .int .i64 0, .int .i64 0, .int .i64 0, .int .i64 0, .int .i64 0, .int .i64 0, .int .i64 0, .int .i64 0, .int .i64 0, .int .i64 0, .int .i64 0, .int .i64 0, .int .i64 0, .int .i64 0, .int .i64 0, .int .i64 0, .int .i64 0, .int .i64 0, .int .i64 0] 95)).setCells w1.heap.size 0 (grC h).toArray.toList = w1.alloc (.cells (grC h).toArray 95) := alloc_setCells w1 95 (grC h) [] [.int .i64 0, .int .i64 0, .int .i64 0, .int .i64 0, .int .i64 0, .int .i64 0, .int .i64 0, .int .i64 0, .int .i64 0, .int .i64 0, .int .i64 0, .int .i64 0, .int .i64 0, .int .i64 0, .int .i64 0, .int .i64 0, .int .i64 0, .int .i64 0, .int .i64 0, .int .i64 0, .int .i64 0, .int .i64 0] rfl
 have X1 := rangeAt_new w1 (grC h) 95
 have P2 := P1.below ((Below.refl _ _).alloc (Nat.le_refl _) (.cells (grC h).toArray 95)) (by omega)
 have K2 := K1.alloc (by omega) (.cells (grC h).toArray 95)
 have z2 : w1.heap.size < (w1.alloc (.cells (grC h).toArray 95)).heap.size := by simp
 obtain ⟨p0, p1, p2, p3⟩ := id P2
 go_wp2_with (refine wpList_store_mid rfl 95 (.tmp 5) (.tmp 7) rfl w1.heap.size 0 _ rfl rfl FA (sizeGrip h) (oneGrip h) ?_; rw [hset])
 change Calls Tryz.prog _ _ (w1.alloc (.cells (grC h).toArray 95)) _
 generalize hw2 : w1.alloc (.cells (grC h).toArray 95) = w2 at *
 clear hw2 hset FA P1 K1
 refine (right_any _ _ _ _ _).mono ?_
 rintro e w3 ⟨rfl, b2⟩
 have P3 := P2.below b2 (by omega)
 have X3 := rangeAt_below X1 b2 z2
 have K3 := K2.trans (b2.mono (by omega))
 have z3 := Nat.lt_of_lt_of_le z2 b2.size
 clear P2 X1 K2 z2 b2 p0 p1 p2 p3
 cases e0 : planB x y z u
 ·have hv : handB x y z u h = false := by simp only [handB, e0, Bool.false_and]
  go_wp2_with fail
  go_ret
  exact ⟨by rw [hv]; rfl, K3⟩
 have hpl := (planB_iff x y z u).1 e0
 have hpt := parts_are x y z u h e0
 go_wp2_with (refine wpList_load_wanted ?hw0 95 (.tmp 5) rfl w1.heap.size 0 rfl (grC h) _ ?hc0 Tryz.underlying95 rfl (sizeGripL h) ?_)
 try (case hw0 => rfl)
 case hc0 => exact X3
 refine (states_any h _).mono ?_
 rintro e w4 ⟨rfl, b3⟩
 have P4 := P3.below b3 (by omega)
 have X4 := rangeAt_below X3 b3 z3
 have K4 := K3.trans (b3.mono (by omega))
 have z4 := Nat.lt_of_lt_of_le z3 b3.size
 clear P3 X3 K3 z3 b3
 cases e1 : statesB h
 ·have hv : handB x y z u h = false := by rw [← hpt]; simp only [e1, Bool.true_and, Bool.and_true, Bool.false_and, Bool.and_false]
  clear hpt
  go_wp2_with fail
  go_ret
  exact ⟨by rw [hv]; rfl, K4⟩
 go_wp2_with (refine wpList_load_wanted ?hw1 95 (.tmp 5) rfl w1.heap.size 0 rfl (grC h) _ ?hc1 Tryz.underlying95 rfl (sizeGripL h) ?_)
 try (case hw1 => rfl)
 case hc1 => exact X4
 refine (amounts_any h _).mono ?_
 rintro e w5 ⟨rfl, b4⟩
 have P5 := P4.below b4 (by omega)
 have X5 := rangeAt_below X4 b4 z4
 have K5 := K4.trans (b4.mono (by omega))
 have z5 := Nat.lt_of_lt_of_le z4 b4.size
 clear P4 X4 K4 z4 b4
 cases e2 : amountsB h
 ·have hv : handB x y z u h = false := by rw [← hpt]; simp only [e1, e2, Bool.true_and, Bool.and_true, Bool.false_and, Bool.and_false]
  clear hpt
  go_wp2_with fail
  go_ret
  exact ⟨by rw [hv]; rfl, K5⟩
 go_wp2_with (refine wpList_load_wanted ?hw2 95 (.tmp 5) rfl w1.heap.size 0 rfl (grC h) _ ?hc2 Tryz.underlying95 rfl (sizeGripL h) ?_)
 try (case hw2 => rfl)
 case hc2 => exact X5
 refine (times_any h _).mono ?_
 rintro e w6 ⟨rfl, b5⟩
 have P6 := P5.below b5 (by omega)
 have X6 := rangeAt_below X5 b5 z5
 have K6 := K5.trans (b5.mono (by omega))
 have z6 := Nat.lt_of_lt_of_le z5 b5.size
 clear P5 X5 K5 z5 b5
 cases e3 : timesB h
 ·have hv : handB x y z u h = false := by rw [← hpt]; simp only [e1, e2, e3, Bool.true_and, Bool.and_true, Bool.false_and, Bool.and_false]
  clear hpt
  go_wp2_with fail
  go_ret
  exact ⟨by rw [hv]; rfl, K6⟩
 have hv : handB x y z u h = placesB y z h := by rw [← hpt]; simp only [e1, e2, e3, Bool.true_and, Bool.and_true, Bool.false_and, Bool.and_false]
 clear hpt
 obtain ⟨p0, p1, p2, p3⟩ := id P6
 go_wp2_with (refine wpList_load_wanted ?hw9 93 (.tmp 23) rfl w1.heap.size 0 rfl (rgC h) _ ?hc9 Tryz.underlying93 rfl (sizeRegsL h) ?_)
 try (case hw9 => rfl)
 case hc9 => exact grip_regs X6
 refine (places_any y z h _ ⟨by omega, by omega⟩ ⟨by omega, by omega⟩).mono ?_
 rintro e w7 ⟨rfl, b6⟩
 have K7 := K6.trans (b6.mono (by omega))
 go_wp2_with fail
 go_ret
 exact ⟨by rw [hv]; rfl, K7⟩
theorem newHand_any (w : World) : Calls Tryz.prog 108 #[] w fun e w' => e = .returned (.agg (hdC newH).toArray) ∧ Below w.heap.size w w' := by
 have F0 := there_new w #[.int .i64 0, .int .i64 0, .int .i64 0, .int .i64 0, .int .i64 0, .int .i64 0, .int .i64 0, .int .i64 0, .int .i64 0, .int .i64 0, .int .i64 0, .int .i64 0, .int .i64 0, .int .i64 0, .int .i64 0, .int .i64 0, .int .i64 0, .int .i64 0, .int .i64 0, .int .i64 0, .int .i64 0, .int .i64 0] 36 22 (by decide)
 go_enter Tryz.func108, Tryz.ntmps108
 go_wp2_with (refine wpList_store_mid rfl 36 (.tmp 0) (.tmp 1) rfl w.heap.size 0 _ rfl rfl ?ht ?hi ?h1 ?_)
 case ht => exact F0
 case hi => exact sizeHand newH
 case h1 => exact oneHand newH
 refine bodyPost_ret (v := .agg (hdC newH).toArray) ?_ rfl ⟨rfl, ?_⟩
 ·exact results_row Tryz.results108 _ _ w.heap.size 0 rfl (hdC newH) _ (World.rangeAt_setCells_same _ _ _ _ F0) Tryz.underlying36 rfl (sizeHandL newH)
 ·exact Below.setCells (Nat.le_refl _) _ _ _ ((Below.refl _ _).alloc (Nat.le_refl _) _)
set_option maxRecDepth 100000 in
set_option maxHeartbeats 4000000 in
theorem resting_any (h : Hd) (rp ot sm : Int) (w : World) :
  Calls Tryz.prog 104 #[.agg (hdC h).toArray, .int .i64 rp, .int .i64 ot, .int .i64 sm] w fun e w' => e = .returned (.agg (hdC (restOf h rp ot sm)).toArray) ∧ Below w.heap.size w w' := by
 show Calls Tryz.prog 104 #[.agg #[.int .i64 h.at_, .int .i64 h.then_, .int .i64 h.code, .int .i64 h.key, .int .i64 h.value, .int .i64 h.begin, .int .i64 h.reply, .int .i64 h.out, .int .i64 h.sum, .int .i64 h.held, .int .i64 h.x_, .int .i64 h.ver, .int .i64 h.cam, .int .i64 h.camAt, .int .i64 h.pred, .int .i64 h.predVer, .int .i64 h.curr, .int .i64 h.currVer, .int .i64 h.new_, .int .i64 h.least, .int .i64 h.index, .int .i64 h.round], .int .i64 rp, .int .i64 ot, .int .i64 sm] w fun e w' => e = .returned (.agg (hdC (restOf h rp ot sm)).toArray) ∧ Below w.heap.size w w'
 have X0 := World.rangeAt_alloc (rangeAt_new w (hdC h) 36) (.cells #[.int .i64 0, .int .i64 0, .int .i64 0, .int .i64 0, .int .i64 0, .int .i64 0, .int .i64 0, .int .i64 0, .int .i64 0, .int .i64 0, .int .i64 0, .int .i64 0, .int .i64 0, .int .i64 0, .int .i64 0, .int .i64 0, .int .i64 0, .int .i64 0, .int .i64 0, .int .i64 0, .int .i64 0, .int .i64 0] 36)
 have F0 := there_new (w.alloc (.cells (hdC h).toArray 36)) #[.int .i64 0, .int .i64 0, .int .i64 0, .int .i64 0, .int .i64 0, .int .i64 0, .int .i64 0, .int .i64 0, .int .i64 0, .int .i64 0, .int .i64 0, .int .i64 0, .int .i64 0, .int .i64 0, .int .i64 0, .int .i64 0, .int .i64 0, .int .i64 0, .int .i64 0, .int .i64 0, .int .i64 0, .int .i64 0] 36 22 (by decide)
 have K0 := ((Below.refl w.heap.size w).alloc (Nat.le_refl _) (.cells (hdC h).toArray 36)).alloc (by simp) (.cells #[.int .i64 0, .int .i64 0, .int .i64 0, .int .i64 0, .int .i64 0, .int .i64 0, .int .i64 0, .int .i64 0, .int .i64 0, .int .i64 0, .int .i64 0, .int .i64 0, .int .i64 0, .int .i64 0, .int .i64 0, .int .i64 0, .int .i64 0, .int .i64 0, .int .i64 0, .int .i64 0, .int .i64 0, .int .i64 0] 36)
 have hz0 : w.heap.size + 1 < ((w.alloc (.cells (hdC h).toArray 36)).alloc (.cells #[.int .i64 0, .int .i64 0, .int .i64 0, .int .i64 0, .int .i64 0, .int .i64 0, .int .i64 0, .int .i64 0, .int .i64 0, .int .i64 0, .int .i64 0, .int .i64 0, .int .i64 0, .int .i64 0, .int .i64 0, .int .i64 0, .int .i64 0, .int .i64 0, .int .i64 0, .int .i64 0, .int .i64 0, .int .i64 0] 36)).heap.size := by simp
 simp only [World.size_alloc] at F0
 go_enter Tryz.func104, Tryz.ntmps104
 go_wp2_with fail
 change Calls Tryz.prog _ _ ((w.alloc (.cells (hdC h).toArray 36)).alloc (.cells #[.int .i64 0, .int .i64 0, .int .i64 0, .int .i64 0, .int .i64 0, .int .i64 0, .int .i64 0, .int .i64 0, .int .i64 0, .int .i64 0, .int .i64 0, .int .i64 0, .int .i64 0, .int .i64 0, .int .i64 0, .int .i64 0, .int .i64 0, .int .i64 0, .int .i64 0, .int .i64 0, .int .i64 0, .int .i64 0] 36)) _
 generalize hw0 : (w.alloc (.cells (hdC h).toArray 36)).alloc (.cells #[.int .i64 0, .int .i64 0, .int .i64 0, .int .i64 0, .int .i64 0, .int .i64 0, .int .i64 0, .int .i64 0, .int .i64 0, .int .i64 0, .int .i64 0, .int .i64 0, .int .i64 0, .int .i64 0, .int .i64 0, .int .i64 0, .int .i64 0, .int .i64 0, .int .i64 0, .int .i64 0, .int .i64 0, .int .i64 0] 36) = w0 at *
 clear hw0
 refine (newHand_any _).mono ?_
 rintro e w1 ⟨rfl, b1⟩
 have q9 : w1.cell? ⟨w.heap.size, 9, none⟩ = some (.int .i64 h.held) := (b1.cell (p := ⟨w.heap.size, 9, none⟩) (by show w.heap.size < w0.heap.size; omega)).trans (by have := X0 9 (.int .i64 h.held) rfl; simpa using this)
 have F1 := there_below F0 b1 hz0
 have K1 := K0.trans (b1.mono (by omega))
 have hz1 := Nat.lt_of_lt_of_le hz0 b1.size
 have qa : ∀ o : Obj, (w1.alloc o).cell? ⟨w.heap.size, 9, none⟩ = some (.int .i64 h.held) := fun o => (World.cell?_alloc_lt _ _ _ (by show w.heap.size < w1.heap.size; omega)).trans q9
 clear X0 F0 K0 b1 hz0 q9
 have hset : (w1.alloc (.cells #[.int .i64 0, .int .i64 0, .int .i64 0, .int .i64 0, .int .i64 0, .int .i64 0, .int .i64 0, .int .i64 0, .int .i64 0, .int .i64 0, .int .i64 0, .int .i64 0, .int .i64 0, .int .i64 0, .int .i64 0, .int .i64 0, .int .i64 0, .int .i64 0, .int .i64 0, .int .i64 0, .int .i64 0, .int .i64 0] 36)).setCells w1.heap.size 0 (hdC newH).toArray.toList = w1.alloc (.cells #[.int .i64 0, .int .i64 0, .int .i64 0, .int .i64 (-1), .int .i64 0, .int .i64 0, .int .i64 0, .int .i64 0, .int .i64 0, .int .i64 (-1), .int .i64 0, .int .i64 0, .int .i64 0, .int .i64 0, .int .i64 0, .int .i64 0, .int .i64 (-1), .int .i64 0, .int .i64 (-1), .int .i64 0, .int .i64 0, .int .i64 0] 36) := alloc_setCells w1 36 (hdC newH) [] [.int .i64 0, .int .i64 0, .int .i64 0, .int .i64 0, .int .i64 0, .int .i64 0, .int .i64 0, .int .i64 0, .int .i64 0, .int .i64 0, .int .i64 0, .int .i64 0, .int .i64 0, .int .i64 0, .int .i64 0, .int .i64 0, .int .i64 0, .int .i64 0, .int .i64 0, .int .i64 0, .int .i64 0, .int .i64 0] rfl
 have FA := there_new w1 #[.int .i64 0, .int .i64 0, .int .i64 0, .int .i64 0, .int .i64 0, .int .i64 0, .int .i64 0, .int .i64 0, .int .i64 0, .int .i64 0, .int .i64 0, .int .i64 0, .int .i64 0, .int .i64 0, .int .i64 0, .int .i64 0, .int .i64 0, .int .i64 0, .int .i64 0, .int .i64 0, .int .i64 0, .int .i64 0] 36 22 (by decide)
 have K2 := K1.alloc (by omega) (.cells (hdC (restOf h rp ot sm)).toArray 36)
 have R2 := rangeAt_new w1 (hdC (restOf h rp ot sm)) 36
 have F2 := World.there_alloc F1 (.cells (hdC (restOf h rp ot sm)).toArray 36)
 go_wp2_with (first | (refine wpList_store_mid rfl 36 (.tmp 9) (.tmp 10) rfl w1.heap.size 0 _ rfl rfl FA (sizeHand newH) (oneHand newH) ?_; rw [hset]) | (refine wpList_load_mid rfl 36 (.tmp 9) rfl w1.heap.size 0 rfl (hdC (restOf h rp ot sm)) _ ?hc Tryz.underlying36 rfl (sizeHandL _) ?_) | (refine wpList_store_mid rfl 36 (.tmp 8) _ rfl (w.heap.size + 1) 0 _ rfl rfl ?ht ?hi ?h1 ?_))
 case hc => exact R2
 case ht => exact F2
 case hi => exact sizeHand _
 case h1 => exact oneHand _
 refine bodyPost_ret (v := .agg (hdC (restOf h rp ot sm)).toArray) ?_ rfl ⟨rfl, ?_⟩
 ·exact results_row Tryz.results104 _ _ (w.heap.size + 1) 0 rfl (hdC (restOf h rp ot sm)) _ (World.rangeAt_setCells_same _ _ _ _ F2) Tryz.underlying36 rfl (sizeHandL _)
 ·exact Below.setCells (by omega) _ _ _ K2
end
end Go.Proofs.YtlfjhcdjgoeafaaGreatDoor
