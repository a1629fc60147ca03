/-
  What the law's proof goes by, part 42.
-/
import Derived.Test.YtclkglkhhnapiaaGreatFnWent00
import Derived.Test.YtclkglkhhnapiaaGreatFnWent01
import Derived.Test.YtclkglkhhnapiaaGreatFnWent05
namespace Go.Proofs.YtclkglkhhnapiaaGreat
open Go.ChangeShapes Go.WideShapes Go.ChangeAt Go.RowKit
set_option maxRecDepth 100000
set_option maxHeartbeats 16000000
set_option linter.unusedVariables false
set_option linter.unusedSimpArgs false
set_option linter.unnecessarySimpa false
set_option linter.unusedSectionVars false
section
attribute [local go_sem ↓] Go.wp_at_zero Go.wp_at_succ
def grC (h : Hd) : List Value := [.int .i64 h.x_, .int .i64 h.ver, .int .i64 h.cam, .int .i64 h.camAt, .int .i64 h.pred, .int .i64 h.predVer, .int .i64 h.curr, .int .i64 h.currVer, .int .i64 h.new_, .int .i64 h.least, .int .i64 h.index, .int .i64 h.round, .int .i64 h.at_, .int .i64 h.then_, .int .i64 h.code, .int .i64 h.key, .int .i64 h.value, .int .i64 h.begin, .int .i64 h.reply, .int .i64 h.out, .int .i64 h.sum, .int .i64 h.held]
def rgC (h : Hd) : List Value := [.int .i64 h.x_, .int .i64 h.ver, .int .i64 h.cam, .int .i64 h.camAt, .int .i64 h.pred, .int .i64 h.predVer, .int .i64 h.curr, .int .i64 h.currVer, .int .i64 h.new_, .int .i64 h.least, .int .i64 h.index, .int .i64 h.round]
theorem qzbt (h : Hd) : (Tryz.prog.info? 98).map (fun i => i.size) = some (grC h).toArray.size := by
 show _ = some 22
 kernel_rfl
theorem qz6b (h : Hd) : (Tryz.prog.info? 98).map (fun i => i.size) = some (grC h).length := by
 show _ = some 22
 kernel_rfl
theorem qzdz (h : Hd) : (grC h).toArray.all (·.oneCell') = true := by simp [grC, Value.oneCell']
theorem qzcz (h : Hd) : (Tryz.prog.info? 96).map (fun i => i.size) = some (rgC h).length := by
 show _ = some 12
 kernel_rfl
theorem qzdh {w : World} {b : Nat} {h : Hd} (X : w.rangeAt b 0 (grC h)) : w.rangeAt b 0 (rgC h) := by
 intro j v hv
 refine X j v ?_
 have hj : j < (rgC h).length := (List.getElem?_eq_some_iff.1 hv).1
 have e : grC h = rgC h ++ [.int .i64 h.at_, .int .i64 h.then_, .int .i64 h.code, .int .i64 h.key, .int .i64 h.value, .int .i64 h.begin, .int .i64 h.reply, .int .i64 h.out, .int .i64 h.sum, .int .i64 h.held] := rfl
 rw [e, List.getElem?_append_left hj]
 exact hv
theorem qz31 (n : Int) (w : World) : Calls Tryz.prog 56 #[.int .i64 n] w fun e w' => e = .returned (.bool (inB n 0 20000)) /\ w' = w := by
 go_enter Tryz.func56, Tryz.ntmps56
 go_wp2_with (go_at_call 41; refine (qzk _ _ _ _).mono ?_; rintro e w' ⟨rfl, rfl⟩)
 go_ret
 exact ⟨rfl, rfl⟩
theorem qz3e (n : Int) (w : World) : Calls Tryz.prog 144 #[.int .i64 n] w fun e w' => e = .returned (.bool (inB n 0 100)) /\ w' = w := by
 go_enter Tryz.func144, Tryz.ntmps144
 go_wp2_with (go_at_call 41; refine (qzk _ _ _ _).mono ?_; rintro e w' ⟨rfl, rfl⟩)
 go_ret
 exact ⟨rfl, rfl⟩
def qz4f (h : Hd) : Bool := inB h.at_ 0 23 && inB h.then_ 0 7 && inB h.code 0 8 && inB h.reply 0 7
theorem qzcb (h : Hd) (w : World) : Calls Tryz.prog 104 #[.agg (grC h).toArray] w fun e w' => e = .returned (.bool (qz4f h)) /\ Below w.heap.size w w' := by
 show Calls Tryz.prog 104 #[.agg Q12] w fun e w' => e = .returned (.bool (qz4f h)) /\ Below w.heap.size w w'
 have KK := (Below.refl w.heap.size w).alloc (Nat.le_refl _) (.cells Q12 98)
 cases e0 : inB h.at_ 0 23
 ·have hv : qz4f h = false := by simp only [qz4f, e0, Bool.true_and, Bool.and_true, Bool.false_and, Bool.and_false, Bool.true_or, Bool.or_true, Bool.or_false, Bool.false_or]
  go_enter Tryz.func104, Tryz.ntmps104
  go_wp2_with (go_at_call 41; refine (qzk _ _ _ _).mono ?_; rintro e w' ⟨rfl, hw⟩; obtain rfl := hw.symm)
  go_ret
  exact ⟨by rw [hv]; rfl, KK⟩
 cases e1 : inB h.then_ 0 7
 ·have hv : qz4f h = false := by simp only [qz4f, e0, e1, Bool.true_and, Bool.and_true, Bool.false_and, Bool.and_false, Bool.true_or, Bool.or_true, Bool.or_false, Bool.false_or]
  go_enter Tryz.func104, Tryz.ntmps104
  go_wp2_with (go_at_call 41; refine (qzk _ _ _ _).mono ?_; rintro e w' ⟨rfl, hw⟩; obtain rfl := hw.symm)
  go_ret
  exact ⟨by rw [hv]; rfl, KK⟩
 cases e2 : inB h.code 0 8
 ·have hv : qz4f h = false := by simp only [qz4f, e0, e1, e2, Bool.true_and, Bool.and_true, Bool.false_and, Bool.and_false, Bool.true_or, Bool.or_true, Bool.or_false, Bool.false_or]
  go_enter Tryz.func104, Tryz.ntmps104
  go_wp2_with (go_at_call 41; refine (qzk _ _ _ _).mono ?_; rintro e w' ⟨rfl, hw⟩; obtain rfl := hw.symm)
  go_ret
  exact ⟨by rw [hv]; rfl, KK⟩
 have hv : qz4f h = inB h.reply 0 7 := by simp only [qz4f, e0, e1, e2, Bool.true_and, Bool.and_true, Bool.false_and, Bool.and_false, Bool.true_or, Bool.or_true, Bool.or_false, Bool.false_or]
 go_enter Tryz.func104, Tryz.ntmps104
 go_wp2_with (go_at_call 41; refine (qzk _ _ _ _).mono ?_; rintro e w' ⟨rfl, hw⟩; obtain rfl := hw.symm)
 go_ret
 exact ⟨by rw [hv]; rfl, KK⟩
def qz27 (h : Hd) : Bool := (inB h.key 0 63 || h.key == -1) && inB h.value 0 9999 && inB h.out 0 1000000 && inB h.sum 0 1000000 && inB h.index 0 60
theorem qzav (h : Hd) (w : World) : Calls Tryz.prog 105 #[.agg (grC h).toArray] w fun e w' => e = .returned (.bool (qz27 h)) /\ Below w.heap.size w w' := by
 show Calls Tryz.prog 105 #[.agg Q12] w fun e w' => e = .returned (.bool (qz27 h)) /\ Below w.heap.size w w'
 have KK := (Below.refl w.heap.size w).alloc (Nat.le_refl _) (.cells Q12 98)
 cases e0 : inB h.key 0 63
 ·by_cases k0 : h.key = -1
  ·have b0 : (h.key == -1) = true := by rw [k0]; rfl
   cases e1 : inB h.value 0 9999
   ·have hv : qz27 h = false := by simp only [qz27, e0, b0, e1, Bool.true_and, Bool.and_true, Bool.false_and, Bool.and_false, Bool.true_or, Bool.or_true, Bool.or_false, Bool.false_or]
    go_enter Tryz.func105, Tryz.ntmps105
    go_wp2_with (first | (go_at_call 41; refine (qzk _ _ _ _).mono ?_; rintro e w' ⟨rfl, hw⟩; obtain rfl := hw.symm) | (go_at_call 143; refine (qz3j _ _).mono ?_; rintro e w' ⟨rfl, hw⟩; obtain rfl := hw.symm))
    go_ret
    exact ⟨by rw [hv]; rfl, by rw [k0] at KK; exact KK⟩
   cases e2 : inB h.out 0 1000000
   ·have hv : qz27 h = false := by simp only [qz27, e0, b0, e1, e2, Bool.true_and, Bool.and_true, Bool.false_and, Bool.and_false, Bool.true_or, Bool.or_true, Bool.or_false, Bool.false_or]
    go_enter Tryz.func105, Tryz.ntmps105
    go_wp2_with (first | (go_at_call 41; refine (qzk _ _ _ _).mono ?_; rintro e w' ⟨rfl, hw⟩; obtain rfl := hw.symm) | (go_at_call 143; refine (qz3j _ _).mono ?_; rintro e w' ⟨rfl, hw⟩; obtain rfl := hw.symm))
    go_ret
    exact ⟨by rw [hv]; rfl, by rw [k0] at KK; exact KK⟩
   cases e3 : inB h.sum 0 1000000
   ·have hv : qz27 h = false := by simp only [qz27, e0, b0, e1, e2, e3, Bool.true_and, Bool.and_true, Bool.false_and, Bool.and_false, Bool.true_or, Bool.or_true, Bool.or_false, Bool.false_or]
    go_enter Tryz.func105, Tryz.ntmps105
    go_wp2_with (first | (go_at_call 41; refine (qzk _ _ _ _).mono ?_; rintro e w' ⟨rfl, hw⟩; obtain rfl := hw.symm) | (go_at_call 143; refine (qz3j _ _).mono ?_; rintro e w' ⟨rfl, hw⟩; obtain rfl := hw.symm))
    go_ret
    exact ⟨by rw [hv]; rfl, by rw [k0] at KK; exact KK⟩
   have hv : qz27 h = inB h.index 0 60 := by simp only [qz27, e0, b0, e1, e2, e3, Bool.true_and, Bool.and_true, Bool.false_and, Bool.and_false, Bool.true_or, Bool.or_true, Bool.or_false, Bool.false_or]
   go_enter Tryz.func105, Tryz.ntmps105
   go_wp2_with (first | (go_at_call 41; refine (qzk _ _ _ _).mono ?_; rintro e w' ⟨rfl, hw⟩; obtain rfl := hw.symm) | (go_at_call 143; refine (qz3j _ _).mono ?_; rintro e w' ⟨rfl, hw⟩; obtain rfl := hw.symm))
   go_ret
   exact ⟨by rw [hv]; rfl, by rw [k0] at KK; exact KK⟩
  ·have b0 : (h.key == -1) = false := by simpa using k0
   have hv : qz27 h = false := by simp only [qz27, e0, b0, Bool.true_and, Bool.and_true, Bool.false_and, Bool.and_false, Bool.true_or, Bool.or_true, Bool.or_false, Bool.false_or]
   go_enter Tryz.func105, Tryz.ntmps105
   go_wp2_with (first | (go_at_call 41; refine (qzk _ _ _ _).mono ?_; rintro e w' ⟨rfl, hw⟩; obtain rfl := hw.symm) | (go_at_call 143; refine (qz3j _ _).mono ?_; rintro e w' ⟨rfl, hw⟩; obtain rfl := hw.symm))
   go_ret
   exact ⟨by rw [hv]; rfl, KK⟩
 cases e1 : inB h.value 0 9999
 ·have hv : qz27 h = false := by simp only [qz27, e0, e1, Bool.true_and, Bool.and_true, Bool.false_and, Bool.and_false, Bool.true_or, Bool.or_true, Bool.or_false, Bool.false_or]
  go_enter Tryz.func105, Tryz.ntmps105
  go_wp2_with (first | (go_at_call 41; refine (qzk _ _ _ _).mono ?_; rintro e w' ⟨rfl, hw⟩; obtain rfl := hw.symm) | (go_at_call 143; refine (qz3j _ _).mono ?_; rintro e w' ⟨rfl, hw⟩; obtain rfl := hw.symm))
  go_ret
  exact ⟨by rw [hv]; rfl, KK⟩
 cases e2 : inB h.out 0 1000000
 ·have hv : qz27 h = false := by simp only [qz27, e0, e1, e2, Bool.true_and, Bool.and_true, Bool.false_and, Bool.and_false, Bool.true_or, Bool.or_true, Bool.or_false, Bool.false_or]
  go_enter Tryz.func105, Tryz.ntmps105
  go_wp2_with (first | (go_at_call 41; refine (qzk _ _ _ _).mono ?_; rintro e w' ⟨rfl, hw⟩; obtain rfl := hw.symm) | (go_at_call 143; refine (qz3j _ _).mono ?_; rintro e w' ⟨rfl, hw⟩; obtain rfl := hw.symm))
  go_ret
  exact ⟨by rw [hv]; rfl, KK⟩
 cases e3 : inB h.sum 0 1000000
 ·have hv : qz27 h = false := by simp only [qz27, e0, e1, e2, e3, Bool.true_and, Bool.and_true, Bool.false_and, Bool.and_false, Bool.true_or, Bool.or_true, Bool.or_false, Bool.false_or]
  go_enter Tryz.func105, Tryz.ntmps105
  go_wp2_with (first | (go_at_call 41; refine (qzk _ _ _ _).mono ?_; rintro e w' ⟨rfl, hw⟩; obtain rfl := hw.symm) | (go_at_call 143; refine (qz3j _ _).mono ?_; rintro e w' ⟨rfl, hw⟩; obtain rfl := hw.symm))
  go_ret
  exact ⟨by rw [hv]; rfl, KK⟩
 have hv : qz27 h = inB h.index 0 60 := by simp only [qz27, e0, e1, e2, e3, Bool.true_and, Bool.and_true, Bool.false_and, Bool.and_false, Bool.true_or, Bool.or_true, Bool.or_false, Bool.false_or]
 go_enter Tryz.func105, Tryz.ntmps105
 go_wp2_with (first | (go_at_call 41; refine (qzk _ _ _ _).mono ?_; rintro e w' ⟨rfl, hw⟩; obtain rfl := hw.symm) | (go_at_call 143; refine (qz3j _ _).mono ?_; rintro e w' ⟨rfl, hw⟩; obtain rfl := hw.symm))
 go_ret
 exact ⟨by rw [hv]; rfl, KK⟩
def qz49 (h : Hd) : Bool := inB h.begin 0 20000 && inB h.camAt 0 20000 && inB h.round 0 20000 && (inB h.held 0 100 || h.held == -1) && inB h.cam 0 100 && inB h.least 0 100
theorem qzdl (h : Hd) (w : World) : Calls Tryz.prog 106 #[.agg (grC h).toArray] w fun e w' => e = .returned (.bool (qz49 h)) /\ Below w.heap.size w w' := by
 show Calls Tryz.prog 106 #[.agg Q12] w fun e w' => e = .returned (.bool (qz49 h)) /\ Below w.heap.size w w'
 have KK := (Below.refl w.heap.size w).alloc (Nat.le_refl _) (.cells Q12 98)
 cases e0 : inB h.begin 0 20000
 ·have hv : qz49 h = false := by simp only [qz49, e0, Bool.true_and, Bool.and_true, Bool.false_and, Bool.and_false, Bool.true_or, Bool.or_true, Bool.or_false, Bool.false_or]
  go_enter Tryz.func106, Tryz.ntmps106
  go_wp2_with (first | (go_at_call 56; refine (qz31 _ _).mono ?_; rintro e w' ⟨rfl, hw⟩; obtain rfl := hw.symm) | (go_at_call 144; refine (qz3e _ _).mono ?_; rintro e w' ⟨rfl, hw⟩; obtain rfl := hw.symm))
  go_ret
  exact ⟨by rw [hv]; rfl, KK⟩
 cases e1 : inB h.camAt 0 20000
 ·have hv : qz49 h = false := by simp only [qz49, e0, e1, Bool.true_and, Bool.and_true, Bool.false_and, Bool.and_false, Bool.true_or, Bool.or_true, Bool.or_false, Bool.false_or]
  go_enter Tryz.func106, Tryz.ntmps106
  go_wp2_with (first | (go_at_call 56; refine (qz31 _ _).mono ?_; rintro e w' ⟨rfl, hw⟩; obtain rfl := hw.symm) | (go_at_call 144; refine (qz3e _ _).mono ?_; rintro e w' ⟨rfl, hw⟩; obtain rfl := hw.symm))
  go_ret
  exact ⟨by rw [hv]; rfl, KK⟩
 cases e2 : inB h.round 0 20000
 ·have hv : qz49 h = false := by simp only [qz49, e0, e1, e2, Bool.true_and, Bool.and_true, Bool.false_and, Bool.and_false, Bool.true_or, Bool.or_true, Bool.or_false, Bool.false_or]
  go_enter Tryz.func106, Tryz.ntmps106
  go_wp2_with (first | (go_at_call 56; refine (qz31 _ _).mono ?_; rintro e w' ⟨rfl, hw⟩; obtain rfl := hw.symm) | (go_at_call 144; refine (qz3e _ _).mono ?_; rintro e w' ⟨rfl, hw⟩; obtain rfl := hw.symm))
  go_ret
  exact ⟨by rw [hv]; rfl, KK⟩
 cases e3 : inB h.held 0 100
 ·by_cases k3 : h.held = -1
  ·have b3 : (h.held == -1) = true := by rw [k3]; rfl
   cases e4 : inB h.cam 0 100
   ·have hv : qz49 h = false := by simp only [qz49, e0, e1, e2, e3, b3, e4, Bool.true_and, Bool.and_true, Bool.false_and, Bool.and_false, Bool.true_or, Bool.or_true, Bool.or_false, Bool.false_or]
    go_enter Tryz.func106, Tryz.ntmps106
    go_wp2_with (first | (go_at_call 56; refine (qz31 _ _).mono ?_; rintro e w' ⟨rfl, hw⟩; obtain rfl := hw.symm) | (go_at_call 144; refine (qz3e _ _).mono ?_; rintro e w' ⟨rfl, hw⟩; obtain rfl := hw.symm))
    go_ret
    exact ⟨by rw [hv]; rfl, by rw [k3] at KK; exact KK⟩
   have hv : qz49 h = inB h.least 0 100 := by simp only [qz49, e0, e1, e2, e3, b3, e4, Bool.true_and, Bool.and_true, Bool.false_and, Bool.and_false, Bool.true_or, Bool.or_true, Bool.or_false, Bool.false_or]
   go_enter Tryz.func106, Tryz.ntmps106
   go_wp2_with (first | (go_at_call 56; refine (qz31 _ _).mono ?_; rintro e w' ⟨rfl, hw⟩; obtain rfl := hw.symm) | (go_at_call 144; refine (qz3e _ _).mono ?_; rintro e w' ⟨rfl, hw⟩; obtain rfl := hw.symm))
   go_ret
   exact ⟨by rw [hv]; rfl, by rw [k3] at KK; exact KK⟩
  ·have b3 : (h.held == -1) = false := by simpa using k3
   have hv : qz49 h = false := by simp only [qz49, e0, e1, e2, e3, b3, Bool.true_and, Bool.and_true, Bool.false_and, Bool.and_false, Bool.true_or, Bool.or_true, Bool.or_false, Bool.false_or]
   go_enter Tryz.func106, Tryz.ntmps106
   go_wp2_with (first | (go_at_call 56; refine (qz31 _ _).mono ?_; rintro e w' ⟨rfl, hw⟩; obtain rfl := hw.symm) | (go_at_call 144; refine (qz3e _ _).mono ?_; rintro e w' ⟨rfl, hw⟩; obtain rfl := hw.symm))
   go_ret
   exact ⟨by rw [hv]; rfl, KK⟩
 cases e4 : inB h.cam 0 100
 ·have hv : qz49 h = false := by simp only [qz49, e0, e1, e2, e3, e4, Bool.true_and, Bool.and_true, Bool.false_and, Bool.and_false, Bool.true_or, Bool.or_true, Bool.or_false, Bool.false_or]
  go_enter Tryz.func106, Tryz.ntmps106
  go_wp2_with (first | (go_at_call 56; refine (qz31 _ _).mono ?_; rintro e w' ⟨rfl, hw⟩; obtain rfl := hw.symm) | (go_at_call 144; refine (qz3e _ _).mono ?_; rintro e w' ⟨rfl, hw⟩; obtain rfl := hw.symm))
  go_ret
  exact ⟨by rw [hv]; rfl, KK⟩
 have hv : qz49 h = inB h.least 0 100 := by simp only [qz49, e0, e1, e2, e3, e4, Bool.true_and, Bool.and_true, Bool.false_and, Bool.and_false, Bool.true_or, Bool.or_true, Bool.or_false, Bool.false_or]
 go_enter Tryz.func106, Tryz.ntmps106
 go_wp2_with (first | (go_at_call 56; refine (qz31 _ _).mono ?_; rintro e w' ⟨rfl, hw⟩; obtain rfl := hw.symm) | (go_at_call 144; refine (qz3e _ _).mono ?_; rintro e w' ⟨rfl, hw⟩; obtain rfl := hw.symm))
 go_ret
 exact ⟨by rw [hv]; rfl, KK⟩
def qz36 (y z : Int) (h : Hd) : Bool := inB h.x_ 0 (y - 1) && inB h.pred 0 (y - 1) && inB h.curr (-1) (y - 1) && inB h.new_ (-1) (y - 1) && inB h.ver 0 (z - 1) && inB h.predVer 0 (z - 1) && inB h.currVer 0 (z - 1)
theorem qz8z (y z : Int) (h : Hd) (w : World) (hy : 0 <= y /\ y <= 1048576) (hz : 0 <= z /\ z <= 1048576) : Calls Tryz.prog 58 #[.agg (rgC h).toArray, .int .i64 y, .int .i64 z] w fun e w' => e = .returned (.bool (qz36 y z h)) /\ Below w.heap.size w w' := by
 show Calls Tryz.prog 58 #[.agg #[.int .i64 h.x_, .int .i64 h.ver, .int .i64 h.cam, .int .i64 h.camAt, .int .i64 h.pred, .int .i64 h.predVer, .int .i64 h.curr, .int .i64 h.currVer, .int .i64 h.new_, .int .i64 h.least, .int .i64 h.index, .int .i64 h.round], .int .i64 y, .int .i64 z] w fun e w' => e = .returned (.bool (qz36 y z h)) /\ Below w.heap.size w w'
 have KK := (Below.refl w.heap.size w).alloc (Nat.le_refl _) (.cells #[.int .i64 h.x_, .int .i64 h.ver, .int .i64 h.cam, .int .i64 h.camAt, .int .i64 h.pred, .int .i64 h.predVer, .int .i64 h.curr, .int .i64 h.currVer, .int .i64 h.new_, .int .i64 h.least, .int .i64 h.index, .int .i64 h.round] 96)
 cases e0 : inB h.x_ 0 (y - 1)
 ·have hv : qz36 y z h = false := by simp only [qz36, e0, Bool.true_and, Bool.and_true, Bool.false_and, Bool.and_false, Bool.true_or, Bool.or_true, Bool.or_false, Bool.false_or]
  go_enter Tryz.func58, Tryz.ntmps58
  go_wp2_with (go_at_call 41; refine (qzk _ _ _ _).mono ?_; rintro e w' ⟨rfl, hw⟩; obtain rfl := hw.symm)
  go_ret
  exact ⟨by rw [hv]; rfl, KK⟩
 cases e1 : inB h.pred 0 (y - 1)
 ·have hv : qz36 y z h = false := by simp only [qz36, e0, e1, Bool.true_and, Bool.and_true, Bool.false_and, Bool.and_false, Bool.true_or, Bool.or_true, Bool.or_false, Bool.false_or]
  go_enter Tryz.func58, Tryz.ntmps58
  go_wp2_with (go_at_call 41; refine (qzk _ _ _ _).mono ?_; rintro e w' ⟨rfl, hw⟩; obtain rfl := hw.symm)
  go_ret
  exact ⟨by rw [hv]; rfl, KK⟩
 cases e2 : inB h.curr (-1) (y - 1)
 ·have hv : qz36 y z h = false := by simp only [qz36, e0, e1, e2, Bool.true_and, Bool.and_true, Bool.false_and, Bool.and_false, Bool.true_or, Bool.or_true, Bool.or_false, Bool.false_or]
  go_enter Tryz.func58, Tryz.ntmps58
  go_wp2_with (go_at_call 41; refine (qzk _ _ _ _).mono ?_; rintro e w' ⟨rfl, hw⟩; obtain rfl := hw.symm)
  go_ret
  exact ⟨by rw [hv]; rfl, KK⟩
 cases e3 : inB h.new_ (-1) (y - 1)
 ·have hv : qz36 y z h = false := by simp only [qz36, e0, e1, e2, e3, Bool.true_and, Bool.and_true, Bool.false_and, Bool.and_false, Bool.true_or, Bool.or_true, Bool.or_false, Bool.false_or]
  go_enter Tryz.func58, Tryz.ntmps58
  go_wp2_with (go_at_call 41; refine (qzk _ _ _ _).mono ?_; rintro e w' ⟨rfl, hw⟩; obtain rfl := hw.symm)
  go_ret
  exact ⟨by rw [hv]; rfl, KK⟩
 cases e4 : inB h.ver 0 (z - 1)
 ·have hv : qz36 y z h = false := by simp only [qz36, e0, e1, e2, e3, e4, Bool.true_and, Bool.and_true, Bool.false_and, Bool.and_false, Bool.true_or, Bool.or_true, Bool.or_false, Bool.false_or]
  go_enter Tryz.func58, Tryz.ntmps58
  go_wp2_with (go_at_call 41; refine (qzk _ _ _ _).mono ?_; rintro e w' ⟨rfl, hw⟩; obtain rfl := hw.symm)
  go_ret
  exact ⟨by rw [hv]; rfl, KK⟩
 cases e5 : inB h.predVer 0 (z - 1)
 ·have hv : qz36 y z h = false := by simp only [qz36, e0, e1, e2, e3, e4, e5, Bool.true_and, Bool.and_true, Bool.false_and, Bool.and_false, Bool.true_or, Bool.or_true, Bool.or_false, Bool.false_or]
  go_enter Tryz.func58, Tryz.ntmps58
  go_wp2_with (go_at_call 41; refine (qzk _ _ _ _).mono ?_; rintro e w' ⟨rfl, hw⟩; obtain rfl := hw.symm)
  go_ret
  exact ⟨by rw [hv]; rfl, KK⟩
 have hv : qz36 y z h = inB h.currVer 0 (z - 1) := by simp only [qz36, e0, e1, e2, e3, e4, e5, Bool.true_and, Bool.and_true, Bool.false_and, Bool.and_false, Bool.true_or, Bool.or_true, Bool.or_false, Bool.false_or]
 go_enter Tryz.func58, Tryz.ntmps58
 go_wp2_with (go_at_call 41; refine (qzk _ _ _ _).mono ?_; rintro e w' ⟨rfl, hw⟩; obtain rfl := hw.symm)
 go_ret
 exact ⟨by rw [hv]; rfl, KK⟩
theorem qz8g (h : Hd) (w : World) : Calls Tryz.prog 57 #[.agg (hdC h).toArray] w fun e w' => e = .returned (.agg (grC h).toArray) /\ Below w.heap.size w w' := by
 show Calls Tryz.prog 57 #[.agg Q07] w fun e w' => e = .returned (.agg (grC h).toArray) /\ Below w.heap.size w w'
 go_enter Tryz.func57, Tryz.ntmps57
 have F0 := qz8 (w.alloc (.cells Q07 32)) Q00 98 22 (by decide)
 have K0 := ((Below.refl w.heap.size w).alloc (Nat.le_refl _) (.cells Q07 32)).alloc (by simp) (.cells Q00 98)
 simp only [World.size_alloc] at F0
 go_wp2_with (refine wpList_store_mid rfl 98 (.tmp 2) (.tmp 48) rfl (w.heap.size + 1) 0 _ rfl rfl ?ht ?hi ?h1 ?_)
 case ht => exact F0
 case hi => exact qzbt h
 case h1 => exact qzdz h
 refine bodyPost_ret (v := .agg (grC h).toArray) ?_ rfl ⟨rfl, ?_⟩
 ·exact qz3 Tryz.results57 _ _ (w.heap.size + 1) 0 rfl (grC h) _ (World.rangeAt_setCells_same _ _ _ _ F0) Tryz.underlying98 rfl (qz6b h)
 ·exact Below.setCells (by omega) _ _ _ K0
theorem qzf7 (n hi : Int) (hh : 0 <= hi) : (inB n 0 hi || n == -1) = inB n (-1) hi := by
 cases e : inB n (-1) hi
 ·have h1 : ¬ (-1 <= n /\ n <= hi) := fun h => by rw [qz52 h.1 h.2] at e; exact absurd e (by decide)
  rw [qz9f (by omega), Bool.false_or]
  exact beq_eq_false_iff_ne.2 (by omega)
 ·obtain ⟨h1, h2⟩ := (qz1a _ _ _).1 e
  by_cases h3 : n = -1
  ·subst h3
   simp
  ·rw [qz52 (by omega) h2, Bool.true_or]
theorem qzdm (x y z u : Int) (h : Hd) (hp : qz3t x y z u = true) : (qz4f h && qz27 h && qz49 h && qz36 y z h) = qz3g x y z u h := by
 have hpl := (qz29 x y z u).1 hp
 unfold qz4f qz27 qz49 qz36 qz3g qz4n qz4e
 rw [hp, qzf7 _ 63 (by decide), qzf7 _ 100 (by decide), Bool.true_and]
 generalize inB h.x_ 0 (y - 1) = a0
 generalize inB h.pred 0 (y - 1) = a1
 generalize inB h.curr (-1) (y - 1) = a2
 generalize inB h.new_ (-1) (y - 1) = a3
 generalize inB h.ver 0 (z - 1) = a4
 generalize inB h.predVer 0 (z - 1) = a5
 generalize inB h.currVer 0 (z - 1) = a6
 simp only [Bool.and_assoc, Bool.and_comm, Bool.and_left_comm]
theorem qzbr (x y z u : Int) (h : Hd) (w : World) :
  Calls Tryz.prog 54 #[.agg Q05, .agg (hdC h).toArray] w fun e w' => e = .returned (.bool (qz3g x y z u h)) /\ Below w.heap.size w w' := by
 have P0 := (qz1t w x y z u 25).below ((Below.refl _ _).alloc (Nat.le_refl _) Q0f) (by simp)
 have X0 := qz6 Q3a (hdC h) 32
 have K0 := ((Below.refl w.heap.size w).alloc (Nat.le_refl _) (.cells Q05 25)).alloc (by simp) Q0f
 have z0 : w.heap.size + 1 < ((Q3a).alloc Q0f).heap.size := by simp
 simp only [World.size_alloc] at X0
 go_enter Tryz.func54, Tryz.ntmps54
 go_wp2_with (refine wpList_load_mid rfl 32 (.tmp 3) rfl (w.heap.size + 1) 0 rfl (hdC h) _ ?hc Tryz.underlying32 rfl (qz1 h) ?_)
 case hc => exact X0
 change Calls Tryz.prog _ _ ((Q3a).alloc Q0f) _
 generalize hw0 : (Q3a).alloc Q0f = w0 at *
 clear hw0
 refine (qz8g h _).mono ?_
 rintro e w1 ⟨rfl, b0⟩
 have P1 := P0.below b0 (by omega)
 have K1 := K0.trans (b0.mono (by omega))
 have z1 := Nat.lt_of_lt_of_le z0 b0.size
 clear P0 X0 K0 z0 b0
 have FA := qz8 w1 Q00 98 22 (by decide)
 have hset : (w1.alloc (.cells Q00 98)).setCells w1.heap.size 0 (grC h).toArray.toList = w1.alloc (.cells (grC h).toArray 98) := qzy w1 98 (grC h) [] Q0l rfl
 have X1 := qz6 w1 (grC h) 98
 have P2 := P1.below ((Below.refl _ _).alloc (Nat.le_refl _) (.cells (grC h).toArray 98)) (by omega)
 have K2 := K1.alloc (by omega) (.cells (grC h).toArray 98)
 have z2 : w1.heap.size < (w1.alloc (.cells (grC h).toArray 98)).heap.size := by simp
 obtain ⟨p0, p1, p2, p3⟩ := id P2
 go_wp2_with (refine wpList_store_mid rfl 98 (.tmp 5) (.tmp 7) rfl w1.heap.size 0 _ rfl rfl FA (qzbt h) (qzdz h) ?_; rw [hset])
 change Calls Tryz.prog _ _ (w1.alloc (.cells (grC h).toArray 98)) _
 generalize hw2 : w1.alloc (.cells (grC h).toArray 98) = w2 at *
 clear hw2 hset FA P1 K1
 refine (qz69 _ _ _ _ _).mono ?_
 rintro e w3 ⟨rfl, b2⟩
 have P3 := P2.below b2 (by omega)
 have X3 := qz0 X1 b2 z2
 have K3 := K2.trans (b2.mono (by omega))
 have z3 := Nat.lt_of_lt_of_le z2 b2.size
 clear P2 X1 K2 z2 b2 p0 p1 p2 p3
 cases e0 : qz3t x y z u
 ·have hv : qz3g x y z u h = false := by simp only [qz3g, e0, Bool.false_and]
  go_wp2_with fail
  go_ret
  exact ⟨by rw [hv]; rfl, K3⟩
 have hpl := (qz29 x y z u).1 e0
 have hpt := qzdm x y z u h e0
 go_wp2_with (refine qz12 ?hw0 98 (.tmp 5) rfl w1.heap.size 0 rfl (grC h) _ ?hc0 Tryz.underlying98 rfl (qz6b h) ?_)
 try (case hw0 => rfl)
 case hc0 => exact X3
 refine (qzcb h _).mono ?_
 rintro e w4 ⟨rfl, b3⟩
 have P4 := P3.below b3 (by omega)
 have X4 := qz0 X3 b3 z3
 have K4 := K3.trans (b3.mono (by omega))
 have z4 := Nat.lt_of_lt_of_le z3 b3.size
 clear P3 X3 K3 z3 b3
 cases e1 : qz4f h
 ·have hv : qz3g x y z u h = false := by rw [<- hpt]; simp only [e1, Bool.true_and, Bool.and_true, Bool.false_and, Bool.and_false]
  clear hpt
  go_wp2_with fail
  go_ret
  exact ⟨by rw [hv]; rfl, K4⟩
 go_wp2_with (refine qz12 ?hw1 98 (.tmp 5) rfl w1.heap.size 0 rfl (grC h) _ ?hc1 Tryz.underlying98 rfl (qz6b h) ?_)
 try (case hw1 => rfl)
 case hc1 => exact X4
 refine (qzav h _).mono ?_
 rintro e w5 ⟨rfl, b4⟩
 have P5 := P4.below b4 (by omega)
 have X5 := qz0 X4 b4 z4
 have K5 := K4.trans (b4.mono (by omega))
 have z5 := Nat.lt_of_lt_of_le z4 b4.size
 clear P4 X4 K4 z4 b4
 cases e2 : qz27 h
 ·have hv : qz3g x y z u h = false := by rw [<- hpt]; simp only [e1, e2, Bool.true_and, Bool.and_true, Bool.false_and, Bool.and_false]
  clear hpt
  go_wp2_with fail
  go_ret
  exact ⟨by rw [hv]; rfl, K5⟩
 go_wp2_with (refine qz12 ?hw2 98 (.tmp 5) rfl w1.heap.size 0 rfl (grC h) _ ?hc2 Tryz.underlying98 rfl (qz6b h) ?_)
 try (case hw2 => rfl)
 case hc2 => exact X5
 refine (qzdl h _).mono ?_
 rintro e w6 ⟨rfl, b5⟩
 have P6 := P5.below b5 (by omega)
 have X6 := qz0 X5 b5 z5
 have K6 := K5.trans (b5.mono (by omega))
 have z6 := Nat.lt_of_lt_of_le z5 b5.size
 clear P5 X5 K5 z5 b5
 cases e3 : qz49 h
 ·have hv : qz3g x y z u h = false := by rw [<- hpt]; simp only [e1, e2, e3, Bool.true_and, Bool.and_true, Bool.false_and, Bool.and_false]
  clear hpt
  go_wp2_with fail
  go_ret
  exact ⟨by rw [hv]; rfl, K6⟩
 have hv : qz3g x y z u h = qz36 y z h := by rw [<- hpt]; simp only [e1, e2, e3, Bool.true_and, Bool.and_true, Bool.false_and, Bool.and_false]
 clear hpt
 obtain ⟨p0, p1, p2, p3⟩ := id P6
 go_wp2_with (refine qz12 ?hw9 96 (.tmp 23) rfl w1.heap.size 0 rfl (rgC h) _ ?hc9 Tryz.underlying96 rfl (qzcz h) ?_)
 try (case hw9 => rfl)
 case hc9 => exact qzdh X6
 refine (qz8z y z h _ ⟨by omega, by omega⟩ ⟨by omega, by omega⟩).mono ?_
 rintro e w7 ⟨rfl, b6⟩
 have K7 := K6.trans (b6.mono (by omega))
 go_wp2_with fail
 go_ret
 exact ⟨by rw [hv]; rfl, K7⟩
theorem qzbd (w : World) : Calls Tryz.prog 160 #[] w fun e w' => e = .returned (.agg (hdC newH).toArray) /\ Below w.heap.size w w' := by
 have F0 := qz8 w Q00 32 22 (by decide)
 go_enter Tryz.func160, Tryz.ntmps160
 go_wp2_with (refine wpList_store_mid rfl 32 (.tmp 0) (.tmp 1) rfl w.heap.size 0 _ rfl rfl ?ht ?hi ?h1 ?_)
 case ht => exact F0
 case hi => exact qz7 newH
 case h1 => exact qzb newH
 refine bodyPost_ret (v := .agg (hdC newH).toArray) ?_ rfl ⟨rfl, ?_⟩
 ·exact qz3 Tryz.results160 _ _ w.heap.size 0 rfl (hdC newH) _ (World.rangeAt_setCells_same _ _ _ _ F0) Tryz.underlying32 rfl (qz1 newH)
 ·exact Below.setCells (Nat.le_refl _) _ _ _ ((Below.refl _ _).alloc (Nat.le_refl _) _)
theorem qz20 (h : Hd) (rp ot sm : Int) (w : World) :
  Calls Tryz.prog 137 #[.agg (hdC h).toArray, .int .i64 rp, .int .i64 ot, .int .i64 sm] w fun e w' => e = .returned (.agg (hdC (qz9 h rp ot sm)).toArray) /\ Below w.heap.size w w' := by
 show Calls Tryz.prog 137 #[.agg Q07, .int .i64 rp, .int .i64 ot, .int .i64 sm] w fun e w' => e = .returned (.agg (hdC (qz9 h rp ot sm)).toArray) /\ Below w.heap.size w w'
 have X0 := World.rangeAt_alloc (qz6 w (hdC h) 32) (.cells Q00 32)
 have F0 := qz8 (w.alloc Q0f) Q00 32 22 (by decide)
 have K0 := ((Below.refl w.heap.size w).alloc (Nat.le_refl _) Q0f).alloc (by simp) (.cells Q00 32)
 have hz0 : w.heap.size + 1 < ((w.alloc Q0f).alloc (.cells Q00 32)).heap.size := by simp
 simp only [World.size_alloc] at F0
 go_enter Tryz.func137, Tryz.ntmps137
 go_wp2_with fail
 change Calls Tryz.prog _ _ ((w.alloc Q0f).alloc (.cells Q00 32)) _
 generalize hw0 : (w.alloc Q0f).alloc (.cells Q00 32) = w0 at *
 clear hw0
 refine (qzbd _).mono ?_
 rintro e w1 ⟨rfl, b1⟩
 have q9 : w1.cell? ⟨w.heap.size, 9, none⟩ = some (.int .i64 h.held) := (b1.cell (p := ⟨w.heap.size, 9, none⟩) (by show w.heap.size < w0.heap.size; omega)).trans (by have := X0 9 (.int .i64 h.held) rfl; simpa using this)
 have F1 := qz2 F0 b1 hz0
 have K1 := K0.trans (b1.mono (by omega))
 have hz1 := Nat.lt_of_lt_of_le hz0 b1.size
 have qa : ∀ o : Obj, (w1.alloc o).cell? ⟨w.heap.size, 9, none⟩ = some (.int .i64 h.held) := fun o => (World.cell?_alloc_lt _ _ _ (by show w.heap.size < w1.heap.size; omega)).trans q9
 clear X0 F0 K0 b1 hz0 q9
 have hset : (w1.alloc (.cells Q00 32)).setCells w1.heap.size 0 (hdC newH).toArray.toList = w1.alloc (.cells #[.int .i64 0, .int .i64 0, .int .i64 0, .int .i64 (-1), .int .i64 0, .int .i64 0, .int .i64 0, .int .i64 0, .int .i64 0, .int .i64 (-1), .int .i64 0, .int .i64 0, .int .i64 0, .int .i64 0, .int .i64 0, .int .i64 0, .int .i64 (-1), .int .i64 0, .int .i64 (-1), .int .i64 0, .int .i64 0, .int .i64 0] 32) := qzy w1 32 (hdC newH) [] Q0l rfl
 have FA := qz8 w1 Q00 32 22 (by decide)
 have K2 := K1.alloc (by omega) (.cells (hdC (qz9 h rp ot sm)).toArray 32)
 have R2 := qz6 w1 (hdC (qz9 h rp ot sm)) 32
 have F2 := World.there_alloc F1 (.cells (hdC (qz9 h rp ot sm)).toArray 32)
 go_wp2_with (first | (refine wpList_store_mid rfl 32 (.tmp 9) (.tmp 10) rfl w1.heap.size 0 _ rfl rfl FA (qz7 newH) (qzb newH) ?_; rw [hset]) | (refine wpList_load_mid rfl 32 (.tmp 9) rfl w1.heap.size 0 rfl (hdC (qz9 h rp ot sm)) _ ?hc Tryz.underlying32 rfl (qz1 _) ?_) | (refine wpList_store_mid rfl 32 (.tmp 8) _ rfl (w.heap.size + 1) 0 _ rfl rfl ?ht ?hi ?h1 ?_))
 case hc => exact R2
 case ht => exact F2
 case hi => exact qz7 _
 case h1 => exact qzb _
 refine bodyPost_ret (v := .agg (hdC (qz9 h rp ot sm)).toArray) ?_ rfl ⟨rfl, ?_⟩
 ·exact qz3 Tryz.results137 _ _ (w.heap.size + 1) 0 rfl (hdC (qz9 h rp ot sm)) _ (World.rangeAt_setCells_same _ _ _ _ F2) Tryz.underlying32 rfl (qz1 _)
 ·exact Below.setCells (by omega) _ _ _ K2
end
section
attribute [local go_sem ↓] Go.wp_at_zero Go.wp_at_succ
theorem qz4h {B : Nat} {a w : World} (h : Below B a w) (n : Nat) : Below B a (w.drewN n) := ⟨h.os, h.tape, h.output, h.size, h.block⟩
end
end Go.Proofs.YtclkglkhhnapiaaGreat
