/-
  What the law's proof goes by, part 44.
-/
import Derived.Test.YthjkdnlmopafkaaGreatFnSealed00
import Derived.Test.YthjkdnlmopafkaaGreatFnSealed06
namespace Go.Proofs.YthjkdnlmopafkaaGreat
open Go.ChangeShapes Go.WideShapes Go.ChangeAt Go.RowKit
set_option maxRecDepth 100000
set_option maxHeartbeats 16000000
set_option linter.unusedVariables false
set_option linter.unusedSimpArgs false
set_option linter.unnecessarySimpa false
set_option linter.unusedSectionVars false
section
attribute [local go_sem ↓] Go.wp_at_zero Go.wp_at_succ
def grC (h : Hd) : List Value := [.int .i64 h.x_, .int .i64 h.ver, .int .i64 h.cam, .int .i64 h.camAt, .int .i64 h.pred, .int .i64 h.predVer, .int .i64 h.curr, .int .i64 h.currVer, .int .i64 h.new_, .int .i64 h.least, .int .i64 h.index, .int .i64 h.round, .int .i64 h.at_, .int .i64 h.then_, .int .i64 h.code, .int .i64 h.key, .int .i64 h.value, .int .i64 h.begin, .int .i64 h.reply, .int .i64 h.out, .int .i64 h.sum, .int .i64 h.held]
def rgC (h : Hd) : List Value := [.int .i64 h.x_, .int .i64 h.ver, .int .i64 h.cam, .int .i64 h.camAt, .int .i64 h.pred, .int .i64 h.predVer, .int .i64 h.curr, .int .i64 h.currVer, .int .i64 h.new_, .int .i64 h.least, .int .i64 h.index, .int .i64 h.round]
theorem qzdf (h : Hd) : (Tryz.prog.info? 113).map (fun i => i.size) = some (grC h).toArray.size := by
 show _ = some 22
 kernel_rfl
theorem qz6w (h : Hd) : (Tryz.prog.info? 113).map (fun i => i.size) = some (grC h).length := by
 show _ = some 22
 kernel_rfl
theorem qzfe (h : Hd) : (grC h).toArray.all (·.oneCell') = true := by simp [grC, Value.oneCell']
theorem qzei (h : Hd) : (Tryz.prog.info? 111).map (fun i => i.size) = some (rgC h).length := by
 show _ = some 12
 kernel_rfl
theorem qzeg {w : World} {b : Nat} {h : Hd} (X : w.rangeAt b 0 (grC h)) : w.rangeAt b 0 (rgC h) := by
 intro j v hv
 refine X j v ?_
 have hj : j < (rgC h).length := (List.getElem?_eq_some_iff.1 hv).1
 have e : grC h = rgC h ++ [.int .i64 h.at_, .int .i64 h.then_, .int .i64 h.code, .int .i64 h.key, .int .i64 h.value, .int .i64 h.begin, .int .i64 h.reply, .int .i64 h.out, .int .i64 h.sum, .int .i64 h.held] := rfl
 rw [e, List.getElem?_append_left hj]
 exact hv
theorem qz34 (n : Int) (w : World) : Calls Tryz.prog 59 #[.int .i64 n] w fun e w' => e = .returned (.bool (inB n 0 20000)) /\ w' = w := by
 go_enter Tryz.func59, Tryz.ntmps59
 go_wp2_with (go_at_call 105; refine (qzl _ _ _ _).mono ?_; rintro e w' ⟨rfl, rfl⟩)
 go_ret
 exact ⟨rfl, rfl⟩
theorem qz3n (n : Int) (w : World) : Calls Tryz.prog 145 #[.int .i64 n] w fun e w' => e = .returned (.bool (inB n 0 100)) /\ w' = w := by
 go_enter Tryz.func145, Tryz.ntmps145
 go_wp2_with (go_at_call 105; refine (qzl _ _ _ _).mono ?_; rintro e w' ⟨rfl, rfl⟩)
 go_ret
 exact ⟨rfl, rfl⟩
def qz4v (h : Hd) : Bool := inB h.at_ 0 23 && inB h.then_ 0 7 && inB h.code 0 8 && inB h.reply 0 7
theorem qzdy (h : Hd) (w : World) : Calls Tryz.prog 110 #[.agg (grC h).toArray] w fun e w' => e = .returned (.bool (qz4v h)) /\ Below Q7b w w' := by
 show Calls Tryz.prog 110 #[.agg Q11] w fun e w' => e = .returned (.bool (qz4v h)) /\ Below Q7b w w'
 have KK := (Q7g Q7b w).alloc (Q7l _) (.cells Q11 113)
 cases e0 : inB h.at_ 0 23
 ·have hv : qz4v h = false := by simp only [qz4v, e0, Bool.true_and, Bool.and_true, Bool.false_and, Bool.and_false, Bool.true_or, Bool.or_true, Bool.or_false, Bool.false_or]
  go_enter Tryz.func110, Tryz.ntmps110
  go_wp2_with (go_at_call 105; refine (qzl _ _ _ _).mono ?_; rintro e w' ⟨rfl, hw⟩; obtain rfl := hw.symm)
  go_ret
  exact ⟨by rw [hv]; rfl, KK⟩
 cases e1 : inB h.then_ 0 7
 ·have hv : qz4v h = false := by simp only [qz4v, e0, e1, Bool.true_and, Bool.and_true, Bool.false_and, Bool.and_false, Bool.true_or, Bool.or_true, Bool.or_false, Bool.false_or]
  go_enter Tryz.func110, Tryz.ntmps110
  go_wp2_with (go_at_call 105; refine (qzl _ _ _ _).mono ?_; rintro e w' ⟨rfl, hw⟩; obtain rfl := hw.symm)
  go_ret
  exact ⟨by rw [hv]; rfl, KK⟩
 cases e2 : inB h.code 0 8
 ·have hv : qz4v h = false := by simp only [qz4v, e0, e1, e2, Bool.true_and, Bool.and_true, Bool.false_and, Bool.and_false, Bool.true_or, Bool.or_true, Bool.or_false, Bool.false_or]
  go_enter Tryz.func110, Tryz.ntmps110
  go_wp2_with (go_at_call 105; refine (qzl _ _ _ _).mono ?_; rintro e w' ⟨rfl, hw⟩; obtain rfl := hw.symm)
  go_ret
  exact ⟨by rw [hv]; rfl, KK⟩
 have hv : qz4v h = inB h.reply 0 7 := by simp only [qz4v, e0, e1, e2, Bool.true_and, Bool.and_true, Bool.false_and, Bool.and_false, Bool.true_or, Bool.or_true, Bool.or_false, Bool.false_or]
 go_enter Tryz.func110, Tryz.ntmps110
 go_wp2_with (go_at_call 105; refine (qzl _ _ _ _).mono ?_; rintro e w' ⟨rfl, hw⟩; obtain rfl := hw.symm)
 go_ret
 exact ⟨by rw [hv]; rfl, KK⟩
def qz2f (h : Hd) : Bool := (inB h.key 0 63 || h.key == -1) && inB h.value 0 9999 && inB h.out 0 1000000 && inB h.sum 0 1000000 && inB h.index 0 60
theorem qzc5 (h : Hd) (w : World) : Calls Tryz.prog 111 #[.agg (grC h).toArray] w fun e w' => e = .returned (.bool (qz2f h)) /\ Below Q7b w w' := by
 show Calls Tryz.prog 111 #[.agg Q11] w fun e w' => e = .returned (.bool (qz2f h)) /\ Below Q7b w w'
 have KK := (Q7g Q7b w).alloc (Q7l _) (.cells Q11 113)
 cases e0 : inB h.key 0 63
 ·by_cases k0 : h.key = -1
  ·have b0 : (h.key == -1) = true := by rw [k0]; rfl
   cases e1 : inB h.value 0 9999
   ·have hv : qz2f h = false := by simp only [qz2f, e0, b0, e1, Bool.true_and, Bool.and_true, Bool.false_and, Bool.and_false, Bool.true_or, Bool.or_true, Bool.or_false, Bool.false_or]
    go_enter Tryz.func111, Tryz.ntmps111
    go_wp2_with (first | (go_at_call 105; refine (qzl _ _ _ _).mono ?_; rintro e w' ⟨rfl, hw⟩; obtain rfl := hw.symm) | (go_at_call 144; refine (qz3s _ _).mono ?_; rintro e w' ⟨rfl, hw⟩; obtain rfl := hw.symm))
    go_ret
    exact ⟨by rw [hv]; rfl, by rw [k0] at KK; exact KK⟩
   cases e2 : inB h.out 0 1000000
   ·have hv : qz2f h = false := by simp only [qz2f, e0, b0, e1, e2, Bool.true_and, Bool.and_true, Bool.false_and, Bool.and_false, Bool.true_or, Bool.or_true, Bool.or_false, Bool.false_or]
    go_enter Tryz.func111, Tryz.ntmps111
    go_wp2_with (first | (go_at_call 105; refine (qzl _ _ _ _).mono ?_; rintro e w' ⟨rfl, hw⟩; obtain rfl := hw.symm) | (go_at_call 144; refine (qz3s _ _).mono ?_; rintro e w' ⟨rfl, hw⟩; obtain rfl := hw.symm))
    go_ret
    exact ⟨by rw [hv]; rfl, by rw [k0] at KK; exact KK⟩
   cases e3 : inB h.sum 0 1000000
   ·have hv : qz2f h = false := by simp only [qz2f, e0, b0, e1, e2, e3, Bool.true_and, Bool.and_true, Bool.false_and, Bool.and_false, Bool.true_or, Bool.or_true, Bool.or_false, Bool.false_or]
    go_enter Tryz.func111, Tryz.ntmps111
    go_wp2_with (first | (go_at_call 105; refine (qzl _ _ _ _).mono ?_; rintro e w' ⟨rfl, hw⟩; obtain rfl := hw.symm) | (go_at_call 144; refine (qz3s _ _).mono ?_; rintro e w' ⟨rfl, hw⟩; obtain rfl := hw.symm))
    go_ret
    exact ⟨by rw [hv]; rfl, by rw [k0] at KK; exact KK⟩
   have hv : qz2f h = inB h.index 0 60 := by simp only [qz2f, e0, b0, e1, e2, e3, Bool.true_and, Bool.and_true, Bool.false_and, Bool.and_false, Bool.true_or, Bool.or_true, Bool.or_false, Bool.false_or]
   go_enter Tryz.func111, Tryz.ntmps111
   go_wp2_with (first | (go_at_call 105; refine (qzl _ _ _ _).mono ?_; rintro e w' ⟨rfl, hw⟩; obtain rfl := hw.symm) | (go_at_call 144; refine (qz3s _ _).mono ?_; rintro e w' ⟨rfl, hw⟩; obtain rfl := hw.symm))
   go_ret
   exact ⟨by rw [hv]; rfl, by rw [k0] at KK; exact KK⟩
  ·have b0 : (h.key == -1) = false := by simpa using k0
   have hv : qz2f h = false := by simp only [qz2f, e0, b0, Bool.true_and, Bool.and_true, Bool.false_and, Bool.and_false, Bool.true_or, Bool.or_true, Bool.or_false, Bool.false_or]
   go_enter Tryz.func111, Tryz.ntmps111
   go_wp2_with (first | (go_at_call 105; refine (qzl _ _ _ _).mono ?_; rintro e w' ⟨rfl, hw⟩; obtain rfl := hw.symm) | (go_at_call 144; refine (qz3s _ _).mono ?_; rintro e w' ⟨rfl, hw⟩; obtain rfl := hw.symm))
   go_ret
   exact ⟨by rw [hv]; rfl, KK⟩
 cases e1 : inB h.value 0 9999
 ·have hv : qz2f h = false := by simp only [qz2f, e0, e1, Bool.true_and, Bool.and_true, Bool.false_and, Bool.and_false, Bool.true_or, Bool.or_true, Bool.or_false, Bool.false_or]
  go_enter Tryz.func111, Tryz.ntmps111
  go_wp2_with (first | (go_at_call 105; refine (qzl _ _ _ _).mono ?_; rintro e w' ⟨rfl, hw⟩; obtain rfl := hw.symm) | (go_at_call 144; refine (qz3s _ _).mono ?_; rintro e w' ⟨rfl, hw⟩; obtain rfl := hw.symm))
  go_ret
  exact ⟨by rw [hv]; rfl, KK⟩
 cases e2 : inB h.out 0 1000000
 ·have hv : qz2f h = false := by simp only [qz2f, e0, e1, e2, Bool.true_and, Bool.and_true, Bool.false_and, Bool.and_false, Bool.true_or, Bool.or_true, Bool.or_false, Bool.false_or]
  go_enter Tryz.func111, Tryz.ntmps111
  go_wp2_with (first | (go_at_call 105; refine (qzl _ _ _ _).mono ?_; rintro e w' ⟨rfl, hw⟩; obtain rfl := hw.symm) | (go_at_call 144; refine (qz3s _ _).mono ?_; rintro e w' ⟨rfl, hw⟩; obtain rfl := hw.symm))
  go_ret
  exact ⟨by rw [hv]; rfl, KK⟩
 cases e3 : inB h.sum 0 1000000
 ·have hv : qz2f h = false := by simp only [qz2f, e0, e1, e2, e3, Bool.true_and, Bool.and_true, Bool.false_and, Bool.and_false, Bool.true_or, Bool.or_true, Bool.or_false, Bool.false_or]
  go_enter Tryz.func111, Tryz.ntmps111
  go_wp2_with (first | (go_at_call 105; refine (qzl _ _ _ _).mono ?_; rintro e w' ⟨rfl, hw⟩; obtain rfl := hw.symm) | (go_at_call 144; refine (qz3s _ _).mono ?_; rintro e w' ⟨rfl, hw⟩; obtain rfl := hw.symm))
  go_ret
  exact ⟨by rw [hv]; rfl, KK⟩
 have hv : qz2f h = inB h.index 0 60 := by simp only [qz2f, e0, e1, e2, e3, Bool.true_and, Bool.and_true, Bool.false_and, Bool.and_false, Bool.true_or, Bool.or_true, Bool.or_false, Bool.false_or]
 go_enter Tryz.func111, Tryz.ntmps111
 go_wp2_with (first | (go_at_call 105; refine (qzl _ _ _ _).mono ?_; rintro e w' ⟨rfl, hw⟩; obtain rfl := hw.symm) | (go_at_call 144; refine (qz3s _ _).mono ?_; rintro e w' ⟨rfl, hw⟩; obtain rfl := hw.symm))
 go_ret
 exact ⟨by rw [hv]; rfl, KK⟩
def qz4l (h : Hd) : Bool := inB h.begin 0 20000 && inB h.camAt 0 20000 && inB h.round 0 20000 && (inB h.held 0 100 || h.held == -1) && inB h.cam 0 100 && inB h.least 0 100
theorem qzeo (h : Hd) (w : World) : Calls Tryz.prog 112 #[.agg (grC h).toArray] w fun e w' => e = .returned (.bool (qz4l h)) /\ Below Q7b w w' := by
 show Calls Tryz.prog 112 #[.agg Q11] w fun e w' => e = .returned (.bool (qz4l h)) /\ Below Q7b w w'
 have KK := (Q7g Q7b w).alloc (Q7l _) (.cells Q11 113)
 cases e0 : inB h.begin 0 20000
 ·have hv : qz4l h = false := by simp only [qz4l, e0, Bool.true_and, Bool.and_true, Bool.false_and, Bool.and_false, Bool.true_or, Bool.or_true, Bool.or_false, Bool.false_or]
  go_enter Tryz.func112, Tryz.ntmps112
  go_wp2_with (first | (go_at_call 59; refine (qz34 _ _).mono ?_; rintro e w' ⟨rfl, hw⟩; obtain rfl := hw.symm) | (go_at_call 145; refine (qz3n _ _).mono ?_; rintro e w' ⟨rfl, hw⟩; obtain rfl := hw.symm))
  go_ret
  exact ⟨by rw [hv]; rfl, KK⟩
 cases e1 : inB h.camAt 0 20000
 ·have hv : qz4l h = false := by simp only [qz4l, e0, e1, Bool.true_and, Bool.and_true, Bool.false_and, Bool.and_false, Bool.true_or, Bool.or_true, Bool.or_false, Bool.false_or]
  go_enter Tryz.func112, Tryz.ntmps112
  go_wp2_with (first | (go_at_call 59; refine (qz34 _ _).mono ?_; rintro e w' ⟨rfl, hw⟩; obtain rfl := hw.symm) | (go_at_call 145; refine (qz3n _ _).mono ?_; rintro e w' ⟨rfl, hw⟩; obtain rfl := hw.symm))
  go_ret
  exact ⟨by rw [hv]; rfl, KK⟩
 cases e2 : inB h.round 0 20000
 ·have hv : qz4l h = false := by simp only [qz4l, e0, e1, e2, Bool.true_and, Bool.and_true, Bool.false_and, Bool.and_false, Bool.true_or, Bool.or_true, Bool.or_false, Bool.false_or]
  go_enter Tryz.func112, Tryz.ntmps112
  go_wp2_with (first | (go_at_call 59; refine (qz34 _ _).mono ?_; rintro e w' ⟨rfl, hw⟩; obtain rfl := hw.symm) | (go_at_call 145; refine (qz3n _ _).mono ?_; rintro e w' ⟨rfl, hw⟩; obtain rfl := hw.symm))
  go_ret
  exact ⟨by rw [hv]; rfl, KK⟩
 cases e3 : inB h.held 0 100
 ·by_cases k3 : h.held = -1
  ·have b3 : (h.held == -1) = true := by rw [k3]; rfl
   cases e4 : inB h.cam 0 100
   ·have hv : qz4l h = false := by simp only [qz4l, e0, e1, e2, e3, b3, e4, Bool.true_and, Bool.and_true, Bool.false_and, Bool.and_false, Bool.true_or, Bool.or_true, Bool.or_false, Bool.false_or]
    go_enter Tryz.func112, Tryz.ntmps112
    go_wp2_with (first | (go_at_call 59; refine (qz34 _ _).mono ?_; rintro e w' ⟨rfl, hw⟩; obtain rfl := hw.symm) | (go_at_call 145; refine (qz3n _ _).mono ?_; rintro e w' ⟨rfl, hw⟩; obtain rfl := hw.symm))
    go_ret
    exact ⟨by rw [hv]; rfl, by rw [k3] at KK; exact KK⟩
   have hv : qz4l h = inB h.least 0 100 := by simp only [qz4l, e0, e1, e2, e3, b3, e4, Bool.true_and, Bool.and_true, Bool.false_and, Bool.and_false, Bool.true_or, Bool.or_true, Bool.or_false, Bool.false_or]
   go_enter Tryz.func112, Tryz.ntmps112
   go_wp2_with (first | (go_at_call 59; refine (qz34 _ _).mono ?_; rintro e w' ⟨rfl, hw⟩; obtain rfl := hw.symm) | (go_at_call 145; refine (qz3n _ _).mono ?_; rintro e w' ⟨rfl, hw⟩; obtain rfl := hw.symm))
   go_ret
   exact ⟨by rw [hv]; rfl, by rw [k3] at KK; exact KK⟩
  ·have b3 : (h.held == -1) = false := by simpa using k3
   have hv : qz4l h = false := by simp only [qz4l, e0, e1, e2, e3, b3, Bool.true_and, Bool.and_true, Bool.false_and, Bool.and_false, Bool.true_or, Bool.or_true, Bool.or_false, Bool.false_or]
   go_enter Tryz.func112, Tryz.ntmps112
   go_wp2_with (first | (go_at_call 59; refine (qz34 _ _).mono ?_; rintro e w' ⟨rfl, hw⟩; obtain rfl := hw.symm) | (go_at_call 145; refine (qz3n _ _).mono ?_; rintro e w' ⟨rfl, hw⟩; obtain rfl := hw.symm))
   go_ret
   exact ⟨by rw [hv]; rfl, KK⟩
 cases e4 : inB h.cam 0 100
 ·have hv : qz4l h = false := by simp only [qz4l, e0, e1, e2, e3, e4, Bool.true_and, Bool.and_true, Bool.false_and, Bool.and_false, Bool.true_or, Bool.or_true, Bool.or_false, Bool.false_or]
  go_enter Tryz.func112, Tryz.ntmps112
  go_wp2_with (first | (go_at_call 59; refine (qz34 _ _).mono ?_; rintro e w' ⟨rfl, hw⟩; obtain rfl := hw.symm) | (go_at_call 145; refine (qz3n _ _).mono ?_; rintro e w' ⟨rfl, hw⟩; obtain rfl := hw.symm))
  go_ret
  exact ⟨by rw [hv]; rfl, KK⟩
 have hv : qz4l h = inB h.least 0 100 := by simp only [qz4l, e0, e1, e2, e3, e4, Bool.true_and, Bool.and_true, Bool.false_and, Bool.and_false, Bool.true_or, Bool.or_true, Bool.or_false, Bool.false_or]
 go_enter Tryz.func112, Tryz.ntmps112
 go_wp2_with (first | (go_at_call 59; refine (qz34 _ _).mono ?_; rintro e w' ⟨rfl, hw⟩; obtain rfl := hw.symm) | (go_at_call 145; refine (qz3n _ _).mono ?_; rintro e w' ⟨rfl, hw⟩; obtain rfl := hw.symm))
 go_ret
 exact ⟨by rw [hv]; rfl, KK⟩
def qz3b (y z : Int) (h : Hd) : Bool := inB h.x_ 0 (y - 1) && inB h.pred 0 (y - 1) && inB h.curr (-1) (y - 1) && inB h.new_ (-1) (y - 1) && inB h.ver 0 (z - 1) && inB h.predVer 0 (z - 1) && inB h.currVer 0 (z - 1)
theorem qz9l (y z : Int) (h : Hd) (w : World) (hy : 0 <= y /\ y <= 1048576) (hz : 0 <= z /\ z <= 1048576) : Calls Tryz.prog 61 #[.agg (rgC h).toArray, .int .i64 y, .int .i64 z] w fun e w' => e = .returned (.bool (qz3b y z h)) /\ Below Q7b w w' := by
 show Calls Tryz.prog 61 #[.agg Q4x, .int .i64 y, .int .i64 z] w fun e w' => e = .returned (.bool (qz3b y z h)) /\ Below Q7b w w'
 have KK := (Q7g Q7b w).alloc (Q7l _) (.cells Q4x 111)
 cases e0 : inB h.x_ 0 (y - 1)
 ·have hv : qz3b y z h = false := by simp only [qz3b, e0, Bool.true_and, Bool.and_true, Bool.false_and, Bool.and_false, Bool.true_or, Bool.or_true, Bool.or_false, Bool.false_or]
  go_enter Tryz.func61, Tryz.ntmps61
  go_wp2_with (go_at_call 105; refine (qzl _ _ _ _).mono ?_; rintro e w' ⟨rfl, hw⟩; obtain rfl := hw.symm)
  go_ret
  exact ⟨by rw [hv]; rfl, KK⟩
 cases e1 : inB h.pred 0 (y - 1)
 ·have hv : qz3b y z h = false := by simp only [qz3b, e0, e1, Bool.true_and, Bool.and_true, Bool.false_and, Bool.and_false, Bool.true_or, Bool.or_true, Bool.or_false, Bool.false_or]
  go_enter Tryz.func61, Tryz.ntmps61
  go_wp2_with (go_at_call 105; refine (qzl _ _ _ _).mono ?_; rintro e w' ⟨rfl, hw⟩; obtain rfl := hw.symm)
  go_ret
  exact ⟨by rw [hv]; rfl, KK⟩
 cases e2 : inB h.curr (-1) (y - 1)
 ·have hv : qz3b y z h = false := by simp only [qz3b, e0, e1, e2, Bool.true_and, Bool.and_true, Bool.false_and, Bool.and_false, Bool.true_or, Bool.or_true, Bool.or_false, Bool.false_or]
  go_enter Tryz.func61, Tryz.ntmps61
  go_wp2_with (go_at_call 105; refine (qzl _ _ _ _).mono ?_; rintro e w' ⟨rfl, hw⟩; obtain rfl := hw.symm)
  go_ret
  exact ⟨by rw [hv]; rfl, KK⟩
 cases e3 : inB h.new_ (-1) (y - 1)
 ·have hv : qz3b y z h = false := by simp only [qz3b, e0, e1, e2, e3, Bool.true_and, Bool.and_true, Bool.false_and, Bool.and_false, Bool.true_or, Bool.or_true, Bool.or_false, Bool.false_or]
  go_enter Tryz.func61, Tryz.ntmps61
  go_wp2_with (go_at_call 105; refine (qzl _ _ _ _).mono ?_; rintro e w' ⟨rfl, hw⟩; obtain rfl := hw.symm)
  go_ret
  exact ⟨by rw [hv]; rfl, KK⟩
 cases e4 : inB h.ver 0 (z - 1)
 ·have hv : qz3b y z h = false := by simp only [qz3b, e0, e1, e2, e3, e4, Bool.true_and, Bool.and_true, Bool.false_and, Bool.and_false, Bool.true_or, Bool.or_true, Bool.or_false, Bool.false_or]
  go_enter Tryz.func61, Tryz.ntmps61
  go_wp2_with (go_at_call 105; refine (qzl _ _ _ _).mono ?_; rintro e w' ⟨rfl, hw⟩; obtain rfl := hw.symm)
  go_ret
  exact ⟨by rw [hv]; rfl, KK⟩
 cases e5 : inB h.predVer 0 (z - 1)
 ·have hv : qz3b y z h = false := by simp only [qz3b, e0, e1, e2, e3, e4, e5, Bool.true_and, Bool.and_true, Bool.false_and, Bool.and_false, Bool.true_or, Bool.or_true, Bool.or_false, Bool.false_or]
  go_enter Tryz.func61, Tryz.ntmps61
  go_wp2_with (go_at_call 105; refine (qzl _ _ _ _).mono ?_; rintro e w' ⟨rfl, hw⟩; obtain rfl := hw.symm)
  go_ret
  exact ⟨by rw [hv]; rfl, KK⟩
 have hv : qz3b y z h = inB h.currVer 0 (z - 1) := by simp only [qz3b, e0, e1, e2, e3, e4, e5, Bool.true_and, Bool.and_true, Bool.false_and, Bool.and_false, Bool.true_or, Bool.or_true, Bool.or_false, Bool.false_or]
 go_enter Tryz.func61, Tryz.ntmps61
 go_wp2_with (go_at_call 105; refine (qzl _ _ _ _).mono ?_; rintro e w' ⟨rfl, hw⟩; obtain rfl := hw.symm)
 go_ret
 exact ⟨by rw [hv]; rfl, KK⟩
theorem qza9 (h : Hd) (w : World) : Calls Tryz.prog 60 #[.agg (hdC h).toArray] w fun e w' => e = .returned (.agg (grC h).toArray) /\ Below Q7b w w' := by
 show Calls Tryz.prog 60 #[.agg Q07] w fun e w' => e = .returned (.agg (grC h).toArray) /\ Below Q7b w w'
 go_enter Tryz.func60, Tryz.ntmps60
 have F0 := qza (w.alloc (.cells Q07 53)) Q00 113 22 (by decide)
 have K0 := ((Q7g Q7b w).alloc (Q7l _) (.cells Q07 53)).alloc (by simp) (.cells Q00 113)
 simp only [World.size_alloc] at F0
 go_wp2_with (refine Q7e rfl 113 (.tmp 2) (.tmp 48) rfl (Q7b + 1) 0 _ rfl rfl ?ht ?hi ?h1 ?_)
 case ht => exact F0
 case hi => exact qzdf h
 case h1 => exact qzfe h
 refine bodyPost_ret (v := .agg (grC h).toArray) ?_ rfl ⟨rfl, ?_⟩
 ·exact qz3 Tryz.results60 _ _ (Q7b + 1) 0 rfl (grC h) _ (Q7c _ _ _ _ F0) Tryz.underlying113 rfl (qz6w h)
 ·exact Below.setCells (by omega) _ _ _ K0
theorem qzh2 (n hi : Int) (hh : 0 <= hi) : (inB n 0 hi || n == -1) = inB n (-1) hi := by
 cases e : inB n (-1) hi
 ·have h1 : ¬ (-1 <= n /\ n <= hi) := fun h => by rw [qz7o h.1 h.2] at e; exact absurd e (by decide)
  rw [qzch (by omega), Bool.false_or]
  exact beq_eq_false_iff_ne.2 (by omega)
 ·obtain ⟨h1, h2⟩ := (qz18 _ _ _).1 e
  by_cases h3 : n = -1
  ·subst h3
   simp
  ·rw [qz7o (by omega) h2, Bool.true_or]
theorem qzea (x y z u : Int) (h : Hd) (hp : qz42 x y z u = true) : (qz4v h && qz2f h && qz4l h && qz3b y z h) = qz3m x y z u h := by
 have hpl := (qz2h x y z u).1 hp
 unfold qz4v qz2f qz4l qz3b qz3m qz4o qz4p
 rw [hp, qzh2 _ 63 (by decide), qzh2 _ 100 (by decide), Bool.true_and]
 generalize inB h.x_ 0 (y - 1) = a0
 generalize inB h.pred 0 (y - 1) = a1
 generalize inB h.curr (-1) (y - 1) = a2
 generalize inB h.new_ (-1) (y - 1) = a3
 generalize inB h.ver 0 (z - 1) = a4
 generalize inB h.predVer 0 (z - 1) = a5
 generalize inB h.currVer 0 (z - 1) = a6
 simp only [Bool.and_assoc, Bool.and_comm, Bool.and_left_comm]
theorem qze4 (x y z u : Int) (h : Hd) (w : World) :
  Calls Tryz.prog 57 Q6r w fun e w' => e = .returned (.bool (qz3m x y z u h)) /\ Below Q7b w w' := by
 have P0 := (qz1w w x y z u 28).below ((Q7g _ _).alloc (Q7l _) Q0d) (by simp)
 have X0 := qz6 Q4y (hdC h) 53
 have K0 := ((Q7g Q7b w).alloc (Q7l _) (.cells Q06 28)).alloc (by simp) Q0d
 have z0 : Q7b + 1 < (Q4v).heap.size := by simp
 simp only [World.size_alloc] at X0
 go_enter Tryz.func57, Tryz.ntmps57
 go_wp2_with (refine Q7j rfl 53 (.tmp 3) rfl (Q7b + 1) 0 rfl (hdC h) _ ?hc Q7d rfl (qz1 h) ?_)
 case hc => exact X0
 change Calls Tryz.prog _ _ Q4v _
 generalize hw0 : (Q4y).alloc Q0d = w0 at *
 clear hw0
 refine (qza9 h _).mono ?_
 rintro e w1 ⟨rfl, b0⟩
 have P1 := P0.below b0 (by omega)
 have K1 := K0.trans (b0.mono (by omega))
 have z1 := Q7o z0 b0.size
 clear P0 X0 K0 z0 b0
 have FA := qza w1 Q00 113 22 (by decide)
 have hset : (w1.alloc (.cells Q00 113)).setCells Q7k 0 (grC h).toArray.toList = w1.alloc Q6o := qz10 w1 113 (grC h) [] Q0l rfl
 have X1 := qz6 w1 (grC h) 113
 have P2 := P1.below ((Q7g _ _).alloc (Q7l _) Q6o) (by omega)
 have K2 := K1.alloc (by omega) Q6o
 have z2 : Q7k < (w1.alloc Q6o).heap.size := by simp
 obtain ⟨p0, p1, p2, p3⟩ := id P2
 go_wp2_with (refine wpList_store_mid rfl 113 (.tmp 5) (.tmp 7) rfl w1.heap.size 0 _ rfl rfl FA (qzdf h) (qzfe h) ?_; rw [hset])
 change Calls Tryz.prog _ _ (w1.alloc Q6o) _
 generalize hw2 : w1.alloc Q6o = w2 at *
 clear hw2 hset FA P1 K1
 refine (qz6v _ _ _ _ _).mono ?_
 rintro e w3 ⟨rfl, b2⟩
 have P3 := P2.below b2 (by omega)
 have X3 := qz0 X1 b2 z2
 have K3 := K2.trans (b2.mono (by omega))
 have z3 := Q7o z2 b2.size
 clear P2 X1 K2 z2 b2 p0 p1 p2 p3
 cases e0 : qz42 x y z u
 ·have hv : qz3m x y z u h = false := by simp only [qz3m, e0, Bool.false_and]
  go_wp2_with fail
  go_ret
  exact ⟨by rw [hv]; rfl, K3⟩
 have hpl := (qz2h x y z u).1 e0
 have hpt := qzea x y z u h e0
 go_wp2_with (refine qz11 ?hw0 113 (.tmp 5) rfl Q7k 0 rfl (grC h) _ ?hc0 Tryz.underlying113 rfl (qz6w h) ?_)
 try (case hw0 => rfl)
 case hc0 => exact X3
 refine (qzdy h _).mono ?_
 rintro e w4 ⟨rfl, b3⟩
 have P4 := P3.below b3 (by omega)
 have X4 := qz0 X3 b3 z3
 have K4 := K3.trans (b3.mono (by omega))
 have z4 := Q7o z3 b3.size
 clear P3 X3 K3 z3 b3
 cases e1 : qz4v h
 ·have hv : qz3m x y z u h = false := by rw [<- hpt]; simp only [e1, Bool.true_and, Bool.and_true, Bool.false_and, Bool.and_false]
  clear hpt
  go_wp2_with fail
  go_ret
  exact ⟨by rw [hv]; rfl, K4⟩
 go_wp2_with (refine qz11 ?hw1 113 (.tmp 5) rfl Q7k 0 rfl (grC h) _ ?hc1 Tryz.underlying113 rfl (qz6w h) ?_)
 try (case hw1 => rfl)
 case hc1 => exact X4
 refine (qzc5 h _).mono ?_
 rintro e w5 ⟨rfl, b4⟩
 have P5 := P4.below b4 (by omega)
 have X5 := qz0 X4 b4 z4
 have K5 := K4.trans (b4.mono (by omega))
 have z5 := Q7o z4 b4.size
 clear P4 X4 K4 z4 b4
 cases e2 : qz2f h
 ·have hv : qz3m x y z u h = false := by rw [<- hpt]; simp only [e1, e2, Bool.true_and, Bool.and_true, Bool.false_and, Bool.and_false]
  clear hpt
  go_wp2_with fail
  go_ret
  exact ⟨by rw [hv]; rfl, K5⟩
 go_wp2_with (refine qz11 ?hw2 113 (.tmp 5) rfl Q7k 0 rfl (grC h) _ ?hc2 Tryz.underlying113 rfl (qz6w h) ?_)
 try (case hw2 => rfl)
 case hc2 => exact X5
 refine (qzeo h _).mono ?_
 rintro e w6 ⟨rfl, b5⟩
 have P6 := P5.below b5 (by omega)
 have X6 := qz0 X5 b5 z5
 have K6 := K5.trans (b5.mono (by omega))
 have z6 := Q7o z5 b5.size
 clear P5 X5 K5 z5 b5
 cases e3 : qz4l h
 ·have hv : qz3m x y z u h = false := by rw [<- hpt]; simp only [e1, e2, e3, Bool.true_and, Bool.and_true, Bool.false_and, Bool.and_false]
  clear hpt
  go_wp2_with fail
  go_ret
  exact ⟨by rw [hv]; rfl, K6⟩
 have hv : qz3m x y z u h = qz3b y z h := by rw [<- hpt]; simp only [e1, e2, e3, Bool.true_and, Bool.and_true, Bool.false_and, Bool.and_false]
 clear hpt
 obtain ⟨p0, p1, p2, p3⟩ := id P6
 go_wp2_with (refine qz11 ?hw9 111 (.tmp 23) rfl Q7k 0 rfl (rgC h) _ ?hc9 Tryz.underlying111 rfl (qzei h) ?_)
 try (case hw9 => rfl)
 case hc9 => exact qzeg X6
 refine (qz9l y z h _ ⟨by omega, by omega⟩ ⟨by omega, by omega⟩).mono ?_
 rintro e w7 ⟨rfl, b6⟩
 have K7 := K6.trans (b6.mono (by omega))
 go_wp2_with fail
 go_ret
 exact ⟨by rw [hv]; rfl, K7⟩
theorem qzcv (w : World) : Calls Tryz.prog 172 #[] w fun e w' => e = .returned (.agg (hdC newH).toArray) /\ Below Q7b w w' := by
 have F0 := qza w Q00 53 22 (by decide)
 go_enter Tryz.func172, Tryz.ntmps172
 go_wp2_with (refine Q7e rfl 53 (.tmp 0) (.tmp 1) rfl Q7b 0 _ rfl rfl ?ht ?hi ?h1 ?_)
 case ht => exact F0
 case hi => exact qz7 newH
 case h1 => exact qzd newH
 refine bodyPost_ret (v := .agg (hdC newH).toArray) ?_ rfl ⟨rfl, ?_⟩
 ·exact qz3 Tryz.results172 _ _ Q7b 0 rfl (hdC newH) _ (Q7c _ _ _ _ F0) Q7d rfl (qz1 newH)
 ·exact Below.setCells (Q7l _) _ _ _ ((Q7g _ _).alloc (Q7l _) _)
theorem qz28 (h : Hd) (rp ot sm : Int) (w : World) :
  Calls Tryz.prog 161 Q6l w fun e w' => e = .returned (.agg (hdC (qz9 h rp ot sm)).toArray) /\ Below Q7b w w' := by
 show Calls Tryz.prog 161 #[.agg Q07, .int .i64 rp, .int .i64 ot, .int .i64 sm] w fun e w' => e = .returned (.agg (hdC (qz9 h rp ot sm)).toArray) /\ Below Q7b w w'
 have X0 := Q7n (qz6 w (hdC h) 53) (.cells Q00 53)
 have F0 := qza (w.alloc Q0d) Q00 53 22 (by decide)
 have K0 := ((Q7g Q7b w).alloc (Q7l _) Q0d).alloc (by simp) (.cells Q00 53)
 have hz0 : Q7b + 1 < (Q4g).heap.size := by simp
 simp only [World.size_alloc] at F0
 go_enter Tryz.func161, Tryz.ntmps161
 go_wp2_with fail
 change Calls Tryz.prog _ _ Q4g _
 generalize hw0 : (w.alloc Q0d).alloc (.cells Q00 53) = w0 at *
 clear hw0
 refine (qzcv _).mono ?_
 rintro e w1 ⟨rfl, b1⟩
 have q9 : w1.cell? ⟨Q7b, 9, none⟩ = some (.int .i64 h.held) := (b1.cell (p := ⟨Q7b, 9, none⟩) (by show Q7b < Q7r; omega)).trans (by have := X0 9 (.int .i64 h.held) rfl; simpa using this)
 have F1 := qz2 F0 b1 hz0
 have K1 := K0.trans (b1.mono (by omega))
 have hz1 := Q7o hz0 b1.size
 have qa : ∀ o : Obj, (w1.alloc o).cell? ⟨Q7b, 9, none⟩ = some (.int .i64 h.held) := fun o => (World.cell?_alloc_lt _ _ _ (by show Q7b < Q7k; omega)).trans q9
 clear X0 F0 K0 b1 hz0 q9
 have hset : (w1.alloc (.cells Q00 53)).setCells Q7k 0 (hdC newH).toArray.toList = w1.alloc Q3r := qz10 w1 53 (hdC newH) [] Q0l rfl
 have FA := qza w1 Q00 53 22 (by decide)
 have K2 := K1.alloc (by omega) Q6t
 have R2 := qz6 w1 (hdC (qz9 h rp ot sm)) 53
 have F2 := Q80 F1 Q6t
 go_wp2_with (first | (refine wpList_store_mid rfl 53 (.tmp 9) (.tmp 10) rfl w1.heap.size 0 _ rfl rfl FA (qz7 newH) (qzd newH) ?_; rw [hset]) | (refine wpList_load_mid rfl 53 (.tmp 9) rfl w1.heap.size 0 rfl (hdC (qz9 h rp ot sm)) _ ?hc Tryz.underlying53 rfl (qz1 _) ?_) | (refine wpList_store_mid rfl 53 (.tmp 8) _ rfl (w.heap.size + 1) 0 _ rfl rfl ?ht ?hi ?h1 ?_))
 case hc => exact R2
 case ht => exact F2
 case hi => exact qz7 _
 case h1 => exact qzd _
 refine bodyPost_ret (v := .agg (hdC (qz9 h rp ot sm)).toArray) ?_ rfl ⟨rfl, ?_⟩
 ·exact qz3 Tryz.results161 _ _ (Q7b + 1) 0 rfl (hdC (qz9 h rp ot sm)) _ (Q7c _ _ _ _ F2) Q7d rfl (qz1 _)
 ·exact Below.setCells (by omega) _ _ _ K2
end
end Go.Proofs.YthjkdnlmopafkaaGreat
