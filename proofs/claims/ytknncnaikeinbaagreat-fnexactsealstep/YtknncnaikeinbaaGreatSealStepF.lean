/-
  What the law's proof goes by, part 6.
-/
import Derived.Test.YtknncnaikeinbaaGreatSealStepE
namespace Go.Proofs.YtknncnaikeinbaaGreat
open Go.ChangeShapes Go.WideShapes Go.ChangeAt Go.RowKit
set_option maxRecDepth 100000
set_option maxHeartbeats 16000000
set_option linter.unusedVariables false
set_option linter.unusedSimpArgs false
set_option linter.unnecessarySimpa false
set_option linter.unusedSectionVars false
section
attribute [local go_sem ↓] Go.wp_at_zero Go.wp_at_succ
def grC (h : Hd) : List Value := [.int .i64 h.x_, .int .i64 h.ver, .int .i64 h.cam, .int .i64 h.camAt, .int .i64 h.pred, .int .i64 h.predVer, .int .i64 h.curr, .int .i64 h.currVer, .int .i64 h.new_, .int .i64 h.least, .int .i64 h.index, .int .i64 h.round, .int .i64 h.at_, .int .i64 h.then_, .int .i64 h.code, .int .i64 h.key, .int .i64 h.value, .int .i64 h.begin, .int .i64 h.reply, .int .i64 h.out, .int .i64 h.sum, .int .i64 h.held]
def rgC (h : Hd) : List Value := [.int .i64 h.x_, .int .i64 h.ver, .int .i64 h.cam, .int .i64 h.camAt, .int .i64 h.pred, .int .i64 h.predVer, .int .i64 h.curr, .int .i64 h.currVer, .int .i64 h.new_, .int .i64 h.least, .int .i64 h.index, .int .i64 h.round]
theorem qz9q (h : Hd) : (Tryz.prog.info? 93).map (fun i => i.size) = some (grC h).toArray.size := by
 show _ = some 22
 kernel_rfl
theorem qz4j (h : Hd) : (Tryz.prog.info? 93).map (fun i => i.size) = some (grC h).length := by
 show _ = some 22
 kernel_rfl
theorem qzap (h : Hd) : (grC h).toArray.all (·.oneCell') = true := by simp [grC, Value.oneCell']
theorem qza8 (h : Hd) : (Tryz.prog.info? 91).map (fun i => i.size) = some (rgC h).length := by
 show _ = some 12
 kernel_rfl
theorem qza9 {w : World} {b : Nat} {h : Hd} (X : w.rangeAt b 0 (grC h)) : w.rangeAt b 0 (rgC h) := by
 intro j v hv
 refine X j v ?_
 have hj : j < (rgC h).length := (List.getElem?_eq_some_iff.1 hv).1
 have e : grC h = rgC h ++ [.int .i64 h.at_, .int .i64 h.then_, .int .i64 h.code, .int .i64 h.key, .int .i64 h.value, .int .i64 h.begin, .int .i64 h.reply, .int .i64 h.out, .int .i64 h.sum, .int .i64 h.held] := rfl
 rw [e, List.getElem?_append_left hj]
 exact hv
theorem qz1k (n : Int) (w : World) : Calls Tryz.prog 51 #[.int .i64 n] w fun e w' => e = .returned (.bool (inB n 0 20000)) /\ w' = w := by
 go_enter Tryz.func51, Tryz.ntmps51
 go_wp2_with (go_at_call 80; refine (qze _ _ _ _).mono ?_; rintro e w' ⟨rfl, rfl⟩)
 go_ret
 exact ⟨rfl, rfl⟩
theorem qz1w (n : Int) (w : World) : Calls Tryz.prog 107 #[.int .i64 n] w fun e w' => e = .returned (.bool (inB n 0 100)) /\ w' = w := by
 go_enter Tryz.func107, Tryz.ntmps107
 go_wp2_with (go_at_call 80; refine (qze _ _ _ _).mono ?_; rintro e w' ⟨rfl, rfl⟩)
 go_ret
 exact ⟨rfl, rfl⟩
def qz35 (h : Hd) : Bool := inB h.at_ 0 23 && inB h.then_ 0 7 && inB h.code 0 8 && inB h.reply 0 7
theorem qz95 (h : Hd) (w : World) : Calls Tryz.prog 85 #[.agg (grC h).toArray] w fun e w' => e = .returned (.bool (qz35 h)) /\ Below w.heap.size w w' := by
 show Calls Tryz.prog 85 #[.agg #[.int .i64 h.x_, .int .i64 h.ver, .int .i64 h.cam, .int .i64 h.camAt, .int .i64 h.pred, .int .i64 h.predVer, .int .i64 h.curr, .int .i64 h.currVer, .int .i64 h.new_, .int .i64 h.least, .int .i64 h.index, .int .i64 h.round, .int .i64 h.at_, .int .i64 h.then_, .int .i64 h.code, .int .i64 h.key, .int .i64 h.value, .int .i64 h.begin, .int .i64 h.reply, .int .i64 h.out, .int .i64 h.sum, .int .i64 h.held]] w fun e w' => e = .returned (.bool (qz35 h)) /\ Below w.heap.size w w'
 have KK := (Below.refl w.heap.size w).alloc (Nat.le_refl _) (.cells #[.int .i64 h.x_, .int .i64 h.ver, .int .i64 h.cam, .int .i64 h.camAt, .int .i64 h.pred, .int .i64 h.predVer, .int .i64 h.curr, .int .i64 h.currVer, .int .i64 h.new_, .int .i64 h.least, .int .i64 h.index, .int .i64 h.round, .int .i64 h.at_, .int .i64 h.then_, .int .i64 h.code, .int .i64 h.key, .int .i64 h.value, .int .i64 h.begin, .int .i64 h.reply, .int .i64 h.out, .int .i64 h.sum, .int .i64 h.held] 93)
 cases e0 : inB h.at_ 0 23
 ·have hv : qz35 h = false := by simp only [qz35, e0, Bool.true_and, Bool.and_true, Bool.false_and, Bool.and_false, Bool.true_or, Bool.or_true, Bool.or_false, Bool.false_or]
  go_enter Tryz.func85, Tryz.ntmps85
  go_wp2_with (go_at_call 80; refine (qze _ _ _ _).mono ?_; rintro e w' ⟨rfl, hw⟩; obtain rfl := hw.symm)
  go_ret
  exact ⟨by rw [hv]; rfl, KK⟩
 cases e1 : inB h.then_ 0 7
 ·have hv : qz35 h = false := by simp only [qz35, e0, e1, Bool.true_and, Bool.and_true, Bool.false_and, Bool.and_false, Bool.true_or, Bool.or_true, Bool.or_false, Bool.false_or]
  go_enter Tryz.func85, Tryz.ntmps85
  go_wp2_with (go_at_call 80; refine (qze _ _ _ _).mono ?_; rintro e w' ⟨rfl, hw⟩; obtain rfl := hw.symm)
  go_ret
  exact ⟨by rw [hv]; rfl, KK⟩
 cases e2 : inB h.code 0 8
 ·have hv : qz35 h = false := by simp only [qz35, e0, e1, e2, Bool.true_and, Bool.and_true, Bool.false_and, Bool.and_false, Bool.true_or, Bool.or_true, Bool.or_false, Bool.false_or]
  go_enter Tryz.func85, Tryz.ntmps85
  go_wp2_with (go_at_call 80; refine (qze _ _ _ _).mono ?_; rintro e w' ⟨rfl, hw⟩; obtain rfl := hw.symm)
  go_ret
  exact ⟨by rw [hv]; rfl, KK⟩
 have hv : qz35 h = inB h.reply 0 7 := by simp only [qz35, e0, e1, e2, Bool.true_and, Bool.and_true, Bool.false_and, Bool.and_false, Bool.true_or, Bool.or_true, Bool.or_false, Bool.false_or]
 go_enter Tryz.func85, Tryz.ntmps85
 go_wp2_with (go_at_call 80; refine (qze _ _ _ _).mono ?_; rintro e w' ⟨rfl, hw⟩; obtain rfl := hw.symm)
 go_ret
 exact ⟨by rw [hv]; rfl, KK⟩
def qz17 (h : Hd) : Bool := (inB h.key 0 63 || h.key == -1) && inB h.value 0 9999 && inB h.out 0 1000000 && inB h.sum 0 1000000 && inB h.index 0 60
theorem qz8y (h : Hd) (w : World) : Calls Tryz.prog 86 #[.agg (grC h).toArray] w fun e w' => e = .returned (.bool (qz17 h)) /\ Below w.heap.size w w' := by
 show Calls Tryz.prog 86 #[.agg #[.int .i64 h.x_, .int .i64 h.ver, .int .i64 h.cam, .int .i64 h.camAt, .int .i64 h.pred, .int .i64 h.predVer, .int .i64 h.curr, .int .i64 h.currVer, .int .i64 h.new_, .int .i64 h.least, .int .i64 h.index, .int .i64 h.round, .int .i64 h.at_, .int .i64 h.then_, .int .i64 h.code, .int .i64 h.key, .int .i64 h.value, .int .i64 h.begin, .int .i64 h.reply, .int .i64 h.out, .int .i64 h.sum, .int .i64 h.held]] w fun e w' => e = .returned (.bool (qz17 h)) /\ Below w.heap.size w w'
 have KK := (Below.refl w.heap.size w).alloc (Nat.le_refl _) (.cells #[.int .i64 h.x_, .int .i64 h.ver, .int .i64 h.cam, .int .i64 h.camAt, .int .i64 h.pred, .int .i64 h.predVer, .int .i64 h.curr, .int .i64 h.currVer, .int .i64 h.new_, .int .i64 h.least, .int .i64 h.index, .int .i64 h.round, .int .i64 h.at_, .int .i64 h.then_, .int .i64 h.code, .int .i64 h.key, .int .i64 h.value, .int .i64 h.begin, .int .i64 h.reply, .int .i64 h.out, .int .i64 h.sum, .int .i64 h.held] 93)
 cases e0 : inB h.key 0 63
 ·by_cases k0 : h.key = -1
  ·have b0 : (h.key == -1) = true := by rw [k0]; rfl
   cases e1 : inB h.value 0 9999
   ·have hv : qz17 h = false := by simp only [qz17, e0, b0, e1, Bool.true_and, Bool.and_true, Bool.false_and, Bool.and_false, Bool.true_or, Bool.or_true, Bool.or_false, Bool.false_or]
    go_enter Tryz.func86, Tryz.ntmps86
    go_wp2_with (first | (go_at_call 80; refine (qze _ _ _ _).mono ?_; rintro e w' ⟨rfl, hw⟩; obtain rfl := hw.symm) | (go_at_call 106; refine (qz22 _ _).mono ?_; rintro e w' ⟨rfl, hw⟩; obtain rfl := hw.symm))
    go_ret
    exact ⟨by rw [hv]; rfl, by rw [k0] at KK; exact KK⟩
   cases e2 : inB h.out 0 1000000
   ·have hv : qz17 h = false := by simp only [qz17, e0, b0, e1, e2, Bool.true_and, Bool.and_true, Bool.false_and, Bool.and_false, Bool.true_or, Bool.or_true, Bool.or_false, Bool.false_or]
    go_enter Tryz.func86, Tryz.ntmps86
    go_wp2_with (first | (go_at_call 80; refine (qze _ _ _ _).mono ?_; rintro e w' ⟨rfl, hw⟩; obtain rfl := hw.symm) | (go_at_call 106; refine (qz22 _ _).mono ?_; rintro e w' ⟨rfl, hw⟩; obtain rfl := hw.symm))
    go_ret
    exact ⟨by rw [hv]; rfl, by rw [k0] at KK; exact KK⟩
   cases e3 : inB h.sum 0 1000000
   ·have hv : qz17 h = false := by simp only [qz17, e0, b0, e1, e2, e3, Bool.true_and, Bool.and_true, Bool.false_and, Bool.and_false, Bool.true_or, Bool.or_true, Bool.or_false, Bool.false_or]
    go_enter Tryz.func86, Tryz.ntmps86
    go_wp2_with (first | (go_at_call 80; refine (qze _ _ _ _).mono ?_; rintro e w' ⟨rfl, hw⟩; obtain rfl := hw.symm) | (go_at_call 106; refine (qz22 _ _).mono ?_; rintro e w' ⟨rfl, hw⟩; obtain rfl := hw.symm))
    go_ret
    exact ⟨by rw [hv]; rfl, by rw [k0] at KK; exact KK⟩
   have hv : qz17 h = inB h.index 0 60 := by simp only [qz17, e0, b0, e1, e2, e3, Bool.true_and, Bool.and_true, Bool.false_and, Bool.and_false, Bool.true_or, Bool.or_true, Bool.or_false, Bool.false_or]
   go_enter Tryz.func86, Tryz.ntmps86
   go_wp2_with (first | (go_at_call 80; refine (qze _ _ _ _).mono ?_; rintro e w' ⟨rfl, hw⟩; obtain rfl := hw.symm) | (go_at_call 106; refine (qz22 _ _).mono ?_; rintro e w' ⟨rfl, hw⟩; obtain rfl := hw.symm))
   go_ret
   exact ⟨by rw [hv]; rfl, by rw [k0] at KK; exact KK⟩
  ·have b0 : (h.key == -1) = false := by simpa using k0
   have hv : qz17 h = false := by simp only [qz17, e0, b0, Bool.true_and, Bool.and_true, Bool.false_and, Bool.and_false, Bool.true_or, Bool.or_true, Bool.or_false, Bool.false_or]
   go_enter Tryz.func86, Tryz.ntmps86
   go_wp2_with (first | (go_at_call 80; refine (qze _ _ _ _).mono ?_; rintro e w' ⟨rfl, hw⟩; obtain rfl := hw.symm) | (go_at_call 106; refine (qz22 _ _).mono ?_; rintro e w' ⟨rfl, hw⟩; obtain rfl := hw.symm))
   go_ret
   exact ⟨by rw [hv]; rfl, KK⟩
 cases e1 : inB h.value 0 9999
 ·have hv : qz17 h = false := by simp only [qz17, e0, e1, Bool.true_and, Bool.and_true, Bool.false_and, Bool.and_false, Bool.true_or, Bool.or_true, Bool.or_false, Bool.false_or]
  go_enter Tryz.func86, Tryz.ntmps86
  go_wp2_with (first | (go_at_call 80; refine (qze _ _ _ _).mono ?_; rintro e w' ⟨rfl, hw⟩; obtain rfl := hw.symm) | (go_at_call 106; refine (qz22 _ _).mono ?_; rintro e w' ⟨rfl, hw⟩; obtain rfl := hw.symm))
  go_ret
  exact ⟨by rw [hv]; rfl, KK⟩
 cases e2 : inB h.out 0 1000000
 ·have hv : qz17 h = false := by simp only [qz17, e0, e1, e2, Bool.true_and, Bool.and_true, Bool.false_and, Bool.and_false, Bool.true_or, Bool.or_true, Bool.or_false, Bool.false_or]
  go_enter Tryz.func86, Tryz.ntmps86
  go_wp2_with (first | (go_at_call 80; refine (qze _ _ _ _).mono ?_; rintro e w' ⟨rfl, hw⟩; obtain rfl := hw.symm) | (go_at_call 106; refine (qz22 _ _).mono ?_; rintro e w' ⟨rfl, hw⟩; obtain rfl := hw.symm))
  go_ret
  exact ⟨by rw [hv]; rfl, KK⟩
 cases e3 : inB h.sum 0 1000000
 ·have hv : qz17 h = false := by simp only [qz17, e0, e1, e2, e3, Bool.true_and, Bool.and_true, Bool.false_and, Bool.and_false, Bool.true_or, Bool.or_true, Bool.or_false, Bool.false_or]
  go_enter Tryz.func86, Tryz.ntmps86
  go_wp2_with (first | (go_at_call 80; refine (qze _ _ _ _).mono ?_; rintro e w' ⟨rfl, hw⟩; obtain rfl := hw.symm) | (go_at_call 106; refine (qz22 _ _).mono ?_; rintro e w' ⟨rfl, hw⟩; obtain rfl := hw.symm))
  go_ret
  exact ⟨by rw [hv]; rfl, KK⟩
 have hv : qz17 h = inB h.index 0 60 := by simp only [qz17, e0, e1, e2, e3, Bool.true_and, Bool.and_true, Bool.false_and, Bool.and_false, Bool.true_or, Bool.or_true, Bool.or_false, Bool.false_or]
 go_enter Tryz.func86, Tryz.ntmps86
 go_wp2_with (first | (go_at_call 80; refine (qze _ _ _ _).mono ?_; rintro e w' ⟨rfl, hw⟩; obtain rfl := hw.symm) | (go_at_call 106; refine (qz22 _ _).mono ?_; rintro e w' ⟨rfl, hw⟩; obtain rfl := hw.symm))
 go_ret
 exact ⟨by rw [hv]; rfl, KK⟩
def qz31 (h : Hd) : Bool := inB h.begin 0 20000 && inB h.camAt 0 20000 && inB h.round 0 20000 && (inB h.held 0 100 || h.held == -1) && inB h.cam 0 100 && inB h.least 0 100
theorem qzab (h : Hd) (w : World) : Calls Tryz.prog 87 #[.agg (grC h).toArray] w fun e w' => e = .returned (.bool (qz31 h)) /\ Below w.heap.size w w' := by
 show Calls Tryz.prog 87 #[.agg #[.int .i64 h.x_, .int .i64 h.ver, .int .i64 h.cam, .int .i64 h.camAt, .int .i64 h.pred, .int .i64 h.predVer, .int .i64 h.curr, .int .i64 h.currVer, .int .i64 h.new_, .int .i64 h.least, .int .i64 h.index, .int .i64 h.round, .int .i64 h.at_, .int .i64 h.then_, .int .i64 h.code, .int .i64 h.key, .int .i64 h.value, .int .i64 h.begin, .int .i64 h.reply, .int .i64 h.out, .int .i64 h.sum, .int .i64 h.held]] w fun e w' => e = .returned (.bool (qz31 h)) /\ Below w.heap.size w w'
 have KK := (Below.refl w.heap.size w).alloc (Nat.le_refl _) (.cells #[.int .i64 h.x_, .int .i64 h.ver, .int .i64 h.cam, .int .i64 h.camAt, .int .i64 h.pred, .int .i64 h.predVer, .int .i64 h.curr, .int .i64 h.currVer, .int .i64 h.new_, .int .i64 h.least, .int .i64 h.index, .int .i64 h.round, .int .i64 h.at_, .int .i64 h.then_, .int .i64 h.code, .int .i64 h.key, .int .i64 h.value, .int .i64 h.begin, .int .i64 h.reply, .int .i64 h.out, .int .i64 h.sum, .int .i64 h.held] 93)
 cases e0 : inB h.begin 0 20000
 ·have hv : qz31 h = false := by simp only [qz31, e0, Bool.true_and, Bool.and_true, Bool.false_and, Bool.and_false, Bool.true_or, Bool.or_true, Bool.or_false, Bool.false_or]
  go_enter Tryz.func87, Tryz.ntmps87
  go_wp2_with (first | (go_at_call 51; refine (qz1k _ _).mono ?_; rintro e w' ⟨rfl, hw⟩; obtain rfl := hw.symm) | (go_at_call 107; refine (qz1w _ _).mono ?_; rintro e w' ⟨rfl, hw⟩; obtain rfl := hw.symm))
  go_ret
  exact ⟨by rw [hv]; rfl, KK⟩
 cases e1 : inB h.camAt 0 20000
 ·have hv : qz31 h = false := by simp only [qz31, e0, e1, Bool.true_and, Bool.and_true, Bool.false_and, Bool.and_false, Bool.true_or, Bool.or_true, Bool.or_false, Bool.false_or]
  go_enter Tryz.func87, Tryz.ntmps87
  go_wp2_with (first | (go_at_call 51; refine (qz1k _ _).mono ?_; rintro e w' ⟨rfl, hw⟩; obtain rfl := hw.symm) | (go_at_call 107; refine (qz1w _ _).mono ?_; rintro e w' ⟨rfl, hw⟩; obtain rfl := hw.symm))
  go_ret
  exact ⟨by rw [hv]; rfl, KK⟩
 cases e2 : inB h.round 0 20000
 ·have hv : qz31 h = false := by simp only [qz31, e0, e1, e2, Bool.true_and, Bool.and_true, Bool.false_and, Bool.and_false, Bool.true_or, Bool.or_true, Bool.or_false, Bool.false_or]
  go_enter Tryz.func87, Tryz.ntmps87
  go_wp2_with (first | (go_at_call 51; refine (qz1k _ _).mono ?_; rintro e w' ⟨rfl, hw⟩; obtain rfl := hw.symm) | (go_at_call 107; refine (qz1w _ _).mono ?_; rintro e w' ⟨rfl, hw⟩; obtain rfl := hw.symm))
  go_ret
  exact ⟨by rw [hv]; rfl, KK⟩
 cases e3 : inB h.held 0 100
 ·by_cases k3 : h.held = -1
  ·have b3 : (h.held == -1) = true := by rw [k3]; rfl
   cases e4 : inB h.cam 0 100
   ·have hv : qz31 h = false := by simp only [qz31, e0, e1, e2, e3, b3, e4, Bool.true_and, Bool.and_true, Bool.false_and, Bool.and_false, Bool.true_or, Bool.or_true, Bool.or_false, Bool.false_or]
    go_enter Tryz.func87, Tryz.ntmps87
    go_wp2_with (first | (go_at_call 51; refine (qz1k _ _).mono ?_; rintro e w' ⟨rfl, hw⟩; obtain rfl := hw.symm) | (go_at_call 107; refine (qz1w _ _).mono ?_; rintro e w' ⟨rfl, hw⟩; obtain rfl := hw.symm))
    go_ret
    exact ⟨by rw [hv]; rfl, by rw [k3] at KK; exact KK⟩
   have hv : qz31 h = inB h.least 0 100 := by simp only [qz31, e0, e1, e2, e3, b3, e4, Bool.true_and, Bool.and_true, Bool.false_and, Bool.and_false, Bool.true_or, Bool.or_true, Bool.or_false, Bool.false_or]
   go_enter Tryz.func87, Tryz.ntmps87
   go_wp2_with (first | (go_at_call 51; refine (qz1k _ _).mono ?_; rintro e w' ⟨rfl, hw⟩; obtain rfl := hw.symm) | (go_at_call 107; refine (qz1w _ _).mono ?_; rintro e w' ⟨rfl, hw⟩; obtain rfl := hw.symm))
   go_ret
   exact ⟨by rw [hv]; rfl, by rw [k3] at KK; exact KK⟩
  ·have b3 : (h.held == -1) = false := by simpa using k3
   have hv : qz31 h = false := by simp only [qz31, e0, e1, e2, e3, b3, Bool.true_and, Bool.and_true, Bool.false_and, Bool.and_false, Bool.true_or, Bool.or_true, Bool.or_false, Bool.false_or]
   go_enter Tryz.func87, Tryz.ntmps87
   go_wp2_with (first | (go_at_call 51; refine (qz1k _ _).mono ?_; rintro e w' ⟨rfl, hw⟩; obtain rfl := hw.symm) | (go_at_call 107; refine (qz1w _ _).mono ?_; rintro e w' ⟨rfl, hw⟩; obtain rfl := hw.symm))
   go_ret
   exact ⟨by rw [hv]; rfl, KK⟩
 cases e4 : inB h.cam 0 100
 ·have hv : qz31 h = false := by simp only [qz31, e0, e1, e2, e3, e4, Bool.true_and, Bool.and_true, Bool.false_and, Bool.and_false, Bool.true_or, Bool.or_true, Bool.or_false, Bool.false_or]
  go_enter Tryz.func87, Tryz.ntmps87
  go_wp2_with (first | (go_at_call 51; refine (qz1k _ _).mono ?_; rintro e w' ⟨rfl, hw⟩; obtain rfl := hw.symm) | (go_at_call 107; refine (qz1w _ _).mono ?_; rintro e w' ⟨rfl, hw⟩; obtain rfl := hw.symm))
  go_ret
  exact ⟨by rw [hv]; rfl, KK⟩
 have hv : qz31 h = inB h.least 0 100 := by simp only [qz31, e0, e1, e2, e3, e4, Bool.true_and, Bool.and_true, Bool.false_and, Bool.and_false, Bool.true_or, Bool.or_true, Bool.or_false, Bool.false_or]
 go_enter Tryz.func87, Tryz.ntmps87
 go_wp2_with (first | (go_at_call 51; refine (qz1k _ _).mono ?_; rintro e w' ⟨rfl, hw⟩; obtain rfl := hw.symm) | (go_at_call 107; refine (qz1w _ _).mono ?_; rintro e w' ⟨rfl, hw⟩; obtain rfl := hw.symm))
 go_ret
 exact ⟨by rw [hv]; rfl, KK⟩
def qz1n (y z : Int) (h : Hd) : Bool := inB h.x_ 0 (y - 1) && inB h.pred 0 (y - 1) && inB h.curr (-1) (y - 1) && inB h.new_ (-1) (y - 1) && inB h.ver 0 (z - 1) && inB h.predVer 0 (z - 1) && inB h.currVer 0 (z - 1)
theorem qz76 (y z : Int) (h : Hd) (w : World) (hy : 0 <= y /\ y <= 1048576) (hz : 0 <= z /\ z <= 1048576) : Calls Tryz.prog 53 #[.agg (rgC h).toArray, .int .i64 y, .int .i64 z] w fun e w' => e = .returned (.bool (qz1n y z h)) /\ Below w.heap.size w w' := by
 show Calls Tryz.prog 53 #[.agg #[.int .i64 h.x_, .int .i64 h.ver, .int .i64 h.cam, .int .i64 h.camAt, .int .i64 h.pred, .int .i64 h.predVer, .int .i64 h.curr, .int .i64 h.currVer, .int .i64 h.new_, .int .i64 h.least, .int .i64 h.index, .int .i64 h.round], .int .i64 y, .int .i64 z] w fun e w' => e = .returned (.bool (qz1n y z h)) /\ Below w.heap.size w w'
 have KK := (Below.refl w.heap.size w).alloc (Nat.le_refl _) (.cells #[.int .i64 h.x_, .int .i64 h.ver, .int .i64 h.cam, .int .i64 h.camAt, .int .i64 h.pred, .int .i64 h.predVer, .int .i64 h.curr, .int .i64 h.currVer, .int .i64 h.new_, .int .i64 h.least, .int .i64 h.index, .int .i64 h.round] 91)
 cases e0 : inB h.x_ 0 (y - 1)
 ·have hv : qz1n y z h = false := by simp only [qz1n, e0, Bool.true_and, Bool.and_true, Bool.false_and, Bool.and_false, Bool.true_or, Bool.or_true, Bool.or_false, Bool.false_or]
  go_enter Tryz.func53, Tryz.ntmps53
  go_wp2_with (go_at_call 80; refine (qze _ _ _ _).mono ?_; rintro e w' ⟨rfl, hw⟩; obtain rfl := hw.symm)
  go_ret
  exact ⟨by rw [hv]; rfl, KK⟩
 cases e1 : inB h.pred 0 (y - 1)
 ·have hv : qz1n y z h = false := by simp only [qz1n, e0, e1, Bool.true_and, Bool.and_true, Bool.false_and, Bool.and_false, Bool.true_or, Bool.or_true, Bool.or_false, Bool.false_or]
  go_enter Tryz.func53, Tryz.ntmps53
  go_wp2_with (go_at_call 80; refine (qze _ _ _ _).mono ?_; rintro e w' ⟨rfl, hw⟩; obtain rfl := hw.symm)
  go_ret
  exact ⟨by rw [hv]; rfl, KK⟩
 cases e2 : inB h.curr (-1) (y - 1)
 ·have hv : qz1n y z h = false := by simp only [qz1n, e0, e1, e2, Bool.true_and, Bool.and_true, Bool.false_and, Bool.and_false, Bool.true_or, Bool.or_true, Bool.or_false, Bool.false_or]
  go_enter Tryz.func53, Tryz.ntmps53
  go_wp2_with (go_at_call 80; refine (qze _ _ _ _).mono ?_; rintro e w' ⟨rfl, hw⟩; obtain rfl := hw.symm)
  go_ret
  exact ⟨by rw [hv]; rfl, KK⟩
 cases e3 : inB h.new_ (-1) (y - 1)
 ·have hv : qz1n y z h = false := by simp only [qz1n, e0, e1, e2, e3, Bool.true_and, Bool.and_true, Bool.false_and, Bool.and_false, Bool.true_or, Bool.or_true, Bool.or_false, Bool.false_or]
  go_enter Tryz.func53, Tryz.ntmps53
  go_wp2_with (go_at_call 80; refine (qze _ _ _ _).mono ?_; rintro e w' ⟨rfl, hw⟩; obtain rfl := hw.symm)
  go_ret
  exact ⟨by rw [hv]; rfl, KK⟩
 cases e4 : inB h.ver 0 (z - 1)
 ·have hv : qz1n y z h = false := by simp only [qz1n, e0, e1, e2, e3, e4, Bool.true_and, Bool.and_true, Bool.false_and, Bool.and_false, Bool.true_or, Bool.or_true, Bool.or_false, Bool.false_or]
  go_enter Tryz.func53, Tryz.ntmps53
  go_wp2_with (go_at_call 80; refine (qze _ _ _ _).mono ?_; rintro e w' ⟨rfl, hw⟩; obtain rfl := hw.symm)
  go_ret
  exact ⟨by rw [hv]; rfl, KK⟩
 cases e5 : inB h.predVer 0 (z - 1)
 ·have hv : qz1n y z h = false := by simp only [qz1n, e0, e1, e2, e3, e4, e5, Bool.true_and, Bool.and_true, Bool.false_and, Bool.and_false, Bool.true_or, Bool.or_true, Bool.or_false, Bool.false_or]
  go_enter Tryz.func53, Tryz.ntmps53
  go_wp2_with (go_at_call 80; refine (qze _ _ _ _).mono ?_; rintro e w' ⟨rfl, hw⟩; obtain rfl := hw.symm)
  go_ret
  exact ⟨by rw [hv]; rfl, KK⟩
 have hv : qz1n y z h = inB h.currVer 0 (z - 1) := by simp only [qz1n, e0, e1, e2, e3, e4, e5, Bool.true_and, Bool.and_true, Bool.false_and, Bool.and_false, Bool.true_or, Bool.or_true, Bool.or_false, Bool.false_or]
 go_enter Tryz.func53, Tryz.ntmps53
 go_wp2_with (go_at_call 80; refine (qze _ _ _ _).mono ?_; rintro e w' ⟨rfl, hw⟩; obtain rfl := hw.symm)
 go_ret
 exact ⟨by rw [hv]; rfl, KK⟩
theorem qz74 (h : Hd) (w : World) : Calls Tryz.prog 52 #[.agg (hdC h).toArray] w fun e w' => e = .returned (.agg (grC h).toArray) /\ Below w.heap.size w w' := by
 show Calls Tryz.prog 52 #[.agg #[.int .i64 h.at_, .int .i64 h.then_, .int .i64 h.code, .int .i64 h.key, .int .i64 h.value, .int .i64 h.begin, .int .i64 h.reply, .int .i64 h.out, .int .i64 h.sum, .int .i64 h.held, .int .i64 h.x_, .int .i64 h.ver, .int .i64 h.cam, .int .i64 h.camAt, .int .i64 h.pred, .int .i64 h.predVer, .int .i64 h.curr, .int .i64 h.currVer, .int .i64 h.new_, .int .i64 h.least, .int .i64 h.index, .int .i64 h.round]] w fun e w' => e = .returned (.agg (grC h).toArray) /\ Below w.heap.size w w'
 go_enter Tryz.func52, Tryz.ntmps52
 have F0 := qzf (w.alloc (.cells #[.int .i64 h.at_, .int .i64 h.then_, .int .i64 h.code, .int .i64 h.key, .int .i64 h.value, .int .i64 h.begin, .int .i64 h.reply, .int .i64 h.out, .int .i64 h.sum, .int .i64 h.held, .int .i64 h.x_, .int .i64 h.ver, .int .i64 h.cam, .int .i64 h.camAt, .int .i64 h.pred, .int .i64 h.predVer, .int .i64 h.curr, .int .i64 h.currVer, .int .i64 h.new_, .int .i64 h.least, .int .i64 h.index, .int .i64 h.round] 36)) #[.int .i64 0, .int .i64 0, .int .i64 0, .int .i64 0, .int .i64 0, .int .i64 0, .int .i64 0, .int .i64 0, .int .i64 0, .int .i64 0, .int .i64 0, .int .i64 0, .int .i64 0, .int .i64 0, .int .i64 0, .int .i64 0, .int .i64 0, .int .i64 0, .int .i64 0, .int .i64 0, .int .i64 0, .int .i64 0] 93 22 (by decide)
 have K0 := ((Below.refl w.heap.size w).alloc (Nat.le_refl _) (.cells #[.int .i64 h.at_, .int .i64 h.then_, .int .i64 h.code, .int .i64 h.key, .int .i64 h.value, .int .i64 h.begin, .int .i64 h.reply, .int .i64 h.out, .int .i64 h.sum, .int .i64 h.held, .int .i64 h.x_, .int .i64 h.ver, .int .i64 h.cam, .int .i64 h.camAt, .int .i64 h.pred, .int .i64 h.predVer, .int .i64 h.curr, .int .i64 h.currVer, .int .i64 h.new_, .int .i64 h.least, .int .i64 h.index, .int .i64 h.round] 36)).alloc (by simp) (.cells #[.int .i64 0, .int .i64 0, .int .i64 0, .int .i64 0, .int .i64 0, .int .i64 0, .int .i64 0, .int .i64 0, .int .i64 0, .int .i64 0, .int .i64 0, .int .i64 0, .int .i64 0, .int .i64 0, .int .i64 0, .int .i64 0, .int .i64 0, .int .i64 0, .int .i64 0, .int .i64 0, .int .i64 0, .int .i64 0] 93)
 simp only [World.size_alloc] at F0
 go_wp2_with (refine wpList_store_mid rfl 93 (.tmp 2) (.tmp 48) rfl (w.heap.size + 1) 0 _ rfl rfl ?ht ?hi ?h1 ?_)
 case ht => exact F0
 case hi => exact qz9q h
 case h1 => exact qzap h
 refine bodyPost_ret (v := .agg (grC h).toArray) ?_ rfl ⟨rfl, ?_⟩
 ·exact qz4 Tryz.results52 _ _ (w.heap.size + 1) 0 rfl (grC h) _ (World.rangeAt_setCells_same _ _ _ _ F0) Tryz.underlying93 rfl (qz4j h)
 ·exact Below.setCells (by omega) _ _ _ K0
theorem qzbd (n hi : Int) (hh : 0 <= hi) : (inB n 0 hi || n == -1) = inB n (-1) hi := by
 cases e : inB n (-1) hi
 ·have h1 : ¬ (-1 <= n /\ n <= hi) := fun h => by rw [qz5u h.1 h.2] at e; exact absurd e (by decide)
  rw [qz8e (by omega), Bool.false_or]
  exact beq_eq_false_iff_ne.2 (by omega)
 ·obtain ⟨h1, h2⟩ := (qz2c _ _ _).1 e
  by_cases h3 : n = -1
  ·subst h3
   simp
  ·rw [qz5u (by omega) h2, Bool.true_or]
theorem qzai (x y z u : Int) (h : Hd) (hp : qz3e x y z u = true) : (qz35 h && qz17 h && qz31 h && qz1n y z h) = qz2a x y z u h := by
 have hpl := (qz3y x y z u).1 hp
 unfold qz35 qz17 qz31 qz1n qz2a qz3a qz3d
 rw [hp, qzbd _ 63 (by decide), qzbd _ 100 (by decide), Bool.true_and]
 generalize inB h.x_ 0 (y - 1) = a0
 generalize inB h.pred 0 (y - 1) = a1
 generalize inB h.curr (-1) (y - 1) = a2
 generalize inB h.new_ (-1) (y - 1) = a3
 generalize inB h.ver 0 (z - 1) = a4
 generalize inB h.predVer 0 (z - 1) = a5
 generalize inB h.currVer 0 (z - 1) = a6
 simp only [Bool.and_assoc, Bool.and_comm, Bool.and_left_comm]
theorem qz9d (x y z u : Int) (h : Hd) (w : World) :
  Calls Tryz.prog 49 #[.agg #[.int .i64 x, .int .i64 y, .int .i64 z, .int .i64 u], .agg (hdC h).toArray] w fun e w' => e = .returned (.bool (qz2a x y z u h)) /\ Below w.heap.size w w' := by
 have P0 := (qz2u w x y z u 43).below ((Below.refl _ _).alloc (Nat.le_refl _) (.cells (hdC h).toArray 36)) (by simp)
 have X0 := qz5 (w.alloc (.cells #[.int .i64 x, .int .i64 y, .int .i64 z, .int .i64 u] 43)) (hdC h) 36
 have K0 := ((Below.refl w.heap.size w).alloc (Nat.le_refl _) (.cells #[.int .i64 x, .int .i64 y, .int .i64 z, .int .i64 u] 43)).alloc (by simp) (.cells (hdC h).toArray 36)
 have z0 : w.heap.size + 1 < ((w.alloc (.cells #[.int .i64 x, .int .i64 y, .int .i64 z, .int .i64 u] 43)).alloc (.cells (hdC h).toArray 36)).heap.size := by simp
 simp only [World.size_alloc] at X0
 go_enter Tryz.func49, Tryz.ntmps49
 go_wp2_with (refine wpList_load_mid rfl 36 (.tmp 3) rfl (w.heap.size + 1) 0 rfl (hdC h) _ ?hc Tryz.underlying36 rfl (qz1 h) ?_)
 case hc => exact X0
 change Calls Tryz.prog _ _ ((w.alloc (.cells #[.int .i64 x, .int .i64 y, .int .i64 z, .int .i64 u] 43)).alloc (.cells (hdC h).toArray 36)) _
 generalize hw0 : (w.alloc (.cells #[.int .i64 x, .int .i64 y, .int .i64 z, .int .i64 u] 43)).alloc (.cells (hdC h).toArray 36) = w0 at *
 clear hw0
 refine (qz74 h _).mono ?_
 rintro e w1 ⟨rfl, b0⟩
 have P1 := P0.below b0 (by omega)
 have K1 := K0.trans (b0.mono (by omega))
 have z1 := Nat.lt_of_lt_of_le z0 b0.size
 clear P0 X0 K0 z0 b0
 have FA := qzf w1 #[.int .i64 0, .int .i64 0, .int .i64 0, .int .i64 0, .int .i64 0, .int .i64 0, .int .i64 0, .int .i64 0, .int .i64 0, .int .i64 0, .int .i64 0, .int .i64 0, .int .i64 0, .int .i64 0, .int .i64 0, .int .i64 0, .int .i64 0, .int .i64 0, .int .i64 0, .int .i64 0, .int .i64 0, .int .i64 0] 93 22 (by decide)
 have hset : (w1.alloc (.cells #[.int .i64 0, .int .i64 0, .int .i64 0, .int .i64 0, .int .i64 0, .int .i64 0, .int .i64 0, .int .i64 0, .int .i64 0, .int .i64 0, .int .i64 0, .int .i64 0, .int .i64 0, .int .i64 0, .int .i64 0, .int .i64 0, .int .i64 0, .int .i64 0, .int .i64 0, .int .i64 0, .int .i64 0, .int .i64 0] 93)).setCells w1.heap.size 0 (grC h).toArray.toList = w1.alloc (.cells (grC h).toArray 93) := qz2l w1 93 (grC h) [] [.int .i64 0, .int .i64 0, .int .i64 0, .int .i64 0, .int .i64 0, .int .i64 0, .int .i64 0, .int .i64 0, .int .i64 0, .int .i64 0, .int .i64 0, .int .i64 0, .int .i64 0, .int .i64 0, .int .i64 0, .int .i64 0, .int .i64 0, .int .i64 0, .int .i64 0, .int .i64 0, .int .i64 0, .int .i64 0] rfl
 have X1 := qz5 w1 (grC h) 93
 have P2 := P1.below ((Below.refl _ _).alloc (Nat.le_refl _) (.cells (grC h).toArray 93)) (by omega)
 have K2 := K1.alloc (by omega) (.cells (grC h).toArray 93)
 have z2 : w1.heap.size < (w1.alloc (.cells (grC h).toArray 93)).heap.size := by simp
 obtain ⟨p0, p1, p2, p3⟩ := id P2
 go_wp2_with (refine wpList_store_mid rfl 93 (.tmp 5) (.tmp 7) rfl w1.heap.size 0 _ rfl rfl FA (qz9q h) (qzap h) ?_; rw [hset])
 change Calls Tryz.prog _ _ (w1.alloc (.cells (grC h).toArray 93)) _
 generalize hw2 : w1.alloc (.cells (grC h).toArray 93) = w2 at *
 clear hw2 hset FA P1 K1
 refine (qz4l _ _ _ _ _).mono ?_
 rintro e w3 ⟨rfl, b2⟩
 have P3 := P2.below b2 (by omega)
 have X3 := qz0 X1 b2 z2
 have K3 := K2.trans (b2.mono (by omega))
 have z3 := Nat.lt_of_lt_of_le z2 b2.size
 clear P2 X1 K2 z2 b2 p0 p1 p2 p3
 cases e0 : qz3e x y z u
 ·have hv : qz2a x y z u h = false := by simp only [qz2a, e0, Bool.false_and]
  go_wp2_with fail
  go_ret
  exact ⟨by rw [hv]; rfl, K3⟩
 have hpl := (qz3y x y z u).1 e0
 have hpt := qzai x y z u h e0
 go_wp2_with (refine qzx ?hw0 93 (.tmp 5) rfl w1.heap.size 0 rfl (grC h) _ ?hc0 Tryz.underlying93 rfl (qz4j h) ?_)
 try (case hw0 => rfl)
 case hc0 => exact X3
 refine (qz95 h _).mono ?_
 rintro e w4 ⟨rfl, b3⟩
 have P4 := P3.below b3 (by omega)
 have X4 := qz0 X3 b3 z3
 have K4 := K3.trans (b3.mono (by omega))
 have z4 := Nat.lt_of_lt_of_le z3 b3.size
 clear P3 X3 K3 z3 b3
 cases e1 : qz35 h
 ·have hv : qz2a x y z u h = false := by rw [<- hpt]; simp only [e1, Bool.true_and, Bool.and_true, Bool.false_and, Bool.and_false]
  clear hpt
  go_wp2_with fail
  go_ret
  exact ⟨by rw [hv]; rfl, K4⟩
 go_wp2_with (refine qzx ?hw1 93 (.tmp 5) rfl w1.heap.size 0 rfl (grC h) _ ?hc1 Tryz.underlying93 rfl (qz4j h) ?_)
 try (case hw1 => rfl)
 case hc1 => exact X4
 refine (qz8y h _).mono ?_
 rintro e w5 ⟨rfl, b4⟩
 have P5 := P4.below b4 (by omega)
 have X5 := qz0 X4 b4 z4
 have K5 := K4.trans (b4.mono (by omega))
 have z5 := Nat.lt_of_lt_of_le z4 b4.size
 clear P4 X4 K4 z4 b4
 cases e2 : qz17 h
 ·have hv : qz2a x y z u h = false := by rw [<- hpt]; simp only [e1, e2, Bool.true_and, Bool.and_true, Bool.false_and, Bool.and_false]
  clear hpt
  go_wp2_with fail
  go_ret
  exact ⟨by rw [hv]; rfl, K5⟩
 go_wp2_with (refine qzx ?hw2 93 (.tmp 5) rfl w1.heap.size 0 rfl (grC h) _ ?hc2 Tryz.underlying93 rfl (qz4j h) ?_)
 try (case hw2 => rfl)
 case hc2 => exact X5
 refine (qzab h _).mono ?_
 rintro e w6 ⟨rfl, b5⟩
 have P6 := P5.below b5 (by omega)
 have X6 := qz0 X5 b5 z5
 have K6 := K5.trans (b5.mono (by omega))
 have z6 := Nat.lt_of_lt_of_le z5 b5.size
 clear P5 X5 K5 z5 b5
 cases e3 : qz31 h
 ·have hv : qz2a x y z u h = false := by rw [<- hpt]; simp only [e1, e2, e3, Bool.true_and, Bool.and_true, Bool.false_and, Bool.and_false]
  clear hpt
  go_wp2_with fail
  go_ret
  exact ⟨by rw [hv]; rfl, K6⟩
 have hv : qz2a x y z u h = qz1n y z h := by rw [<- hpt]; simp only [e1, e2, e3, Bool.true_and, Bool.and_true, Bool.false_and, Bool.and_false]
 clear hpt
 obtain ⟨p0, p1, p2, p3⟩ := id P6
 go_wp2_with (refine qzx ?hw9 91 (.tmp 23) rfl w1.heap.size 0 rfl (rgC h) _ ?hc9 Tryz.underlying91 rfl (qza8 h) ?_)
 try (case hw9 => rfl)
 case hc9 => exact qza9 X6
 refine (qz76 y z h _ ⟨by omega, by omega⟩ ⟨by omega, by omega⟩).mono ?_
 rintro e w7 ⟨rfl, b6⟩
 have K7 := K6.trans (b6.mono (by omega))
 go_wp2_with fail
 go_ret
 exact ⟨by rw [hv]; rfl, K7⟩
theorem qz85 (w : World) : Calls Tryz.prog 118 #[] w fun e w' => e = .returned (.agg (hdC newH).toArray) /\ Below w.heap.size w w' := by
 have F0 := qzf w #[.int .i64 0, .int .i64 0, .int .i64 0, .int .i64 0, .int .i64 0, .int .i64 0, .int .i64 0, .int .i64 0, .int .i64 0, .int .i64 0, .int .i64 0, .int .i64 0, .int .i64 0, .int .i64 0, .int .i64 0, .int .i64 0, .int .i64 0, .int .i64 0, .int .i64 0, .int .i64 0, .int .i64 0, .int .i64 0] 36 22 (by decide)
 go_enter Tryz.func118, Tryz.ntmps118
 go_wp2_with (refine wpList_store_mid rfl 36 (.tmp 0) (.tmp 1) rfl w.heap.size 0 _ rfl rfl ?ht ?hi ?h1 ?_)
 case ht => exact F0
 case hi => exact qz8 newH
 case h1 => exact qzc newH
 refine bodyPost_ret (v := .agg (hdC newH).toArray) ?_ rfl ⟨rfl, ?_⟩
 ·exact qz4 Tryz.results118 _ _ w.heap.size 0 rfl (hdC newH) _ (World.rangeAt_setCells_same _ _ _ _ F0) Tryz.underlying36 rfl (qz1 newH)
 ·exact Below.setCells (Nat.le_refl _) _ _ _ ((Below.refl _ _).alloc (Nat.le_refl _) _)
theorem qz16 (h : Hd) (rp ot sm : Int) (w : World) :
  Calls Tryz.prog 114 #[.agg (hdC h).toArray, .int .i64 rp, .int .i64 ot, .int .i64 sm] w fun e w' => e = .returned (.agg (hdC (qzb h rp ot sm)).toArray) /\ Below w.heap.size w w' := by
 show Calls Tryz.prog 114 #[.agg #[.int .i64 h.at_, .int .i64 h.then_, .int .i64 h.code, .int .i64 h.key, .int .i64 h.value, .int .i64 h.begin, .int .i64 h.reply, .int .i64 h.out, .int .i64 h.sum, .int .i64 h.held, .int .i64 h.x_, .int .i64 h.ver, .int .i64 h.cam, .int .i64 h.camAt, .int .i64 h.pred, .int .i64 h.predVer, .int .i64 h.curr, .int .i64 h.currVer, .int .i64 h.new_, .int .i64 h.least, .int .i64 h.index, .int .i64 h.round], .int .i64 rp, .int .i64 ot, .int .i64 sm] w fun e w' => e = .returned (.agg (hdC (qzb h rp ot sm)).toArray) /\ Below w.heap.size w w'
 have X0 := World.rangeAt_alloc (qz5 w (hdC h) 36) (.cells #[.int .i64 0, .int .i64 0, .int .i64 0, .int .i64 0, .int .i64 0, .int .i64 0, .int .i64 0, .int .i64 0, .int .i64 0, .int .i64 0, .int .i64 0, .int .i64 0, .int .i64 0, .int .i64 0, .int .i64 0, .int .i64 0, .int .i64 0, .int .i64 0, .int .i64 0, .int .i64 0, .int .i64 0, .int .i64 0] 36)
 have F0 := qzf (w.alloc (.cells (hdC h).toArray 36)) #[.int .i64 0, .int .i64 0, .int .i64 0, .int .i64 0, .int .i64 0, .int .i64 0, .int .i64 0, .int .i64 0, .int .i64 0, .int .i64 0, .int .i64 0, .int .i64 0, .int .i64 0, .int .i64 0, .int .i64 0, .int .i64 0, .int .i64 0, .int .i64 0, .int .i64 0, .int .i64 0, .int .i64 0, .int .i64 0] 36 22 (by decide)
 have K0 := ((Below.refl w.heap.size w).alloc (Nat.le_refl _) (.cells (hdC h).toArray 36)).alloc (by simp) (.cells #[.int .i64 0, .int .i64 0, .int .i64 0, .int .i64 0, .int .i64 0, .int .i64 0, .int .i64 0, .int .i64 0, .int .i64 0, .int .i64 0, .int .i64 0, .int .i64 0, .int .i64 0, .int .i64 0, .int .i64 0, .int .i64 0, .int .i64 0, .int .i64 0, .int .i64 0, .int .i64 0, .int .i64 0, .int .i64 0] 36)
 have hz0 : w.heap.size + 1 < ((w.alloc (.cells (hdC h).toArray 36)).alloc (.cells #[.int .i64 0, .int .i64 0, .int .i64 0, .int .i64 0, .int .i64 0, .int .i64 0, .int .i64 0, .int .i64 0, .int .i64 0, .int .i64 0, .int .i64 0, .int .i64 0, .int .i64 0, .int .i64 0, .int .i64 0, .int .i64 0, .int .i64 0, .int .i64 0, .int .i64 0, .int .i64 0, .int .i64 0, .int .i64 0] 36)).heap.size := by simp
 simp only [World.size_alloc] at F0
 go_enter Tryz.func114, Tryz.ntmps114
 go_wp2_with fail
 change Calls Tryz.prog _ _ ((w.alloc (.cells (hdC h).toArray 36)).alloc (.cells #[.int .i64 0, .int .i64 0, .int .i64 0, .int .i64 0, .int .i64 0, .int .i64 0, .int .i64 0, .int .i64 0, .int .i64 0, .int .i64 0, .int .i64 0, .int .i64 0, .int .i64 0, .int .i64 0, .int .i64 0, .int .i64 0, .int .i64 0, .int .i64 0, .int .i64 0, .int .i64 0, .int .i64 0, .int .i64 0] 36)) _
 generalize hw0 : (w.alloc (.cells (hdC h).toArray 36)).alloc (.cells #[.int .i64 0, .int .i64 0, .int .i64 0, .int .i64 0, .int .i64 0, .int .i64 0, .int .i64 0, .int .i64 0, .int .i64 0, .int .i64 0, .int .i64 0, .int .i64 0, .int .i64 0, .int .i64 0, .int .i64 0, .int .i64 0, .int .i64 0, .int .i64 0, .int .i64 0, .int .i64 0, .int .i64 0, .int .i64 0] 36) = w0 at *
 clear hw0
 refine (qz85 _).mono ?_
 rintro e w1 ⟨rfl, b1⟩
 have q9 : w1.cell? ⟨w.heap.size, 9, none⟩ = some (.int .i64 h.held) := (b1.cell (p := ⟨w.heap.size, 9, none⟩) (by show w.heap.size < w0.heap.size; omega)).trans (by have := X0 9 (.int .i64 h.held) rfl; simpa using this)
 have F1 := qz3 F0 b1 hz0
 have K1 := K0.trans (b1.mono (by omega))
 have hz1 := Nat.lt_of_lt_of_le hz0 b1.size
 have qa : ∀ o : Obj, (w1.alloc o).cell? ⟨w.heap.size, 9, none⟩ = some (.int .i64 h.held) := fun o => (World.cell?_alloc_lt _ _ _ (by show w.heap.size < w1.heap.size; omega)).trans q9
 clear X0 F0 K0 b1 hz0 q9
 have hset : (w1.alloc (.cells #[.int .i64 0, .int .i64 0, .int .i64 0, .int .i64 0, .int .i64 0, .int .i64 0, .int .i64 0, .int .i64 0, .int .i64 0, .int .i64 0, .int .i64 0, .int .i64 0, .int .i64 0, .int .i64 0, .int .i64 0, .int .i64 0, .int .i64 0, .int .i64 0, .int .i64 0, .int .i64 0, .int .i64 0, .int .i64 0] 36)).setCells w1.heap.size 0 (hdC newH).toArray.toList = w1.alloc (.cells #[.int .i64 0, .int .i64 0, .int .i64 0, .int .i64 (-1), .int .i64 0, .int .i64 0, .int .i64 0, .int .i64 0, .int .i64 0, .int .i64 (-1), .int .i64 0, .int .i64 0, .int .i64 0, .int .i64 0, .int .i64 0, .int .i64 0, .int .i64 (-1), .int .i64 0, .int .i64 (-1), .int .i64 0, .int .i64 0, .int .i64 0] 36) := qz2l w1 36 (hdC newH) [] [.int .i64 0, .int .i64 0, .int .i64 0, .int .i64 0, .int .i64 0, .int .i64 0, .int .i64 0, .int .i64 0, .int .i64 0, .int .i64 0, .int .i64 0, .int .i64 0, .int .i64 0, .int .i64 0, .int .i64 0, .int .i64 0, .int .i64 0, .int .i64 0, .int .i64 0, .int .i64 0, .int .i64 0, .int .i64 0] rfl
 have FA := qzf w1 #[.int .i64 0, .int .i64 0, .int .i64 0, .int .i64 0, .int .i64 0, .int .i64 0, .int .i64 0, .int .i64 0, .int .i64 0, .int .i64 0, .int .i64 0, .int .i64 0, .int .i64 0, .int .i64 0, .int .i64 0, .int .i64 0, .int .i64 0, .int .i64 0, .int .i64 0, .int .i64 0, .int .i64 0, .int .i64 0] 36 22 (by decide)
 have K2 := K1.alloc (by omega) (.cells (hdC (qzb h rp ot sm)).toArray 36)
 have R2 := qz5 w1 (hdC (qzb h rp ot sm)) 36
 have F2 := World.there_alloc F1 (.cells (hdC (qzb h rp ot sm)).toArray 36)
 go_wp2_with (first | (refine wpList_store_mid rfl 36 (.tmp 9) (.tmp 10) rfl w1.heap.size 0 _ rfl rfl FA (qz8 newH) (qzc newH) ?_; rw [hset]) | (refine wpList_load_mid rfl 36 (.tmp 9) rfl w1.heap.size 0 rfl (hdC (qzb h rp ot sm)) _ ?hc Tryz.underlying36 rfl (qz1 _) ?_) | (refine wpList_store_mid rfl 36 (.tmp 8) _ rfl (w.heap.size + 1) 0 _ rfl rfl ?ht ?hi ?h1 ?_))
 case hc => exact R2
 case ht => exact F2
 case hi => exact qz8 _
 case h1 => exact qzc _
 refine bodyPost_ret (v := .agg (hdC (qzb h rp ot sm)).toArray) ?_ rfl ⟨rfl, ?_⟩
 ·exact qz4 Tryz.results114 _ _ (w.heap.size + 1) 0 rfl (hdC (qzb h rp ot sm)) _ (World.rangeAt_setCells_same _ _ _ _ F2) Tryz.underlying36 rfl (qz1 _)
 ·exact Below.setCells (by omega) _ _ _ K2
end
section
attribute [local go_sem ↓] Go.wp_at_zero Go.wp_at_succ
def qzw (h : Hd) (n : Int) : Hd := { h with at_ := n }
theorem qzr (h : Hd) (n : Int) (w : World)  :
  Calls Tryz.prog 58 #[.agg (hdC h).toArray, .int .i64 n] w fun e w' => e = .returned (.agg (hdC (qzw h n)).toArray) /\ Below w.heap.size w w' := by
 have H0 := World.rangeAt_alloc (qz5 w (hdC h) 36) (.cells #[.int .i64 0, .int .i64 0, .int .i64 0, .int .i64 0, .int .i64 0, .int .i64 0, .int .i64 0, .int .i64 0, .int .i64 0, .int .i64 0, .int .i64 0, .int .i64 0, .int .i64 0, .int .i64 0, .int .i64 0, .int .i64 0, .int .i64 0, .int .i64 0, .int .i64 0, .int .i64 0, .int .i64 0, .int .i64 0] 36)
 have G0 := World.there_alloc (qzf w (hdC h).toArray 36 22 (by simp [hdC])) (.cells #[.int .i64 0, .int .i64 0, .int .i64 0, .int .i64 0, .int .i64 0, .int .i64 0, .int .i64 0, .int .i64 0, .int .i64 0, .int .i64 0, .int .i64 0, .int .i64 0, .int .i64 0, .int .i64 0, .int .i64 0, .int .i64 0, .int .i64 0, .int .i64 0, .int .i64 0, .int .i64 0, .int .i64 0, .int .i64 0] 36)
 have F0 := qzf (w.alloc (.cells (hdC h).toArray 36)) #[.int .i64 0, .int .i64 0, .int .i64 0, .int .i64 0, .int .i64 0, .int .i64 0, .int .i64 0, .int .i64 0, .int .i64 0, .int .i64 0, .int .i64 0, .int .i64 0, .int .i64 0, .int .i64 0, .int .i64 0, .int .i64 0, .int .i64 0, .int .i64 0, .int .i64 0, .int .i64 0, .int .i64 0, .int .i64 0] 36 22 (by decide)
 have K0 := (((Below.refl w.heap.size w).alloc (Nat.le_refl _) (.cells (hdC h).toArray 36)).alloc (by simp) (.cells #[.int .i64 0, .int .i64 0, .int .i64 0, .int .i64 0, .int .i64 0, .int .i64 0, .int .i64 0, .int .i64 0, .int .i64 0, .int .i64 0, .int .i64 0, .int .i64 0, .int .i64 0, .int .i64 0, .int .i64 0, .int .i64 0, .int .i64 0, .int .i64 0, .int .i64 0, .int .i64 0, .int .i64 0, .int .i64 0] 36))
 have hz0 : w.heap.size + 1 < ((w.alloc (.cells (hdC h).toArray 36)).alloc (.cells #[.int .i64 0, .int .i64 0, .int .i64 0, .int .i64 0, .int .i64 0, .int .i64 0, .int .i64 0, .int .i64 0, .int .i64 0, .int .i64 0, .int .i64 0, .int .i64 0, .int .i64 0, .int .i64 0, .int .i64 0, .int .i64 0, .int .i64 0, .int .i64 0, .int .i64 0, .int .i64 0, .int .i64 0, .int .i64 0] 36)).heap.size := by simp
 simp only [World.size_alloc] at F0
 go_enter Tryz.func58, Tryz.ntmps58
 have tok : True := trivial
 go_wp2_with (clear tok; refine qz24 ((w.alloc (.cells (hdC h).toArray 36)).alloc (.cells #[.int .i64 0, .int .i64 0, .int .i64 0, .int .i64 0, .int .i64 0, .int .i64 0, .int .i64 0, .int .i64 0, .int .i64 0, .int .i64 0, .int .i64 0, .int .i64 0, .int .i64 0, .int .i64 0, .int .i64 0, .int .i64 0, .int .i64 0, .int .i64 0, .int .i64 0, .int .i64 0, .int .i64 0, .int .i64 0] 36)) ?_)
 generalize hw0 : (w.alloc (.cells (hdC h).toArray 36)).alloc (.cells #[.int .i64 0, .int .i64 0, .int .i64 0, .int .i64 0, .int .i64 0, .int .i64 0, .int .i64 0, .int .i64 0, .int .i64 0, .int .i64 0, .int .i64 0, .int .i64 0, .int .i64 0, .int .i64 0, .int .i64 0, .int .i64 0, .int .i64 0, .int .i64 0, .int .i64 0, .int .i64 0, .int .i64 0, .int .i64 0] 36) = w0 at *
 clear hw0
 show wpList _ _ _ _ _ w0
 have q0 : w0.cell? ⟨w.heap.size, 0, none⟩ = some (.int .i64 h.at_) := by simpa using H0 0 (.int .i64 h.at_) rfl
 have f0 : w0.frozen? ⟨w.heap.size, 0, none⟩ = false := by simpa using (G0 0 (by decide)).2
 obtain ⟨H', hH⟩ : ∃ H' : Hd, Hid (H' = { h with at_ := n }) := by exact ⟨_, rfl⟩
 have hv : Hid (qzw h n = H') := by show _ = _; rw [hH.out]; rfl
 go_wp2_with (first | (refine wpList_load_mid rfl 36 (.tmp 2) rfl (w.heap.size) 0 ?hxln19 (hdC H') _ ?hcn19 Tryz.underlying36 rfl (qz1 H') ?_) | (refine wpList_store_mid rfl 36 (.tmp 4) _ rfl (w.heap.size + 1) 0 (hdC H').toArray ?hxn19 ?hyn19 ?htn19 (qz8 _) (qzc _) ?_))
 try (case hxln19 => rfl)
 case hcn19 => rw [hH.out]; exact (qz6 H0 0 (by simp [hdC]) _)
 try (case hxn19 => rfl)
 try (case hyn19 => rfl)
 case htn19 => exact (qz2 F0 _ _)
 refine bodyPost_ret (v := .agg (hdC H').toArray) ?_ rfl ⟨by rw [hv.out], ?_⟩
 ·exact qz4 Tryz.results58 _ _ (w.heap.size + 1) 0 rfl (hdC H') _ (World.rangeAt_setCells_same _ _ _ _ (qz2 F0 _ _)) Tryz.underlying36 rfl (qz1 _)
 ·exact Below.setCells (by omega) _ _ _ (Below.setCell K0 (p := ⟨w.heap.size, 0, none⟩) (by show w.heap.size <= w.heap.size; omega) _)
end
section
attribute [local go_sem ↓] Go.wp_at_zero Go.wp_at_succ
def qz98 (A : Ar) (h : Hd) (m : Vr) : Dd := if m.kind = 0 then qz29 else ⟨m.kind, (ndOf A (if m.kind = 1 then max m.next 0 else h.x_)).key, (ndOf A (if m.kind = 1 then max m.next 0 else h.x_)).value, h.cam, h.camAt⟩
theorem qzas (A : Ar) (h : Hd) : qz2b A h = qz98 A h (vrOf A h.ver) := rfl
theorem qz3q (nb off : Nat) (x : Nd) (h : Hd) (kind : Int) (w : World) (R : w.rangeAt nb off (ndC x)) (hb : nb < w.heap.size) :
  Calls Tryz.prog 90 #[.pointer (some ⟨nb, off, none⟩), .agg (hdC h).toArray, .int .i64 kind] w fun e w' => e = .returned (.agg (ddC ⟨kind, x.key, x.value, h.cam, h.camAt⟩).toArray) /\ Below w.heap.size w w' := by
 have H0 := World.rangeAt_alloc (qz5 w (hdC h) 36) (.cells #[.int .i64 0, .int .i64 0, .int .i64 0, .int .i64 0, .int .i64 0] 38)
 have F0 := qzf (w.alloc (.cells (hdC h).toArray 36)) #[.int .i64 0, .int .i64 0, .int .i64 0, .int .i64 0, .int .i64 0] 38 5 (by decide)
 have K0 := ((Below.refl w.heap.size w).alloc (Nat.le_refl _) (.cells (hdC h).toArray 36)).alloc (by simp) (.cells #[.int .i64 0, .int .i64 0, .int .i64 0, .int .i64 0, .int .i64 0] 38)
 have R0 := qz0 R K0 hb
 have hz0 : w.heap.size + 1 < ((w.alloc (.cells (hdC h).toArray 36)).alloc (.cells #[.int .i64 0, .int .i64 0, .int .i64 0, .int .i64 0, .int .i64 0] 38)).heap.size := by simp
 simp only [World.size_alloc] at H0 F0
 go_enter Tryz.func90, Tryz.ntmps90
 go_wp2_with fail
 generalize hw0 : (w.alloc (.cells (hdC h).toArray 36)).alloc (.cells #[.int .i64 0, .int .i64 0, .int .i64 0, .int .i64 0, .int .i64 0] 38) = w0 at *
 clear hw0 R
 have n0 : w0.cell? ⟨nb, off, none⟩ = some (.int .i64 x.key) := by simpa using R0 0 _ rfl
 have n1 : w0.cell? ⟨nb, off + 1, none⟩ = some (.int .i64 x.value) := R0 1 _ rfl
 have q12 : w0.cell? ⟨w.heap.size, 12, none⟩ = some (.int .i64 h.cam) := by simpa using H0 12 (.int .i64 h.cam) rfl
 have q13 : w0.cell? ⟨w.heap.size, 13, none⟩ = some (.int .i64 h.camAt) := by simpa using H0 13 (.int .i64 h.camAt) rfl
 refine qzz 14 (by kernel_rfl) (by kernel_rfl) ?_
 simp only [List.take_succ_cons, List.take_zero, List.drop_succ_cons, List.drop_zero]
 repeat (quiet_step (fail))
 refine wpQuiet_nil ?_
 rintro _ ⟨nr, rfl⟩
 have F1 : (w0.drewN nr).there (w.heap.size + 1) 0 5 := F0
 have K1 : Below w.heap.size w (w0.drewN nr) := ⟨K0.os, K0.tape, K0.output, K0.size, K0.block⟩
 generalize hw1 : w0.drewN nr = w1 at *
 clear hw1
 go_wp2_with (refine wpList_store_mid rfl 38 (.tmp 6) (.tmp 20) rfl (w.heap.size + 1) 0 (ddC ⟨kind, x.key, x.value, h.cam, h.camAt⟩).toArray ?hx ?hy ?ht (qz25 _) (qz33 _) ?_)
 try (case hx => rfl)
 try (case hy => rfl)
 case ht => exact F1
 refine bodyPost_ret (v := .agg (ddC ⟨kind, x.key, x.value, h.cam, h.camAt⟩).toArray) ?_ rfl ⟨rfl, ?_⟩
 ·exact qz4 Tryz.results90 _ _ (w.heap.size + 1) 0 rfl (ddC ⟨kind, x.key, x.value, h.cam, h.camAt⟩) _ (World.rangeAt_setCells_same _ _ _ _ F1) Tryz.underlying38 rfl (qz1m _)
 ·exact Below.setCells (by omega) _ _ _ K1
theorem qz6u (base : Nat) (cb : Nat) (s g n r : Value) (ps qs : List Addr) (A : Ar) (m : Vr) (vb vo : Nat) (h : Hd) (w : World) (hbase : base <= w.heap.size) (hA : A.size <= 1048576) (C : qz19 base w cb s g n r ps qs A) (hvb : vb < w.heap.size) (R : w.rangeAt vb vo (vrC m)) (hm : m.next = -1 ∨ 1 <= m.next /\ m.next < (A.nodes.length : Int)) (hk0 : 0 <= m.kind) (hk2 : m.kind <= 2) (hx0 : 0 <= h.x_) (hx1 : h.x_ < (A.nodes.length : Int)) :
  Calls Tryz.prog 60 #[.pointer (some ⟨cb, 0, none⟩), .agg (hdC h).toArray, .pointer (some ⟨vb, vo, none⟩)] w fun e w' => e = .returned (.agg (ddC (qz98 A h m)).toArray) /\ Below w.heap.size w w' := by
 unfold Ar.size at hA
 have hn0 : 0 < A.nodes.length := by omega
 have H0 := World.rangeAt_alloc (qz5 w (hdC h) 36) (.cells #[.int .i64 0, .int .i64 0, .int .i64 0, .int .i64 0, .int .i64 0] 38)
 have F0 := qzf (w.alloc (.cells (hdC h).toArray 36)) #[.int .i64 0, .int .i64 0, .int .i64 0, .int .i64 0, .int .i64 0] 38 5 (by decide)
 have K0 := ((Below.refl w.heap.size w).alloc (Nat.le_refl _) (.cells (hdC h).toArray 36)).alloc (by simp) (.cells #[.int .i64 0, .int .i64 0, .int .i64 0, .int .i64 0, .int .i64 0] 38)
 have R0 := qz0 R K0 hvb
 have C0 := C.grown K0
 have hz0 : w.heap.size + 1 < ((w.alloc (.cells (hdC h).toArray 36)).alloc (.cells #[.int .i64 0, .int .i64 0, .int .i64 0, .int .i64 0, .int .i64 0] 38)).heap.size := by simp
 simp only [World.size_alloc] at H0 F0
 obtain ⟨na, nc, rfl⟩ := qz2w C.sn
 obtain ⟨nb, rfl, -, -, -, -⟩ := qz7b C.sn hn0
 go_enter Tryz.func60, Tryz.ntmps60
 go_upto_region 1 with fail
 generalize hw0 : (w.alloc (.cells (hdC h).toArray 36)).alloc (.cells #[.int .i64 0, .int .i64 0, .int .i64 0, .int .i64 0, .int .i64 0] 38) = w0 at *
 clear hw0 R C
 obtain ⟨_, e9, -, -, -, RN⟩ := qz7b C0.sn hn0
 cases e9
 have v0 : w0.cell? ⟨vb, vo, none⟩ = some (.int .i64 m.next) := by simpa using R0 0 _ rfl
 have v4 : w0.cell? ⟨vb, vo + 4, none⟩ = some (.int .i64 m.kind) := R0 4 _ rfl
 obtain ⟨x0, x1, x2, x3, x4⟩ := row5 C0.row
 have q10 : w0.cell? ⟨w.heap.size, 10, none⟩ = some (.int .i64 h.x_) := by simpa using H0 10 (.int .i64 h.x_) rfl
 by_cases k1 : m.kind = 1
 ·rw [k1] at v4
  rcases hm with hm1 | hm1
  ·have hnl : 0 < A.nodes.length := hn0
   have hd : Hid (qz98 A h m = ⟨1, A.nodes[0].key, A.nodes[0].value, h.cam, h.camAt⟩) := by show _ = _; simp [qz98, k1, hm1, show max (-1 : Int) 0 = 0 by decide, show ndOf A 0 = A.nodes[0] from qzs A 0 hnl]
   rw [hm1] at v0
   clear hm1 hk0 hk2 k1
   obtain ⟨pb, po, pm, p1, -, p3, -, p5⟩ := C0.np.at' 0 hnl
   have hpc : w0.cell? ⟨nb, 0, none⟩ = some (.pointer (some ⟨pb, po, none⟩)) := by
    have hkp : 0 < ps.length := by rw [C0.np.len]; exact hnl
    have h1 := (qza (sz := 1) (f := ptrC) (fun _ => rfl) RN 0 hkp) 0 (.pointer (some ps[0])) rfl
    rw [List.getElem?_eq_getElem hkp] at p1
    rw [Option.some.inj p1] at h1
    simpa using h1
   clear p1 RN
   go_wp2_with fail
   refine qzz 12 (by kernel_rfl) (by kernel_rfl) ?_
   simp only [List.take_succ_cons, List.take_zero, List.drop_succ_cons, List.drop_zero]
   repeat (first | (refine qz18 rfl 36 (.tmp 4) rfl w.heap.size 0 ?s1x (hdC h) _ ?s1c Tryz.underlying36 rfl (qz1 _) ?_; (case s1x => rfl); (case s1c => rintro _ ⟨m, rfl⟩; exact H0)) | (quiet_step (fail)))
   refine wpQuiet_nil ?_
   rintro _ ⟨nr, rfl⟩
   have F1 : (w0.drewN nr).there (w.heap.size + 1) 0 5 := F0
   have K1 : Below w.heap.size w (w0.drewN nr) := ⟨K0.os, K0.tape, K0.output, K0.size, K0.block⟩
   have P1 : (w0.drewN nr).rangeAt pb po (ndC A.nodes[0]) := p5
   have Z1 : pb < (w0.drewN nr).heap.size := p3.lt
   have hz1 : w.heap.size + 1 < (w0.drewN nr).heap.size := hz0
   generalize hw1 : w0.drewN nr = w1 at *
   clear hw1
   go_wp2_with fail
   refine (qz3q pb po A.nodes[0] h 1 w1 P1 Z1).mono ?_
   rintro e w2 ⟨rfl, b2⟩
   have F2 := qz3 F1 b2 (by omega)
   have K2 := K1.trans (b2.mono (by omega))
   go_wp2_with (refine wpList_store_mid rfl 38 (.tmp 6) _ rfl (w.heap.size + 1) 0 (ddC ⟨1, A.nodes[0].key, A.nodes[0].value, h.cam, h.camAt⟩).toArray ?hx1 ?hy1 ?ht1 (qz25 _) (qz33 _) ?_)
   try (case hx1 => rfl)
   try (case hy1 => rfl)
   case ht1 => exact F2
   refine bodyPost_ret (v := .agg (ddC ⟨1, A.nodes[0].key, A.nodes[0].value, h.cam, h.camAt⟩).toArray) ?_ rfl ⟨by rw [hd.out], ?_⟩
   ·exact qz4 Tryz.results60 _ _ (w.heap.size + 1) 0 rfl (ddC ⟨1, A.nodes[0].key, A.nodes[0].value, h.cam, h.camAt⟩) _ (World.rangeAt_setCells_same _ _ _ _ F2) Tryz.underlying38 rfl (qz1m _)
   ·exact Below.setCells (by omega) _ _ _ K2
  ·obtain ⟨nk, hnk⟩ : ∃ k : Nat, m.next = k := ⟨m.next.toNat, by omega⟩
   have hnl : nk < A.nodes.length := by omega
   have hmx : max (nk : Int) 0 = nk := by omega
   have hd : Hid (qz98 A h m = ⟨1, A.nodes[nk].key, A.nodes[nk].value, h.cam, h.camAt⟩) := by show _ = _; simp only [qz98, k1, hnk, if_true, hmx, qzs A nk hnl]; rfl
   have hnk0 : (0 : Int) <= (nk : Int) := by omega
   have hif : (if (nk : Int) < 0 then (0 : Int) else (nk : Int)) = (nk : Int) := if_neg (by omega)
   have hnk1 : (nk : Int) < (A.nodes.length : Int) := by omega
   rw [hnk] at v0
   clear hm1 hk0 hk2 k1 hnk
   obtain ⟨pb, po, pm, p1, -, p3, -, p5⟩ := C0.np.at' nk hnl
   have hpc : w0.cell? ⟨nb, nk, none⟩ = some (.pointer (some ⟨pb, po, none⟩)) := by
    have hkp : nk < ps.length := by rw [C0.np.len]; exact hnl
    have h1 := (qza (sz := 1) (f := ptrC) (fun _ => rfl) RN nk hkp) 0 (.pointer (some ps[nk])) rfl
    rw [List.getElem?_eq_getElem hkp] at p1
    rw [Option.some.inj p1] at h1
    simpa using h1
   clear p1 RN
   go_wp2_with fail
   refine qzz 12 (by kernel_rfl) (by kernel_rfl) ?_
   simp only [List.take_succ_cons, List.take_zero, List.drop_succ_cons, List.drop_zero]
   repeat (first | (refine qz18 rfl 36 (.tmp 4) rfl w.heap.size 0 ?s2x (hdC h) _ ?s2c Tryz.underlying36 rfl (qz1 _) ?_; (case s2x => rfl); (case s2c => rintro _ ⟨m, rfl⟩; exact H0)) | (quiet_step (fail)))
   refine wpQuiet_nil ?_
   rintro _ ⟨nr, rfl⟩
   have F1 : (w0.drewN nr).there (w.heap.size + 1) 0 5 := F0
   have K1 : Below w.heap.size w (w0.drewN nr) := ⟨K0.os, K0.tape, K0.output, K0.size, K0.block⟩
   have P1 : (w0.drewN nr).rangeAt pb po (ndC A.nodes[nk]) := p5
   have Z1 : pb < (w0.drewN nr).heap.size := p3.lt
   have hz1 : w.heap.size + 1 < (w0.drewN nr).heap.size := hz0
   generalize hw1 : w0.drewN nr = w1 at *
   clear hw1
   go_wp2_with fail
   refine (qz3q pb po A.nodes[nk] h 1 w1 P1 Z1).mono ?_
   rintro e w2 ⟨rfl, b2⟩
   have F2 := qz3 F1 b2 (by omega)
   have K2 := K1.trans (b2.mono (by omega))
   go_wp2_with (refine wpList_store_mid rfl 38 (.tmp 6) _ rfl (w.heap.size + 1) 0 (ddC ⟨1, A.nodes[nk].key, A.nodes[nk].value, h.cam, h.camAt⟩).toArray ?hx2 ?hy2 ?ht2 (qz25 _) (qz33 _) ?_)
   try (case hx2 => rfl)
   try (case hy2 => rfl)
   case ht2 => exact F2
   refine bodyPost_ret (v := .agg (ddC ⟨1, A.nodes[nk].key, A.nodes[nk].value, h.cam, h.camAt⟩).toArray) ?_ rfl ⟨by rw [hd.out], ?_⟩
   ·exact qz4 Tryz.results60 _ _ (w.heap.size + 1) 0 rfl (ddC ⟨1, A.nodes[nk].key, A.nodes[nk].value, h.cam, h.camAt⟩) _ (World.rangeAt_setCells_same _ _ _ _ F2) Tryz.underlying38 rfl (qz1m _)
   ·exact Below.setCells (by omega) _ _ _ K2
 have b1 : (m.kind == 1) = false := by simp [k1]
 by_cases k2 : m.kind = 2
 ·rw [k2] at v4
  obtain ⟨xk, hxk⟩ : ∃ k : Nat, h.x_ = k := ⟨h.x_.toNat, by omega⟩
  have hnl : xk < A.nodes.length := by omega
  have hd : Hid (qz98 A h m = ⟨2, A.nodes[xk].key, A.nodes[xk].value, h.cam, h.camAt⟩) := by show _ = _; simp [qz98, k2, hxk, qzs A xk hnl]
  have hxk0 : (0 : Int) <= (xk : Int) := by omega
  have hxk1 : (xk : Int) < (A.nodes.length : Int) := by omega
  rw [hxk] at q10
  clear hm hk0 hk2 k1 k2 b1 hx0 hx1 hxk
  obtain ⟨pb, po, pm, p1, -, p3, -, p5⟩ := C0.np.at' xk hnl
  have hpc : w0.cell? ⟨nb, xk, none⟩ = some (.pointer (some ⟨pb, po, none⟩)) := by
   have hkp : xk < ps.length := by rw [C0.np.len]; exact hnl
   have h1 := (qza (sz := 1) (f := ptrC) (fun _ => rfl) RN xk hkp) 0 (.pointer (some ps[xk])) rfl
   rw [List.getElem?_eq_getElem hkp] at p1
   rw [Option.some.inj p1] at h1
   simpa using h1
  clear p1 RN
  go_wp2_with fail
  refine qzz 9 (by kernel_rfl) (by kernel_rfl) ?_
  simp only [List.take_succ_cons, List.take_zero, List.drop_succ_cons, List.drop_zero]
  repeat (first | (refine qz18 rfl 36 (.tmp 4) rfl w.heap.size 0 ?s3x (hdC h) _ ?s3c Tryz.underlying36 rfl (qz1 _) ?_; (case s3x => rfl); (case s3c => rintro _ ⟨m, rfl⟩; exact H0)) | (quiet_step (fail)))
  refine wpQuiet_nil ?_
  rintro _ ⟨nr, rfl⟩
  have F1 : (w0.drewN nr).there (w.heap.size + 1) 0 5 := F0
  have K1 : Below w.heap.size w (w0.drewN nr) := ⟨K0.os, K0.tape, K0.output, K0.size, K0.block⟩
  have P1 : (w0.drewN nr).rangeAt pb po (ndC A.nodes[xk]) := p5
  have Z1 : pb < (w0.drewN nr).heap.size := p3.lt
  have hz1 : w.heap.size + 1 < (w0.drewN nr).heap.size := hz0
  generalize hw1 : w0.drewN nr = w1 at *
  clear hw1
  go_wp2_with fail
  refine (qz3q pb po A.nodes[xk] h 2 w1 P1 Z1).mono ?_
  rintro e w2 ⟨rfl, b2⟩
  have F2 := qz3 F1 b2 (by omega)
  have K2 := K1.trans (b2.mono (by omega))
  go_wp2_with (refine wpList_store_mid rfl 38 (.tmp 6) _ rfl (w.heap.size + 1) 0 (ddC ⟨2, A.nodes[xk].key, A.nodes[xk].value, h.cam, h.camAt⟩).toArray ?hx3 ?hy3 ?ht3 (qz25 _) (qz33 _) ?_)
  try (case hx3 => rfl)
  try (case hy3 => rfl)
  case ht3 => exact F2
  refine bodyPost_ret (v := .agg (ddC ⟨2, A.nodes[xk].key, A.nodes[xk].value, h.cam, h.camAt⟩).toArray) ?_ rfl ⟨by rw [hd.out], ?_⟩
  ·exact qz4 Tryz.results60 _ _ (w.heap.size + 1) 0 rfl (ddC ⟨2, A.nodes[xk].key, A.nodes[xk].value, h.cam, h.camAt⟩) _ (World.rangeAt_setCells_same _ _ _ _ F2) Tryz.underlying38 rfl (qz1m _)
  ·exact Below.setCells (by omega) _ _ _ K2
 have b2 : (m.kind == 2) = false := by simp [k2]
 have hd : Hid (qz98 A h m = qz29) := by show _ = _; simp [qz98, show m.kind = 0 by omega]
 go_wp2_with (refine wpList_store_mid rfl 38 (.tmp 6) _ rfl (w.heap.size + 1) 0 (ddC qz29).toArray ?hx4 ?hy4 ?ht4 (qz25 _) (qz33 _) ?_)
 try (case hx4 => rfl)
 try (case hy4 => rfl)
 case ht4 => exact F0
 refine bodyPost_ret (v := .agg (ddC qz29).toArray) ?_ rfl ⟨by rw [hd.out], ?_⟩
 ·exact qz4 Tryz.results60 _ _ (w.heap.size + 1) 0 rfl (ddC qz29) _ (World.rangeAt_setCells_same _ _ _ _ F0) Tryz.underlying38 rfl (qz1m _)
 ·exact Below.setCells (by omega) _ _ _ K0
end
section
attribute [local go_sem ↓] Go.wp_at_zero Go.wp_at_succ
theorem qz81 (B : Nat) (A : Ar) (h : Hd) (a0 a1 a2 a3 : Option Addr) (c0 c1 c2 c3 : Nat) (w : World) (hB : B <= w.heap.size) (hA : A.size <= 1048576) (I : qzi B w (.slice a0 A.slots.length c0) (.slice a1 A.guides.length c1) (.slice a2 A.nodes.length c2) (.slice a3 A.vers.length c3) A) (hc0 : -1 <= h.curr) (hcu : h.curr < (A.nodes.length : Int)) (hn0 : -1 <= h.new_) :
  Calls Tryz.prog 110 #[.agg #[.int .i64 A.camera, .slice a0 A.slots.length c0, .slice a1 A.guides.length c1, .slice a2 A.nodes.length c2, .slice a3 A.vers.length c3], .agg (hdC h).toArray] w fun e w' => e = .returned (.agg (hdC (qzo A h)).toArray) /\ Below w.heap.size w w' := by
 have hA' := hA
 unfold Ar.size at hA
 have X0 := World.rangeAt_alloc (World.rangeAt_alloc (qz5 w [.int .i64 A.camera, .slice a0 A.slots.length c0, .slice a1 A.guides.length c1, .slice a2 A.nodes.length c2, .slice a3 A.vers.length c3] 35) (.cells (hdC h).toArray 36)) (.cells #[.int .i64 0, .int .i64 0, .int .i64 0, .int .i64 0, .int .i64 0, .int .i64 0, .int .i64 0, .int .i64 0, .int .i64 0, .int .i64 0, .int .i64 0, .int .i64 0, .int .i64 0, .int .i64 0, .int .i64 0, .int .i64 0, .int .i64 0, .int .i64 0, .int .i64 0, .int .i64 0, .int .i64 0, .int .i64 0] 36)
 have H0 := World.rangeAt_alloc (qz5 (w.alloc (.cells #[.int .i64 A.camera, .slice a0 A.slots.length c0, .slice a1 A.guides.length c1, .slice a2 A.nodes.length c2, .slice a3 A.vers.length c3] 35)) (hdC h) 36) (.cells #[.int .i64 0, .int .i64 0, .int .i64 0, .int .i64 0, .int .i64 0, .int .i64 0, .int .i64 0, .int .i64 0, .int .i64 0, .int .i64 0, .int .i64 0, .int .i64 0, .int .i64 0, .int .i64 0, .int .i64 0, .int .i64 0, .int .i64 0, .int .i64 0, .int .i64 0, .int .i64 0, .int .i64 0, .int .i64 0] 36)
 have G0 := World.there_alloc (qzf (w.alloc (.cells #[.int .i64 A.camera, .slice a0 A.slots.length c0, .slice a1 A.guides.length c1, .slice a2 A.nodes.length c2, .slice a3 A.vers.length c3] 35)) (hdC h).toArray 36 22 (by simp [hdC])) (.cells #[.int .i64 0, .int .i64 0, .int .i64 0, .int .i64 0, .int .i64 0, .int .i64 0, .int .i64 0, .int .i64 0, .int .i64 0, .int .i64 0, .int .i64 0, .int .i64 0, .int .i64 0, .int .i64 0, .int .i64 0, .int .i64 0, .int .i64 0, .int .i64 0, .int .i64 0, .int .i64 0, .int .i64 0, .int .i64 0] 36)
 have F0 := qzf ((w.alloc (.cells #[.int .i64 A.camera, .slice a0 A.slots.length c0, .slice a1 A.guides.length c1, .slice a2 A.nodes.length c2, .slice a3 A.vers.length c3] 35)).alloc (.cells (hdC h).toArray 36)) #[.int .i64 0, .int .i64 0, .int .i64 0, .int .i64 0, .int .i64 0, .int .i64 0, .int .i64 0, .int .i64 0, .int .i64 0, .int .i64 0, .int .i64 0, .int .i64 0, .int .i64 0, .int .i64 0, .int .i64 0, .int .i64 0, .int .i64 0, .int .i64 0, .int .i64 0, .int .i64 0, .int .i64 0, .int .i64 0] 36 22 (by decide)
 have K0 := ((((Below.refl w.heap.size w).alloc (Nat.le_refl _) (.cells #[.int .i64 A.camera, .slice a0 A.slots.length c0, .slice a1 A.guides.length c1, .slice a2 A.nodes.length c2, .slice a3 A.vers.length c3] 35)).alloc (by simp) (.cells (hdC h).toArray 36)).alloc (by simp <;> omega) (.cells #[.int .i64 0, .int .i64 0, .int .i64 0, .int .i64 0, .int .i64 0, .int .i64 0, .int .i64 0, .int .i64 0, .int .i64 0, .int .i64 0, .int .i64 0, .int .i64 0, .int .i64 0, .int .i64 0, .int .i64 0, .int .i64 0, .int .i64 0, .int .i64 0, .int .i64 0, .int .i64 0, .int .i64 0, .int .i64 0] 36))
 have hz0 : w.heap.size + 1 + 1 < (((w.alloc (.cells #[.int .i64 A.camera, .slice a0 A.slots.length c0, .slice a1 A.guides.length c1, .slice a2 A.nodes.length c2, .slice a3 A.vers.length c3] 35)).alloc (.cells (hdC h).toArray 36)).alloc (.cells #[.int .i64 0, .int .i64 0, .int .i64 0, .int .i64 0, .int .i64 0, .int .i64 0, .int .i64 0, .int .i64 0, .int .i64 0, .int .i64 0, .int .i64 0, .int .i64 0, .int .i64 0, .int .i64 0, .int .i64 0, .int .i64 0, .int .i64 0, .int .i64 0, .int .i64 0, .int .i64 0, .int .i64 0, .int .i64 0] 36)).heap.size := by simp
 simp only [World.size_alloc] at H0 G0 F0
 have I0 := I.below (K0.mono hB)
 go_enter Tryz.func110, Tryz.ntmps110
 go_wp2_with fail
 generalize hw0 : ((w.alloc (.cells #[.int .i64 A.camera, .slice a0 A.slots.length c0, .slice a1 A.guides.length c1, .slice a2 A.nodes.length c2, .slice a3 A.vers.length c3] 35)).alloc (.cells (hdC h).toArray 36)).alloc (.cells #[.int .i64 0, .int .i64 0, .int .i64 0, .int .i64 0, .int .i64 0, .int .i64 0, .int .i64 0, .int .i64 0, .int .i64 0, .int .i64 0, .int .i64 0, .int .i64 0, .int .i64 0, .int .i64 0, .int .i64 0, .int .i64 0, .int .i64 0, .int .i64 0, .int .i64 0, .int .i64 0, .int .i64 0, .int .i64 0] 36) = w0 at *
 clear hw0 I
 obtain ⟨x0, x1, x2, x3, x4⟩ := row5 X0
 have q2 : w0.cell? ⟨w.heap.size + 1, 2, none⟩ = some (.int .i64 h.code) := by simpa using H0 2 (.int .i64 h.code) rfl
 have q3 : w0.cell? ⟨w.heap.size + 1, 3, none⟩ = some (.int .i64 h.key) := by simpa using H0 3 (.int .i64 h.key) rfl
 have q16 : w0.cell? ⟨w.heap.size + 1, 16, none⟩ = some (.int .i64 h.curr) := by simpa using H0 16 (.int .i64 h.curr) rfl
 have q18 : w0.cell? ⟨w.heap.size + 1, 18, none⟩ = some (.int .i64 h.new_) := by simpa using H0 18 (.int .i64 h.new_) rfl
 by_cases hcm : h.curr = -1
 case pos =>
  rw [hcm] at q16
  go_quiet (fail)
  have X1 : (w0.drewN nq).rangeAt w.heap.size 0 [.int .i64 A.camera, .slice a0 A.slots.length c0, .slice a1 A.guides.length c1, .slice a2 A.nodes.length c2, .slice a3 A.vers.length c3] := X0
  have H1 : (w0.drewN nq).rangeAt (w.heap.size + 1) 0 (hdC h) := H0
  have F1 : (w0.drewN nq).there (w.heap.size + 1 + 1) 0 22 := F0
  have K1 : Below w.heap.size w (w0.drewN nq) := ⟨K0.os, K0.tape, K0.output, K0.size, K0.block⟩
  have hz1 : w.heap.size + 1 + 1 < (w0.drewN nq).heap.size := hz0
  have I1 : qzi B (w0.drewN nq) (.slice a0 A.slots.length c0) (.slice a1 A.guides.length c1) (.slice a2 A.nodes.length c2) (.slice a3 A.vers.length c3) A := I0.below ⟨rfl, rfl, rfl, Nat.le_refl _, fun _ _ => rfl⟩
  have y3 : (w0.drewN nq).cell? ⟨w.heap.size, 3, none⟩ = some (.slice a2 A.nodes.length c2) := x3
  have y2 : (w0.drewN nq).cell? ⟨w.heap.size + 1, 2, none⟩ = some (.int .i64 h.code) := q2
  have y16 : (w0.drewN nq).cell? ⟨w.heap.size + 1, 16, none⟩ = some (.int .i64 (-1)) := q16
  have y18 : (w0.drewN nq).cell? ⟨w.heap.size + 1, 18, none⟩ = some (.int .i64 h.new_) := q18
  generalize hw1 : w0.drewN nq = w1 at *
  clear hw1 X0 H0 F0 K0 I0 hz0 x0 x1 x2 x3 x4 q2 q3 q16 q18 G0
  by_cases k1 : h.code = 1
  case pos =>
   by_cases kn : h.new_ = -1
   ·obtain ⟨H', hH⟩ : ∃ H' : Hd, Hid (H' = h) := by exact ⟨_, rfl⟩
    have hv : Hid (qzo A h = qzw H' 7) := by show _ = _; rw [hH.out]; simp [qzo, qzw, hcm, k1, kn]
    go_upto_region 5 with (first | fail)
    go_wp2_with (first | (refine wpList_load_mid rfl 36 (.tmp 3) rfl (w.heap.size + 1) 0 ?hxln20 (hdC H') _ ?hcn20 Tryz.underlying36 rfl (qz1 H') ?_))
    try (case hxln20 => rfl)
    case hcn20 => rw [hH.out]; exact H1
    refine (qzr H' 7 _).mono ?_
    rintro e w9 ⟨rfl, b9⟩
    have F9 := qz3 F1 b9 (by first | omega | (simp; omega))
    have K9 := K1.trans (b9.mono (by first | omega | (simp; omega)))
    go_wp2_with (refine wpList_store_mid rfl 36 (.tmp 4) _ rfl (w.heap.size + 1 + 1) 0 (hdC (qzw H' 7)).toArray ?hxn20 ?hyn20 ?htn20 (qz8 _) (qzc _) ?_)
    try (case hxn20 => rfl)
    try (case hyn20 => rfl)
    case htn20 => exact F9
    refine bodyPost_ret (v := .agg (hdC (qzw H' 7)).toArray) ?_ rfl ⟨by rw [hv.out], ?_⟩
    ·exact qz4 Tryz.results110 _ _ (w.heap.size + 1 + 1) 0 rfl (hdC (qzw H' 7)) _ (World.rangeAt_setCells_same _ _ _ _ F9) Tryz.underlying36 rfl (qz1 _)
    ·exact Below.setCells (by omega) _ _ _ K9
   have bn : (h.new_ == -1) = false := by simp [kn]
   have kn' : 0 <= h.new_ := by omega
   obtain ⟨H', hH⟩ : ∃ H' : Hd, Hid (H' = h) := by exact ⟨_, rfl⟩
   have hv : Hid (qzo A h = qzw H' 8) := by show _ = _; rw [hH.out]; simp [qzo, qzw, hcm, k1, kn']
   go_upto_region 7 with (first | fail)
   go_wp2_with (first | (refine wpList_load_mid rfl 36 (.tmp 3) rfl (w.heap.size + 1) 0 ?hxln21 (hdC H') _ ?hcn21 Tryz.underlying36 rfl (qz1 H') ?_))
   try (case hxln21 => rfl)
   case hcn21 => rw [hH.out]; exact H1
   refine (qzr H' 8 _).mono ?_
   rintro e w9 ⟨rfl, b9⟩
   have F9 := qz3 F1 b9 (by first | omega | (simp; omega))
   have K9 := K1.trans (b9.mono (by first | omega | (simp; omega)))
   go_wp2_with (refine wpList_store_mid rfl 36 (.tmp 4) _ rfl (w.heap.size + 1 + 1) 0 (hdC (qzw H' 8)).toArray ?hxn21 ?hyn21 ?htn21 (qz8 _) (qzc _) ?_)
   try (case hxn21 => rfl)
   try (case hyn21 => rfl)
   case htn21 => exact F9
   refine bodyPost_ret (v := .agg (hdC (qzw H' 8)).toArray) ?_ rfl ⟨by rw [hv.out], ?_⟩
   ·exact qz4 Tryz.results110 _ _ (w.heap.size + 1 + 1) 0 rfl (hdC (qzw H' 8)) _ (World.rangeAt_setCells_same _ _ _ _ F9) Tryz.underlying36 rfl (qz1 _)
   ·exact Below.setCells (by omega) _ _ _ K9
  have b1 : (h.code == 1) = false := by simp [k1]
  by_cases k2 : h.code = 2
  ·obtain ⟨H', hH⟩ : ∃ H' : Hd, Hid (H' = h) := by exact ⟨_, rfl⟩
   have hv : Hid (qzo A h = qzb H' 3 0 0) := by show _ = _; rw [hH.out]; simp [qzo, hcm, k2]
   go_upto_region 11 with (first | fail)
   go_wp2_with (first | (refine wpList_load_mid rfl 36 (.tmp 3) rfl (w.heap.size + 1) 0 ?hxln22 (hdC H') _ ?hcn22 Tryz.underlying36 rfl (qz1 H') ?_))
   try (case hxln22 => rfl)
   case hcn22 => rw [hH.out]; exact H1
   refine (qz16 H' 3 0 0 _).mono ?_
   rintro e w9 ⟨rfl, b9⟩
   have F9 := qz3 F1 b9 (by first | omega | (simp; omega))
   have K9 := K1.trans (b9.mono (by first | omega | (simp; omega)))
   go_wp2_with (refine wpList_store_mid rfl 36 (.tmp 4) _ rfl (w.heap.size + 1 + 1) 0 (hdC (qzb H' 3 0 0)).toArray ?hxn22 ?hyn22 ?htn22 (qz8 _) (qzc _) ?_)
   try (case hxn22 => rfl)
   try (case hyn22 => rfl)
   case htn22 => exact F9
   refine bodyPost_ret (v := .agg (hdC (qzb H' 3 0 0)).toArray) ?_ rfl ⟨by rw [hv.out], ?_⟩
   ·exact qz4 Tryz.results110 _ _ (w.heap.size + 1 + 1) 0 rfl (hdC (qzb H' 3 0 0)) _ (World.rangeAt_setCells_same _ _ _ _ F9) Tryz.underlying36 rfl (qz1 _)
   ·exact Below.setCells (by omega) _ _ _ K9
  have b2 : (h.code == 2) = false := by simp [k2]
  by_cases k3 : h.code = 3
  ·obtain ⟨H', hH⟩ : ∃ H' : Hd, Hid (H' = h) := by exact ⟨_, rfl⟩
   have hv : Hid (qzo A h = qzb H' 3 0 0) := by show _ = _; rw [hH.out]; simp [qzo, hcm, k3]
   go_upto_region 11 with (first | fail)
   go_wp2_with (first | (refine wpList_load_mid rfl 36 (.tmp 3) rfl (w.heap.size + 1) 0 ?hxln23 (hdC H') _ ?hcn23 Tryz.underlying36 rfl (qz1 H') ?_))
   try (case hxln23 => rfl)
   case hcn23 => rw [hH.out]; exact H1
   refine (qz16 H' 3 0 0 _).mono ?_
   rintro e w9 ⟨rfl, b9⟩
   have F9 := qz3 F1 b9 (by first | omega | (simp; omega))
   have K9 := K1.trans (b9.mono (by first | omega | (simp; omega)))
   go_wp2_with (refine wpList_store_mid rfl 36 (.tmp 4) _ rfl (w.heap.size + 1 + 1) 0 (hdC (qzb H' 3 0 0)).toArray ?hxn23 ?hyn23 ?htn23 (qz8 _) (qzc _) ?_)
   try (case hxn23 => rfl)
   try (case hyn23 => rfl)
   case htn23 => exact F9
   refine bodyPost_ret (v := .agg (hdC (qzb H' 3 0 0)).toArray) ?_ rfl ⟨by rw [hv.out], ?_⟩
   ·exact qz4 Tryz.results110 _ _ (w.heap.size + 1 + 1) 0 rfl (hdC (qzb H' 3 0 0)) _ (World.rangeAt_setCells_same _ _ _ _ F9) Tryz.underlying36 rfl (qz1 _)
   ·exact Below.setCells (by omega) _ _ _ K9
  have b3 : (h.code == 3) = false := by simp [k3]
  obtain ⟨H', hH⟩ : ∃ H' : Hd, Hid (H' = h) := by exact ⟨_, rfl⟩
  have hv : Hid (qzo A h = qzw H' 0) := by show _ = _; rw [hH.out]; simp [qzo, qzw, k1, k2, k3]
  go_upto_region 12 with (first | fail)
  go_wp2_with (first | (refine wpList_load_mid rfl 36 (.tmp 3) rfl (w.heap.size + 1) 0 ?hxln24 (hdC H') _ ?hcn24 Tryz.underlying36 rfl (qz1 H') ?_))
  try (case hxln24 => rfl)
  case hcn24 => rw [hH.out]; exact H1
  refine (qzr H' 0 _).mono ?_
  rintro e w9 ⟨rfl, b9⟩
  have F9 := qz3 F1 b9 (by first | omega | (simp; omega))
  have K9 := K1.trans (b9.mono (by first | omega | (simp; omega)))
  go_wp2_with (refine wpList_store_mid rfl 36 (.tmp 4) _ rfl (w.heap.size + 1 + 1) 0 (hdC (qzw H' 0)).toArray ?hxn24 ?hyn24 ?htn24 (qz8 _) (qzc _) ?_)
  try (case hxn24 => rfl)
  try (case hyn24 => rfl)
  case htn24 => exact F9
  refine bodyPost_ret (v := .agg (hdC (qzw H' 0)).toArray) ?_ rfl ⟨by rw [hv.out], ?_⟩
  ·exact qz4 Tryz.results110 _ _ (w.heap.size + 1 + 1) 0 rfl (hdC (qzw H' 0)) _ (World.rangeAt_setCells_same _ _ _ _ F9) Tryz.underlying36 rfl (qz1 _)
  ·exact Below.setCells (by omega) _ _ _ K9
 obtain ⟨m, hcm⟩ : ∃ m : Nat, h.curr = m := ⟨h.curr.toNat, by omega⟩
 have hm : m < A.nodes.length := by omega
 have hm' : (m : Int) < (A.nodes.length : Int) := by omega
 have hm0 : (0 : Int) <= (m : Int) := by omega
 have bm : ((m : Int) != -1) = true := by simp <;> omega
 have bm' : ((m : Int) == -1) = false := by simp <;> omega
 rw [hcm] at q16
 obtain ⟨bb, off, rfl, hbb, R⟩ := qzh.at I0.n (by omega)
 have z0 : w0.cell? ⟨bb, off + m * 3 + 0, none⟩ = some (.int .i64 A.nodes[m].key) := (qza (sz := 3) (fun _ => rfl) R m hm) 0 _ rfl
 have z1 : w0.cell? ⟨bb, off + m * 3 + 1, none⟩ = some (.int .i64 A.nodes[m].value) := (qza (sz := 3) (fun _ => rfl) R m hm) 1 _ rfl
 simp only [Nat.add_zero] at z0
 clear R
 by_cases hkey : A.nodes[m].key = h.key
 case neg =>
  have bk : (A.nodes[m].key == h.key) = false := by simp [hkey]
  go_quiet (fail)
  have X1 : (w0.drewN nq).rangeAt w.heap.size 0 [.int .i64 A.camera, .slice a0 A.slots.length c0, .slice a1 A.guides.length c1, .slice (some ⟨bb, off, none⟩) A.nodes.length c2, .slice a3 A.vers.length c3] := X0
  have H1 : (w0.drewN nq).rangeAt (w.heap.size + 1) 0 (hdC h) := H0
  have F1 : (w0.drewN nq).there (w.heap.size + 1 + 1) 0 22 := F0
  have K1 : Below w.heap.size w (w0.drewN nq) := ⟨K0.os, K0.tape, K0.output, K0.size, K0.block⟩
  have hz1 : w.heap.size + 1 + 1 < (w0.drewN nq).heap.size := hz0
  have I1 : qzi B (w0.drewN nq) (.slice a0 A.slots.length c0) (.slice a1 A.guides.length c1) (.slice (some ⟨bb, off, none⟩) A.nodes.length c2) (.slice a3 A.vers.length c3) A := I0.below ⟨rfl, rfl, rfl, Nat.le_refl _, fun _ _ => rfl⟩
  have y3 : (w0.drewN nq).cell? ⟨w.heap.size, 3, none⟩ = some (.slice (some ⟨bb, off, none⟩) A.nodes.length c2) := x3
  have y2 : (w0.drewN nq).cell? ⟨w.heap.size + 1, 2, none⟩ = some (.int .i64 h.code) := q2
  have y16 : (w0.drewN nq).cell? ⟨w.heap.size + 1, 16, none⟩ = some (.int .i64 m) := q16
  have y18 : (w0.drewN nq).cell? ⟨w.heap.size + 1, 18, none⟩ = some (.int .i64 h.new_) := q18
  have y1 : (w0.drewN nq).cell? ⟨bb, off + m * 3 + 1, none⟩ = some (.int .i64 A.nodes[m].value) := z1
  generalize hw1 : w0.drewN nq = w1 at *
  clear hw1 X0 H0 F0 K0 I0 hz0 x0 x1 x2 x3 x4 q2 q3 q16 q18 G0 z0 z1
  by_cases k1 : h.code = 1
  case pos =>
   by_cases kn : h.new_ = -1
   ·obtain ⟨H', hH⟩ : ∃ H' : Hd, Hid (H' = h) := by exact ⟨_, rfl⟩
    have hv : Hid (qzo A h = qzw H' 7) := by show _ = _; rw [hH.out]; simp [qzo, qzw, hcm, qzs A m hm, hkey, k1, kn]
    go_upto_region 5 with (first | fail)
    go_wp2_with (first | (refine wpList_load_mid rfl 36 (.tmp 3) rfl (w.heap.size + 1) 0 ?hxln25 (hdC H') _ ?hcn25 Tryz.underlying36 rfl (qz1 H') ?_))
    try (case hxln25 => rfl)
    case hcn25 => rw [hH.out]; exact H1
    refine (qzr H' 7 _).mono ?_
    rintro e w9 ⟨rfl, b9⟩
    have F9 := qz3 F1 b9 (by first | omega | (simp; omega))
    have K9 := K1.trans (b9.mono (by first | omega | (simp; omega)))
    go_wp2_with (refine wpList_store_mid rfl 36 (.tmp 4) _ rfl (w.heap.size + 1 + 1) 0 (hdC (qzw H' 7)).toArray ?hxn25 ?hyn25 ?htn25 (qz8 _) (qzc _) ?_)
    try (case hxn25 => rfl)
    try (case hyn25 => rfl)
    case htn25 => exact F9
    refine bodyPost_ret (v := .agg (hdC (qzw H' 7)).toArray) ?_ rfl ⟨by rw [hv.out], ?_⟩
    ·exact qz4 Tryz.results110 _ _ (w.heap.size + 1 + 1) 0 rfl (hdC (qzw H' 7)) _ (World.rangeAt_setCells_same _ _ _ _ F9) Tryz.underlying36 rfl (qz1 _)
    ·exact Below.setCells (by omega) _ _ _ K9
   have bn : (h.new_ == -1) = false := by simp [kn]
   have kn' : 0 <= h.new_ := by omega
   obtain ⟨H', hH⟩ : ∃ H' : Hd, Hid (H' = h) := by exact ⟨_, rfl⟩
   have hv : Hid (qzo A h = qzw H' 8) := by show _ = _; rw [hH.out]; simp [qzo, qzw, hcm, qzs A m hm, hkey, k1, kn']
   go_upto_region 7 with (first | fail)
   go_wp2_with (first | (refine wpList_load_mid rfl 36 (.tmp 3) rfl (w.heap.size + 1) 0 ?hxln26 (hdC H') _ ?hcn26 Tryz.underlying36 rfl (qz1 H') ?_))
   try (case hxln26 => rfl)
   case hcn26 => rw [hH.out]; exact H1
   refine (qzr H' 8 _).mono ?_
   rintro e w9 ⟨rfl, b9⟩
   have F9 := qz3 F1 b9 (by first | omega | (simp; omega))
   have K9 := K1.trans (b9.mono (by first | omega | (simp; omega)))
   go_wp2_with (refine wpList_store_mid rfl 36 (.tmp 4) _ rfl (w.heap.size + 1 + 1) 0 (hdC (qzw H' 8)).toArray ?hxn26 ?hyn26 ?htn26 (qz8 _) (qzc _) ?_)
   try (case hxn26 => rfl)
   try (case hyn26 => rfl)
   case htn26 => exact F9
   refine bodyPost_ret (v := .agg (hdC (qzw H' 8)).toArray) ?_ rfl ⟨by rw [hv.out], ?_⟩
   ·exact qz4 Tryz.results110 _ _ (w.heap.size + 1 + 1) 0 rfl (hdC (qzw H' 8)) _ (World.rangeAt_setCells_same _ _ _ _ F9) Tryz.underlying36 rfl (qz1 _)
   ·exact Below.setCells (by omega) _ _ _ K9
  have b1 : (h.code == 1) = false := by simp [k1]
  by_cases k2 : h.code = 2
  ·obtain ⟨H', hH⟩ : ∃ H' : Hd, Hid (H' = h) := by exact ⟨_, rfl⟩
   have hv : Hid (qzo A h = qzb H' 3 0 0) := by show _ = _; rw [hH.out]; simp [qzo, hcm, qzs A m hm, hkey, k2]
   go_upto_region 11 with (first | fail)
   go_wp2_with (first | (refine wpList_load_mid rfl 36 (.tmp 3) rfl (w.heap.size + 1) 0 ?hxln27 (hdC H') _ ?hcn27 Tryz.underlying36 rfl (qz1 H') ?_))
   try (case hxln27 => rfl)
   case hcn27 => rw [hH.out]; exact H1
   refine (qz16 H' 3 0 0 _).mono ?_
   rintro e w9 ⟨rfl, b9⟩
   have F9 := qz3 F1 b9 (by first | omega | (simp; omega))
   have K9 := K1.trans (b9.mono (by first | omega | (simp; omega)))
   go_wp2_with (refine wpList_store_mid rfl 36 (.tmp 4) _ rfl (w.heap.size + 1 + 1) 0 (hdC (qzb H' 3 0 0)).toArray ?hxn27 ?hyn27 ?htn27 (qz8 _) (qzc _) ?_)
   try (case hxn27 => rfl)
   try (case hyn27 => rfl)
   case htn27 => exact F9
   refine bodyPost_ret (v := .agg (hdC (qzb H' 3 0 0)).toArray) ?_ rfl ⟨by rw [hv.out], ?_⟩
   ·exact qz4 Tryz.results110 _ _ (w.heap.size + 1 + 1) 0 rfl (hdC (qzb H' 3 0 0)) _ (World.rangeAt_setCells_same _ _ _ _ F9) Tryz.underlying36 rfl (qz1 _)
   ·exact Below.setCells (by omega) _ _ _ K9
  have b2 : (h.code == 2) = false := by simp [k2]
  by_cases k3 : h.code = 3
  ·obtain ⟨H', hH⟩ : ∃ H' : Hd, Hid (H' = h) := by exact ⟨_, rfl⟩
   have hv : Hid (qzo A h = qzb H' 3 0 0) := by show _ = _; rw [hH.out]; simp [qzo, hcm, qzs A m hm, hkey, k3]
   go_upto_region 11 with (first | fail)
   go_wp2_with (first | (refine wpList_load_mid rfl 36 (.tmp 3) rfl (w.heap.size + 1) 0 ?hxln28 (hdC H') _ ?hcn28 Tryz.underlying36 rfl (qz1 H') ?_))
   try (case hxln28 => rfl)
   case hcn28 => rw [hH.out]; exact H1
   refine (qz16 H' 3 0 0 _).mono ?_
   rintro e w9 ⟨rfl, b9⟩
   have F9 := qz3 F1 b9 (by first | omega | (simp; omega))
   have K9 := K1.trans (b9.mono (by first | omega | (simp; omega)))
   go_wp2_with (refine wpList_store_mid rfl 36 (.tmp 4) _ rfl (w.heap.size + 1 + 1) 0 (hdC (qzb H' 3 0 0)).toArray ?hxn28 ?hyn28 ?htn28 (qz8 _) (qzc _) ?_)
   try (case hxn28 => rfl)
   try (case hyn28 => rfl)
   case htn28 => exact F9
   refine bodyPost_ret (v := .agg (hdC (qzb H' 3 0 0)).toArray) ?_ rfl ⟨by rw [hv.out], ?_⟩
   ·exact qz4 Tryz.results110 _ _ (w.heap.size + 1 + 1) 0 rfl (hdC (qzb H' 3 0 0)) _ (World.rangeAt_setCells_same _ _ _ _ F9) Tryz.underlying36 rfl (qz1 _)
   ·exact Below.setCells (by omega) _ _ _ K9
  have b3 : (h.code == 3) = false := by simp [k3]
  obtain ⟨H', hH⟩ : ∃ H' : Hd, Hid (H' = h) := by exact ⟨_, rfl⟩
  have hv : Hid (qzo A h = qzw H' 0) := by show _ = _; rw [hH.out]; simp [qzo, qzw, k1, k2, k3]
  go_upto_region 12 with (first | fail)
  go_wp2_with (first | (refine wpList_load_mid rfl 36 (.tmp 3) rfl (w.heap.size + 1) 0 ?hxln29 (hdC H') _ ?hcn29 Tryz.underlying36 rfl (qz1 H') ?_))
  try (case hxln29 => rfl)
  case hcn29 => rw [hH.out]; exact H1
  refine (qzr H' 0 _).mono ?_
  rintro e w9 ⟨rfl, b9⟩
  have F9 := qz3 F1 b9 (by first | omega | (simp; omega))
  have K9 := K1.trans (b9.mono (by first | omega | (simp; omega)))
  go_wp2_with (refine wpList_store_mid rfl 36 (.tmp 4) _ rfl (w.heap.size + 1 + 1) 0 (hdC (qzw H' 0)).toArray ?hxn29 ?hyn29 ?htn29 (qz8 _) (qzc _) ?_)
  try (case hxn29 => rfl)
  try (case hyn29 => rfl)
  case htn29 => exact F9
  refine bodyPost_ret (v := .agg (hdC (qzw H' 0)).toArray) ?_ rfl ⟨by rw [hv.out], ?_⟩
  ·exact qz4 Tryz.results110 _ _ (w.heap.size + 1 + 1) 0 rfl (hdC (qzw H' 0)) _ (World.rangeAt_setCells_same _ _ _ _ F9) Tryz.underlying36 rfl (qz1 _)
  ·exact Below.setCells (by omega) _ _ _ K9
 go_quiet (fail)
 have X1 : (w0.drewN nq).rangeAt w.heap.size 0 [.int .i64 A.camera, .slice a0 A.slots.length c0, .slice a1 A.guides.length c1, .slice (some ⟨bb, off, none⟩) A.nodes.length c2, .slice a3 A.vers.length c3] := X0
 have H1 : (w0.drewN nq).rangeAt (w.heap.size + 1) 0 (hdC h) := H0
 have F1 : (w0.drewN nq).there (w.heap.size + 1 + 1) 0 22 := F0
 have K1 : Below w.heap.size w (w0.drewN nq) := ⟨K0.os, K0.tape, K0.output, K0.size, K0.block⟩
 have hz1 : w.heap.size + 1 + 1 < (w0.drewN nq).heap.size := hz0
 have I1 : qzi B (w0.drewN nq) (.slice a0 A.slots.length c0) (.slice a1 A.guides.length c1) (.slice (some ⟨bb, off, none⟩) A.nodes.length c2) (.slice a3 A.vers.length c3) A := I0.below ⟨rfl, rfl, rfl, Nat.le_refl _, fun _ _ => rfl⟩
 have y3 : (w0.drewN nq).cell? ⟨w.heap.size, 3, none⟩ = some (.slice (some ⟨bb, off, none⟩) A.nodes.length c2) := x3
 have y2 : (w0.drewN nq).cell? ⟨w.heap.size + 1, 2, none⟩ = some (.int .i64 h.code) := q2
 have y16 : (w0.drewN nq).cell? ⟨w.heap.size + 1, 16, none⟩ = some (.int .i64 m) := q16
 have y18 : (w0.drewN nq).cell? ⟨w.heap.size + 1, 18, none⟩ = some (.int .i64 h.new_) := q18
 have y1 : (w0.drewN nq).cell? ⟨bb, off + m * 3 + 1, none⟩ = some (.int .i64 A.nodes[m].value) := z1
 generalize hw1 : w0.drewN nq = w1 at *
 clear hw1 X0 H0 F0 K0 I0 hz0 x0 x1 x2 x3 x4 q2 q3 q16 q18 G0 z0 z1
 by_cases k3 : h.code = 3
 ·have hv : Hid (qzo A h = (qzb h 2 A.nodes[m].value 0)) := by show _ = _; simp [qzo, hcm, k3, qzs A m hm, hkey]
  go_wp2_with fail
  refine qzz 8 (by kernel_rfl) (by kernel_rfl) ?_
  simp only [List.take_succ_cons, List.take_zero, List.drop_succ_cons, List.drop_zero]
  repeat (first | (refine qz18 rfl 36 (.tmp 3) rfl (w.heap.size + 1) 0 ?s30x0 (hdC h) _ ?s30c0 Tryz.underlying36 rfl (qz1 _) ?_; (case s30x0 => rfl); (case s30c0 => rintro _ ⟨m, rfl⟩; exact H1)) | (quiet_step (fail)))
  refine wpQuiet_nil ?_
  rintro _ ⟨nr, rfl⟩
  go_wp2_with fail
  refine (qz16 h 2 A.nodes[m].value 0 _).mono ?_
  rintro e w2 ⟨rfl, b2⟩
  have F2 := qz3 F1 (b := w.heap.size + 1 + 1) (B := w1.heap.size) (w' := w2) ⟨b2.os, b2.tape, b2.output, b2.size, b2.block⟩ (by omega)
  have K2 : Below w.heap.size w w2 := K1.trans (b := w1) ⟨b2.os, b2.tape, b2.output, b2.size, fun k hk => b2.block k (by show k < w1.heap.size; omega)⟩
  go_wp2_with (refine wpList_store_mid rfl 36 (.tmp 4) _ rfl (w.heap.size + 1 + 1) 0 (hdC (qzb h 2 A.nodes[m].value 0)).toArray ?hxn31 ?hyn31 ?htn31 (qz8 (qzb h 2 A.nodes[m].value 0)) (qzc (qzb h 2 A.nodes[m].value 0)) ?_)
  try (case hxn31 => rfl)
  try (case hyn31 => rfl)
  case htn31 => exact F2
  refine bodyPost_ret (v := .agg (hdC (qzb h 2 A.nodes[m].value 0)).toArray) ?_ rfl ⟨by rw [hv.out], ?_⟩
  ·exact qz4 Tryz.results110 _ _ (w.heap.size + 1 + 1) 0 rfl (hdC (qzb h 2 A.nodes[m].value 0)) _ (World.rangeAt_setCells_same _ _ _ _ F2) Tryz.underlying36 rfl (qz1 _)
  ·exact Below.setCells (by omega) _ _ _ K2
 have b3 : (h.code == 3) = false := by simp [k3]
 by_cases k1 : h.code = 1
 ·have hv : Hid (qzo A h = (qzb h 2 A.nodes[m].value 0)) := by show _ = _; simp [qzo, hcm, k1, qzs A m hm, hkey]
  go_wp2_with fail
  refine qzz 8 (by kernel_rfl) (by kernel_rfl) ?_
  simp only [List.take_succ_cons, List.take_zero, List.drop_succ_cons, List.drop_zero]
  repeat (first | (refine qz18 rfl 36 (.tmp 3) rfl (w.heap.size + 1) 0 ?s32x0 (hdC h) _ ?s32c0 Tryz.underlying36 rfl (qz1 _) ?_; (case s32x0 => rfl); (case s32c0 => rintro _ ⟨m, rfl⟩; exact H1)) | (quiet_step (fail)))
  refine wpQuiet_nil ?_
  rintro _ ⟨nr, rfl⟩
  go_wp2_with fail
  refine (qz16 h 2 A.nodes[m].value 0 _).mono ?_
  rintro e w2 ⟨rfl, b2⟩
  have F2 := qz3 F1 (b := w.heap.size + 1 + 1) (B := w1.heap.size) (w' := w2) ⟨b2.os, b2.tape, b2.output, b2.size, b2.block⟩ (by omega)
  have K2 : Below w.heap.size w w2 := K1.trans (b := w1) ⟨b2.os, b2.tape, b2.output, b2.size, fun k hk => b2.block k (by show k < w1.heap.size; omega)⟩
  go_wp2_with (refine wpList_store_mid rfl 36 (.tmp 4) _ rfl (w.heap.size + 1 + 1) 0 (hdC (qzb h 2 A.nodes[m].value 0)).toArray ?hxn33 ?hyn33 ?htn33 (qz8 (qzb h 2 A.nodes[m].value 0)) (qzc (qzb h 2 A.nodes[m].value 0)) ?_)
  try (case hxn33 => rfl)
  try (case hyn33 => rfl)
  case htn33 => exact F2
  refine bodyPost_ret (v := .agg (hdC (qzb h 2 A.nodes[m].value 0)).toArray) ?_ rfl ⟨by rw [hv.out], ?_⟩
  ·exact qz4 Tryz.results110 _ _ (w.heap.size + 1 + 1) 0 rfl (hdC (qzb h 2 A.nodes[m].value 0)) _ (World.rangeAt_setCells_same _ _ _ _ F2) Tryz.underlying36 rfl (qz1 _)
  ·exact Below.setCells (by omega) _ _ _ K2
 have b1 : (h.code == 1) = false := by simp [k1]
 by_cases k2 : h.code = 2
 ·obtain ⟨H', hH⟩ : ∃ H' : Hd, Hid (H' = h) := by exact ⟨_, rfl⟩
  have hv : Hid (qzo A h = qzw H' 11) := by show _ = _; rw [hH.out]; simp [qzo, qzw, hcm, k2, qzs A m hm, hkey]
  go_upto_region 9 with (first | fail)
  go_wp2_with (first | (refine wpList_load_mid rfl 36 (.tmp 3) rfl (w.heap.size + 1) 0 ?hxln34 (hdC H') _ ?hcn34 Tryz.underlying36 rfl (qz1 H') ?_))
  try (case hxln34 => rfl)
  case hcn34 => rw [hH.out]; exact H1
  refine (qzr H' 11 _).mono ?_
  rintro e w9 ⟨rfl, b9⟩
  have F9 := qz3 F1 b9 (by first | omega | (simp; omega))
  have K9 := K1.trans (b9.mono (by first | omega | (simp; omega)))
  go_wp2_with (refine wpList_store_mid rfl 36 (.tmp 4) _ rfl (w.heap.size + 1 + 1) 0 (hdC (qzw H' 11)).toArray ?hxn34 ?hyn34 ?htn34 (qz8 _) (qzc _) ?_)
  try (case hxn34 => rfl)
  try (case hyn34 => rfl)
  case htn34 => exact F9
  refine bodyPost_ret (v := .agg (hdC (qzw H' 11)).toArray) ?_ rfl ⟨by rw [hv.out], ?_⟩
  ·exact qz4 Tryz.results110 _ _ (w.heap.size + 1 + 1) 0 rfl (hdC (qzw H' 11)) _ (World.rangeAt_setCells_same _ _ _ _ F9) Tryz.underlying36 rfl (qz1 _)
  ·exact Below.setCells (by omega) _ _ _ K9
 have b2 : (h.code == 2) = false := by simp [k2]
 obtain ⟨H', hH⟩ : ∃ H' : Hd, Hid (H' = h) := by exact ⟨_, rfl⟩
 have hv : Hid (qzo A h = qzw H' 0) := by show _ = _; rw [hH.out]; simp [qzo, qzw, k1, k2, k3]
 go_upto_region 12 with (first | fail)
 go_wp2_with (first | (refine wpList_load_mid rfl 36 (.tmp 3) rfl (w.heap.size + 1) 0 ?hxln35 (hdC H') _ ?hcn35 Tryz.underlying36 rfl (qz1 H') ?_))
 try (case hxln35 => rfl)
 case hcn35 => rw [hH.out]; exact H1
 refine (qzr H' 0 _).mono ?_
 rintro e w9 ⟨rfl, b9⟩
 have F9 := qz3 F1 b9 (by first | omega | (simp; omega))
 have K9 := K1.trans (b9.mono (by first | omega | (simp; omega)))
 go_wp2_with (refine wpList_store_mid rfl 36 (.tmp 4) _ rfl (w.heap.size + 1 + 1) 0 (hdC (qzw H' 0)).toArray ?hxn35 ?hyn35 ?htn35 (qz8 _) (qzc _) ?_)
 try (case hxn35 => rfl)
 try (case hyn35 => rfl)
 case htn35 => exact F9
 refine bodyPost_ret (v := .agg (hdC (qzw H' 0)).toArray) ?_ rfl ⟨by rw [hv.out], ?_⟩
 ·exact qz4 Tryz.results110 _ _ (w.heap.size + 1 + 1) 0 rfl (hdC (qzw H' 0)) _ (World.rangeAt_setCells_same _ _ _ _ F9) Tryz.underlying36 rfl (qz1 _)
 ·exact Below.setCells (by omega) _ _ _ K9
end
section
attribute [local go_sem ↓] Go.wp_at_zero Go.wp_at_succ
theorem qz42 (B : Nat) (A : Ar) (h : Hd) (n : Int) (a0 a1 a2 a3 : Option Addr) (c0 c1 c2 c3 : Nat) (w : World) (hB : B <= w.heap.size) (hA : A.size <= 1048576) (I : qzi B w (.slice a0 A.slots.length c0) (.slice a1 A.guides.length c1) (.slice a2 A.nodes.length c2) (.slice a3 A.vers.length c3) A) (hn0 : -1 <= h.new_) :
  Calls Tryz.prog 109 #[.agg #[.int .i64 A.camera, .slice a0 A.slots.length c0, .slice a1 A.guides.length c1, .slice a2 A.nodes.length c2, .slice a3 A.vers.length c3], .agg (hdC h).toArray, .int .i64 n] w fun e w' => e = .returned (.agg (hdC (qz2f A h n)).toArray) /\ Below w.heap.size w w' := by
 have hA' := hA
 unfold Ar.size at hA
 have X0 := World.rangeAt_alloc (World.rangeAt_alloc (qz5 w [.int .i64 A.camera, .slice a0 A.slots.length c0, .slice a1 A.guides.length c1, .slice a2 A.nodes.length c2, .slice a3 A.vers.length c3] 35) (.cells (hdC h).toArray 36)) (.cells #[.int .i64 0, .int .i64 0, .int .i64 0, .int .i64 0, .int .i64 0, .int .i64 0, .int .i64 0, .int .i64 0, .int .i64 0, .int .i64 0, .int .i64 0, .int .i64 0, .int .i64 0, .int .i64 0, .int .i64 0, .int .i64 0, .int .i64 0, .int .i64 0, .int .i64 0, .int .i64 0, .int .i64 0, .int .i64 0] 36)
 have H0 := World.rangeAt_alloc (qz5 (w.alloc (.cells #[.int .i64 A.camera, .slice a0 A.slots.length c0, .slice a1 A.guides.length c1, .slice a2 A.nodes.length c2, .slice a3 A.vers.length c3] 35)) (hdC h) 36) (.cells #[.int .i64 0, .int .i64 0, .int .i64 0, .int .i64 0, .int .i64 0, .int .i64 0, .int .i64 0, .int .i64 0, .int .i64 0, .int .i64 0, .int .i64 0, .int .i64 0, .int .i64 0, .int .i64 0, .int .i64 0, .int .i64 0, .int .i64 0, .int .i64 0, .int .i64 0, .int .i64 0, .int .i64 0, .int .i64 0] 36)
 have G0 := World.there_alloc (qzf (w.alloc (.cells #[.int .i64 A.camera, .slice a0 A.slots.length c0, .slice a1 A.guides.length c1, .slice a2 A.nodes.length c2, .slice a3 A.vers.length c3] 35)) (hdC h).toArray 36 22 (by simp [hdC])) (.cells #[.int .i64 0, .int .i64 0, .int .i64 0, .int .i64 0, .int .i64 0, .int .i64 0, .int .i64 0, .int .i64 0, .int .i64 0, .int .i64 0, .int .i64 0, .int .i64 0, .int .i64 0, .int .i64 0, .int .i64 0, .int .i64 0, .int .i64 0, .int .i64 0, .int .i64 0, .int .i64 0, .int .i64 0, .int .i64 0] 36)
 have F0 := qzf ((w.alloc (.cells #[.int .i64 A.camera, .slice a0 A.slots.length c0, .slice a1 A.guides.length c1, .slice a2 A.nodes.length c2, .slice a3 A.vers.length c3] 35)).alloc (.cells (hdC h).toArray 36)) #[.int .i64 0, .int .i64 0, .int .i64 0, .int .i64 0, .int .i64 0, .int .i64 0, .int .i64 0, .int .i64 0, .int .i64 0, .int .i64 0, .int .i64 0, .int .i64 0, .int .i64 0, .int .i64 0, .int .i64 0, .int .i64 0, .int .i64 0, .int .i64 0, .int .i64 0, .int .i64 0, .int .i64 0, .int .i64 0] 36 22 (by decide)
 have K0 := ((((Below.refl w.heap.size w).alloc (Nat.le_refl _) (.cells #[.int .i64 A.camera, .slice a0 A.slots.length c0, .slice a1 A.guides.length c1, .slice a2 A.nodes.length c2, .slice a3 A.vers.length c3] 35)).alloc (by simp) (.cells (hdC h).toArray 36)).alloc (by simp <;> omega) (.cells #[.int .i64 0, .int .i64 0, .int .i64 0, .int .i64 0, .int .i64 0, .int .i64 0, .int .i64 0, .int .i64 0, .int .i64 0, .int .i64 0, .int .i64 0, .int .i64 0, .int .i64 0, .int .i64 0, .int .i64 0, .int .i64 0, .int .i64 0, .int .i64 0, .int .i64 0, .int .i64 0, .int .i64 0, .int .i64 0] 36))
 have hz0 : w.heap.size + 1 + 1 < (((w.alloc (.cells #[.int .i64 A.camera, .slice a0 A.slots.length c0, .slice a1 A.guides.length c1, .slice a2 A.nodes.length c2, .slice a3 A.vers.length c3] 35)).alloc (.cells (hdC h).toArray 36)).alloc (.cells #[.int .i64 0, .int .i64 0, .int .i64 0, .int .i64 0, .int .i64 0, .int .i64 0, .int .i64 0, .int .i64 0, .int .i64 0, .int .i64 0, .int .i64 0, .int .i64 0, .int .i64 0, .int .i64 0, .int .i64 0, .int .i64 0, .int .i64 0, .int .i64 0, .int .i64 0, .int .i64 0, .int .i64 0, .int .i64 0] 36)).heap.size := by simp
 simp only [World.size_alloc] at H0 G0 F0
 have I0 := I.below (K0.mono hB)
 go_enter Tryz.func109, Tryz.ntmps109
 have tok : True := trivial
 go_wp2_with (clear tok; refine qz24 (((w.alloc (.cells #[.int .i64 A.camera, .slice a0 A.slots.length c0, .slice a1 A.guides.length c1, .slice a2 A.nodes.length c2, .slice a3 A.vers.length c3] 35)).alloc (.cells (hdC h).toArray 36)).alloc (.cells #[.int .i64 0, .int .i64 0, .int .i64 0, .int .i64 0, .int .i64 0, .int .i64 0, .int .i64 0, .int .i64 0, .int .i64 0, .int .i64 0, .int .i64 0, .int .i64 0, .int .i64 0, .int .i64 0, .int .i64 0, .int .i64 0, .int .i64 0, .int .i64 0, .int .i64 0, .int .i64 0, .int .i64 0, .int .i64 0] 36)) ?_)
 generalize hw0 : ((w.alloc (.cells #[.int .i64 A.camera, .slice a0 A.slots.length c0, .slice a1 A.guides.length c1, .slice a2 A.nodes.length c2, .slice a3 A.vers.length c3] 35)).alloc (.cells (hdC h).toArray 36)).alloc (.cells #[.int .i64 0, .int .i64 0, .int .i64 0, .int .i64 0, .int .i64 0, .int .i64 0, .int .i64 0, .int .i64 0, .int .i64 0, .int .i64 0, .int .i64 0, .int .i64 0, .int .i64 0, .int .i64 0, .int .i64 0, .int .i64 0, .int .i64 0, .int .i64 0, .int .i64 0, .int .i64 0, .int .i64 0, .int .i64 0] 36) = w0 at *
 clear hw0 I
 show wpList _ _ _ _ _ w0
 obtain ⟨x0, x1, x2, x3, x4⟩ := row5 X0
 have q1 : w0.cell? ⟨w.heap.size + 1, 1, none⟩ = some (.int .i64 h.then_) := by simpa using H0 1 (.int .i64 h.then_) rfl
 have q10 : w0.cell? ⟨w.heap.size + 1, 10, none⟩ = some (.int .i64 h.x_) := by simpa using H0 10 (.int .i64 h.x_) rfl
 have q16 : w0.cell? ⟨w.heap.size + 1, 16, none⟩ = some (.int .i64 h.curr) := by simpa using H0 16 (.int .i64 h.curr) rfl
 have f1 : w0.frozen? ⟨w.heap.size + 1, 1, none⟩ = false := by simpa using (G0 1 (by decide)).2
 have f10 : w0.frozen? ⟨w.heap.size + 1, 10, none⟩ = false := by simpa using (G0 10 (by decide)).2
 have f16 : w0.frozen? ⟨w.heap.size + 1, 16, none⟩ = false := by simpa using (G0 16 (by decide)).2
 by_cases hn : n = -1
 ·subst hn
  obtain ⟨H', hH⟩ : ∃ H' : Hd, Hid (H' = { h with curr := -1 }) := by exact ⟨_, rfl⟩
  have hv : Hid (qz2f A h (-1) = qzo A H') := by show _ = _; rw [hH.out]; simp [qz2f]
  go_wp2_with (first | (refine wpList_load_mid rfl 36 (.tmp 4) rfl (w.heap.size + 1) 0 ?hxln36 (hdC H') _ ?hcn36 Tryz.underlying36 rfl (qz1 H') ?_))
  try (case hxln36 => rfl)
  case hcn36 => rw [hH.out]; exact (qz6 H0 16 (by simp [hdC]) _)
  refine (qz81 B A H' _ _ _ _ _ _ _ _ _ (by first | omega | (simp; omega)) hA' (I0.below (Below.setCell (Below.refl B w0) (p := ⟨w.heap.size + 1, 16, none⟩) (by show B <= w.heap.size + 1; omega) _)) (by rw [hH.out]; show (-1 : Int) <= -1; omega) (by rw [hH.out]; show (-1 : Int) < _; omega) (by rw [hH.out]; exact hn0)).mono ?_
  rintro e w9 ⟨rfl, b9⟩
  have F9 := qz3 (qz2 F0 _ _) b9 (by first | omega | (simp; omega))
  have K9 := (Below.setCell K0 (p := ⟨w.heap.size + 1, 16, none⟩) (by show w.heap.size <= w.heap.size + 1; omega) _).trans (b9.mono (by first | omega | (simp; omega)))
  go_wp2_with (refine wpList_store_mid rfl 36 (.tmp 6) _ rfl (w.heap.size + 1 + 1) 0 (hdC (qzo A H')).toArray ?hxn36 ?hyn36 ?htn36 (qz8 _) (qzc _) ?_)
  try (case hxn36 => rfl)
  try (case hyn36 => rfl)
  case htn36 => exact F9
  refine bodyPost_ret (v := .agg (hdC (qzo A H')).toArray) ?_ rfl ⟨by rw [hv.out], ?_⟩
  ·exact qz4 Tryz.results109 _ _ (w.heap.size + 1 + 1) 0 rfl (hdC (qzo A H')) _ (World.rangeAt_setCells_same _ _ _ _ F9) Tryz.underlying36 rfl (qz1 _)
  ·exact Below.setCells (by omega) _ _ _ K9
 have bn : (n == -1) = false := by simp [hn]
 obtain ⟨H', hH⟩ : ∃ H' : Hd, Hid (H' = { h with curr := n, x_ := n, then_ := 2 }) := by exact ⟨_, rfl⟩
 have hv : Hid (qz2f A h n = qzw H' 2) := by show _ = _; rw [hH.out]; simp [qz2f, qzw, hn]
 go_wp2_with (first | (refine wpList_load_mid rfl 36 (.tmp 4) rfl (w.heap.size + 1) 0 ?hxln37 (hdC H') _ ?hcn37 Tryz.underlying36 rfl (qz1 H') ?_))
 try (case hxln37 => rfl)
 case hcn37 => rw [hH.out]; exact (qz6 (qz6 (qz6 H0 16 (by simp [hdC]) _) 10 (by simp [hdC]) _) 1 (by simp [hdC]) _)
 refine (qzr H' 2 _).mono ?_
 rintro e w9 ⟨rfl, b9⟩
 have F9 := qz3 (qz2 (qz2 (qz2 F0 _ _) _ _) _ _) b9 (by first | omega | (simp; omega))
 have K9 := (Below.setCell (Below.setCell (Below.setCell K0 (p := ⟨w.heap.size + 1, 16, none⟩) (by show w.heap.size <= w.heap.size + 1; omega) _) (p := ⟨w.heap.size + 1, 10, none⟩) (by show w.heap.size <= w.heap.size + 1; omega) _) (p := ⟨w.heap.size + 1, 1, none⟩) (by show w.heap.size <= w.heap.size + 1; omega) _).trans (b9.mono (by first | omega | (simp; omega)))
 go_wp2_with (refine wpList_store_mid rfl 36 (.tmp 6) _ rfl (w.heap.size + 1 + 1) 0 (hdC (qzw H' 2)).toArray ?hxn37 ?hyn37 ?htn37 (qz8 _) (qzc _) ?_)
 try (case hxn37 => rfl)
 try (case hyn37 => rfl)
 case htn37 => exact F9
 refine bodyPost_ret (v := .agg (hdC (qzw H' 2)).toArray) ?_ rfl ⟨by rw [hv.out], ?_⟩
 ·exact qz4 Tryz.results109 _ _ (w.heap.size + 1 + 1) 0 rfl (hdC (qzw H' 2)) _ (World.rangeAt_setCells_same _ _ _ _ F9) Tryz.underlying36 rfl (qz1 _)
 ·exact Below.setCells (by omega) _ _ _ K9
end
end Go.Proofs.YtknncnaikeinbaaGreat
