/-
  What the law's proof goes by, part 7.
-/
import Derived.Test.YthjkdnlmopafkaaFnRest00
import Derived.Test.YthjkdnlmopafkaaFnRest05
namespace Go.Proofs.Ythjkdnlmopafkaa
open Go.ChangeShapes Go.WideShapes Go.ChangeAt Go.RowKit
set_option maxRecDepth 100000
set_option maxHeartbeats 16000000
set_option linter.unusedVariables false
set_option linter.unusedSimpArgs false
set_option linter.unnecessarySimpa false
set_option linter.unusedSectionVars false
section
attribute [local go_sem ↓] Go.wp_at_zero Go.wp_at_succ
def qz3q (c k v : Int) : Bool :=
 if c = 1 then inB k 0 63 && inB v 0 9999 else if c = 7 then inB k 0 63 && inB v 0 63 else if c = 2 ∨ c = 3 ∨ c = 6 then inB k 0 63 && (v == 0) else if c = 4 ∨ c = 5 ∨ c = 8 then (k == -1) && (v == 0) else false
def qz2m (x y z u : Int) (h : Hd) (c k v : Int) : Int :=
 if qz3b x y z u h = false then 5 else if h.at_ ≠ 0 then 1 else if qz3q c k v = false then 2 else if h.held < 0 /\ (c = 5 ∨ c = 6 ∨ c = 7) then 3 else if 0 <= h.held /\ c = 4 then 4 else 0
def qzbt : Hd := ⟨0, 0, 0, 0, 0, 0, 0, 0, 0, 0, 0, 0, 0, 0, 0, 0, 0, 0, 0, 0, 0, 0⟩
def qzb8 (c : Int) : Int := if c = 1 ∨ c = 2 ∨ c = 3 then 1 else if c = 4 then 13 else if c = 5 then 18 else if c = 6 ∨ c = 7 then 2 else if c = 8 then 20 else 0
def qzaa (c : Int) : Int := if c = 6 ∨ c = 7 then 6 else 0
def qz2g (h : Hd) (c k v : Int) : Hd := ⟨qzb8 c, qzaa c, c, k, v, 0, 0, 0, 0, h.held, 0, 0, 0, 0, 0, 0, -1, 0, -1, 0, 0, 0⟩
def qz2x (x y z u : Int) (h : Hd) (c k v : Int) : Hd :=
 if qz2m x y z u h c k v = 5 then qzbt else if qz2m x y z u h c k v ≠ 0 then h else qz2g h c k v
theorem qz1q (c k v : Int) (w : World) :
  Calls Try.prog 97 #[.int .i64 c, .int .i64 k, .int .i64 v] w fun e w' => e = .returned (.bool (qz3q c k v)) /\ w' = w := by
 by_cases c1 : c = 1
 ·subst c1
  cases e1 : inB k 0 63
  ·have hv : qz3q 1 k v = false := by simp [qz3q, e1]
   go_enter Try.func97, Try.ntmps97
   go_wp2_with (first | (go_at_call 76; refine (qzp _ _).mono ?_; rintro e w' ⟨rfl, hw⟩; obtain rfl := hw.symm) | (go_at_call 46; refine (qzf _ _ _ _).mono ?_; rintro e w' ⟨rfl, hw⟩; obtain rfl := hw.symm))
   go_ret
   exact ⟨by first | rfl | (rw [hv]; rfl), rfl⟩
  have hv : qz3q 1 k v = inB v 0 9999 := by simp [qz3q, e1]
  go_enter Try.func97, Try.ntmps97
  go_wp2_with (first | (go_at_call 76; refine (qzp _ _).mono ?_; rintro e w' ⟨rfl, hw⟩; obtain rfl := hw.symm) | (go_at_call 46; refine (qzf _ _ _ _).mono ?_; rintro e w' ⟨rfl, hw⟩; obtain rfl := hw.symm))
  go_ret
  exact ⟨by first | rfl | (rw [hv]; rfl), rfl⟩
 by_cases c7 : c = 7
 ·subst c7
  cases e1 : inB k 0 63
  ·have hv : qz3q 7 k v = false := by simp [qz3q, e1]
   go_enter Try.func97, Try.ntmps97
   go_wp2_with (first | (go_at_call 76; refine (qzp _ _).mono ?_; rintro e w' ⟨rfl, hw⟩; obtain rfl := hw.symm) | (go_at_call 46; refine (qzf _ _ _ _).mono ?_; rintro e w' ⟨rfl, hw⟩; obtain rfl := hw.symm))
   go_ret
   exact ⟨by first | rfl | (rw [hv]; rfl), rfl⟩
  have hv : qz3q 7 k v = inB v 0 63 := by simp [qz3q, e1]
  go_enter Try.func97, Try.ntmps97
  go_wp2_with (first | (go_at_call 76; refine (qzp _ _).mono ?_; rintro e w' ⟨rfl, hw⟩; obtain rfl := hw.symm) | (go_at_call 46; refine (qzf _ _ _ _).mono ?_; rintro e w' ⟨rfl, hw⟩; obtain rfl := hw.symm))
  go_ret
  exact ⟨by first | rfl | (rw [hv]; rfl), rfl⟩
 by_cases c2 : c = 2
 ·subst c2
  cases e1 : inB k 0 63
  ·have hv : qz3q 2 k v = false := by simp [qz3q, e1]
   go_enter Try.func97, Try.ntmps97
   go_wp2_with (first | (go_at_call 76; refine (qzp _ _).mono ?_; rintro e w' ⟨rfl, hw⟩; obtain rfl := hw.symm) | (go_at_call 46; refine (qzf _ _ _ _).mono ?_; rintro e w' ⟨rfl, hw⟩; obtain rfl := hw.symm))
   go_ret
   exact ⟨by first | rfl | (rw [hv]; rfl), rfl⟩
  have hv : qz3q 2 k v = (v == 0) := by simp [qz3q, e1]
  go_enter Try.func97, Try.ntmps97
  go_wp2_with (first | (go_at_call 76; refine (qzp _ _).mono ?_; rintro e w' ⟨rfl, hw⟩; obtain rfl := hw.symm) | (go_at_call 46; refine (qzf _ _ _ _).mono ?_; rintro e w' ⟨rfl, hw⟩; obtain rfl := hw.symm))
  go_ret
  exact ⟨by first | rfl | (rw [hv]; rfl), rfl⟩
 by_cases c3 : c = 3
 ·subst c3
  cases e1 : inB k 0 63
  ·have hv : qz3q 3 k v = false := by simp [qz3q, e1]
   go_enter Try.func97, Try.ntmps97
   go_wp2_with (first | (go_at_call 76; refine (qzp _ _).mono ?_; rintro e w' ⟨rfl, hw⟩; obtain rfl := hw.symm) | (go_at_call 46; refine (qzf _ _ _ _).mono ?_; rintro e w' ⟨rfl, hw⟩; obtain rfl := hw.symm))
   go_ret
   exact ⟨by first | rfl | (rw [hv]; rfl), rfl⟩
  have hv : qz3q 3 k v = (v == 0) := by simp [qz3q, e1]
  go_enter Try.func97, Try.ntmps97
  go_wp2_with (first | (go_at_call 76; refine (qzp _ _).mono ?_; rintro e w' ⟨rfl, hw⟩; obtain rfl := hw.symm) | (go_at_call 46; refine (qzf _ _ _ _).mono ?_; rintro e w' ⟨rfl, hw⟩; obtain rfl := hw.symm))
  go_ret
  exact ⟨by first | rfl | (rw [hv]; rfl), rfl⟩
 by_cases c6 : c = 6
 ·subst c6
  cases e1 : inB k 0 63
  ·have hv : qz3q 6 k v = false := by simp [qz3q, e1]
   go_enter Try.func97, Try.ntmps97
   go_wp2_with (first | (go_at_call 76; refine (qzp _ _).mono ?_; rintro e w' ⟨rfl, hw⟩; obtain rfl := hw.symm) | (go_at_call 46; refine (qzf _ _ _ _).mono ?_; rintro e w' ⟨rfl, hw⟩; obtain rfl := hw.symm))
   go_ret
   exact ⟨by first | rfl | (rw [hv]; rfl), rfl⟩
  have hv : qz3q 6 k v = (v == 0) := by simp [qz3q, e1]
  go_enter Try.func97, Try.ntmps97
  go_wp2_with (first | (go_at_call 76; refine (qzp _ _).mono ?_; rintro e w' ⟨rfl, hw⟩; obtain rfl := hw.symm) | (go_at_call 46; refine (qzf _ _ _ _).mono ?_; rintro e w' ⟨rfl, hw⟩; obtain rfl := hw.symm))
  go_ret
  exact ⟨by first | rfl | (rw [hv]; rfl), rfl⟩
 by_cases c4 : c = 4
 ·subst c4
  cases e1 : (k == -1)
  ·have hv : qz3q 4 k v = false := by simp [qz3q, e1]
   go_enter Try.func97, Try.ntmps97
   go_wp2_with (first | (go_at_call 76; refine (qzp _ _).mono ?_; rintro e w' ⟨rfl, hw⟩; obtain rfl := hw.symm) | (go_at_call 46; refine (qzf _ _ _ _).mono ?_; rintro e w' ⟨rfl, hw⟩; obtain rfl := hw.symm))
   go_ret
   exact ⟨by first | rfl | (rw [hv]; rfl), rfl⟩
  have hv : qz3q 4 k v = (v == 0) := by simp [qz3q, e1]
  go_enter Try.func97, Try.ntmps97
  go_wp2_with (first | (go_at_call 76; refine (qzp _ _).mono ?_; rintro e w' ⟨rfl, hw⟩; obtain rfl := hw.symm) | (go_at_call 46; refine (qzf _ _ _ _).mono ?_; rintro e w' ⟨rfl, hw⟩; obtain rfl := hw.symm))
  go_ret
  exact ⟨by first | rfl | (rw [hv]; rfl), rfl⟩
 by_cases c5 : c = 5
 ·subst c5
  cases e1 : (k == -1)
  ·have hv : qz3q 5 k v = false := by simp [qz3q, e1]
   go_enter Try.func97, Try.ntmps97
   go_wp2_with (first | (go_at_call 76; refine (qzp _ _).mono ?_; rintro e w' ⟨rfl, hw⟩; obtain rfl := hw.symm) | (go_at_call 46; refine (qzf _ _ _ _).mono ?_; rintro e w' ⟨rfl, hw⟩; obtain rfl := hw.symm))
   go_ret
   exact ⟨by first | rfl | (rw [hv]; rfl), rfl⟩
  have hv : qz3q 5 k v = (v == 0) := by simp [qz3q, e1]
  go_enter Try.func97, Try.ntmps97
  go_wp2_with (first | (go_at_call 76; refine (qzp _ _).mono ?_; rintro e w' ⟨rfl, hw⟩; obtain rfl := hw.symm) | (go_at_call 46; refine (qzf _ _ _ _).mono ?_; rintro e w' ⟨rfl, hw⟩; obtain rfl := hw.symm))
  go_ret
  exact ⟨by first | rfl | (rw [hv]; rfl), rfl⟩
 by_cases c8 : c = 8
 ·subst c8
  cases e1 : (k == -1)
  ·have hv : qz3q 8 k v = false := by simp [qz3q, e1]
   go_enter Try.func97, Try.ntmps97
   go_wp2_with (first | (go_at_call 76; refine (qzp _ _).mono ?_; rintro e w' ⟨rfl, hw⟩; obtain rfl := hw.symm) | (go_at_call 46; refine (qzf _ _ _ _).mono ?_; rintro e w' ⟨rfl, hw⟩; obtain rfl := hw.symm))
   go_ret
   exact ⟨by first | rfl | (rw [hv]; rfl), rfl⟩
  have hv : qz3q 8 k v = (v == 0) := by simp [qz3q, e1]
  go_enter Try.func97, Try.ntmps97
  go_wp2_with (first | (go_at_call 76; refine (qzp _ _).mono ?_; rintro e w' ⟨rfl, hw⟩; obtain rfl := hw.symm) | (go_at_call 46; refine (qzf _ _ _ _).mono ?_; rintro e w' ⟨rfl, hw⟩; obtain rfl := hw.symm))
  go_ret
  exact ⟨by first | rfl | (rw [hv]; rfl), rfl⟩
 have hv : qz3q c k v = false := by simp [qz3q, c1, c2, c3, c4, c5, c6, c7, c8]
 go_enter Try.func97, Try.ntmps97
 go_wp2_with (first | (go_at_call 76; refine (qzp _ _).mono ?_; rintro e w' ⟨rfl, hw⟩; obtain rfl := hw.symm) | (go_at_call 46; refine (qzf _ _ _ _).mono ?_; rintro e w' ⟨rfl, hw⟩; obtain rfl := hw.symm))
 go_ret
 exact ⟨by first | rfl | (rw [hv]; rfl), rfl⟩
theorem qzav (x y z u : Int) (h : Hd) (c k v : Int) (w : World) :
  Calls Try.prog 104 #[.agg #[.int .i64 x, .int .i64 y, .int .i64 z, .int .i64 u], .agg (hdC h).toArray, .int .i64 c, .int .i64 k, .int .i64 v] w fun e w' => e = .returned (.int .i64 (qz2m x y z u h c k v)) /\ Below w.heap.size w w' := by
 show Calls Try.prog 104 #[.agg #[.int .i64 x, .int .i64 y, .int .i64 z, .int .i64 u], .agg #[.int .i64 h.at_, .int .i64 h.then_, .int .i64 h.code, .int .i64 h.key, .int .i64 h.value, .int .i64 h.begin, .int .i64 h.reply, .int .i64 h.out, .int .i64 h.sum, .int .i64 h.held, .int .i64 h.x_, .int .i64 h.ver, .int .i64 h.cam, .int .i64 h.camAt, .int .i64 h.pred, .int .i64 h.predVer, .int .i64 h.curr, .int .i64 h.currVer, .int .i64 h.new_, .int .i64 h.least, .int .i64 h.index, .int .i64 h.round], .int .i64 c, .int .i64 k, .int .i64 v] w fun e w' => e = .returned (.int .i64 (qz2m x y z u h c k v)) /\ Below w.heap.size w w'
 have P0 := (qz1t w x y z u 25).below ((Below.refl _ _).alloc (Nat.le_refl _) (.cells (hdC h).toArray 56)) (by simp)
 have X0 := qzd (w.alloc (.cells #[.int .i64 x, .int .i64 y, .int .i64 z, .int .i64 u] 25)) (hdC h) 56
 have K0 := ((Below.refl w.heap.size w).alloc (Nat.le_refl _) (.cells #[.int .i64 x, .int .i64 y, .int .i64 z, .int .i64 u] 25)).alloc (by simp) (.cells (hdC h).toArray 56)
 have hz0 : w.heap.size + 1 < ((w.alloc (.cells #[.int .i64 x, .int .i64 y, .int .i64 z, .int .i64 u] 25)).alloc (.cells (hdC h).toArray 56)).heap.size := by simp
 simp only [World.size_alloc] at X0
 obtain ⟨p0, p1, p2, p3⟩ := id P0
 go_enter Try.func104, Try.ntmps104
 go_wp2_with (refine wpList_load_mid rfl 56 (.tmp 6) rfl (w.heap.size + 1) 0 rfl (hdC h) _ ?hc Try.underlying56 rfl (qz1 h) ?_)
 case hc => exact X0
 change Calls Try.prog _ _ ((w.alloc (.cells #[.int .i64 x, .int .i64 y, .int .i64 z, .int .i64 u] 25)).alloc (.cells (hdC h).toArray 56)) _
 generalize hw0 : (w.alloc (.cells #[.int .i64 x, .int .i64 y, .int .i64 z, .int .i64 u] 25)).alloc (.cells (hdC h).toArray 56) = w0 at *
 clear hw0 p0 p1 p2 p3 P0
 refine (qz3f x y z u h _).mono ?_
 rintro e w1 ⟨rfl, b1⟩
 have X1 := qz0 X0 b1 hz0
 have K1 := K0.trans (b1.mono (by omega))
 clear X0 K0 b1 hz0
 have q0 : w1.cell? ⟨w.heap.size + 1, 0, none⟩ = some (.int .i64 h.at_) := by simpa using X1 0 (.int .i64 h.at_) rfl
 have q9 : w1.cell? ⟨w.heap.size + 1, 9, none⟩ = some (.int .i64 h.held) := by simpa using X1 9 (.int .i64 h.held) rfl
 clear X1
 cases e1 : qz3b x y z u h
 ·have hv : qz2m x y z u h c k v = 5 := by simp [qz2m, e1]
  go_wp2
  go_ret
  exact ⟨by first | rfl | (rw [hv]; rfl), K1⟩
 by_cases e2 : h.at_ = 0
 case neg =>
  have hv : qz2m x y z u h c k v = 1 := by simp [qz2m, e1, e2]
  go_wp2
  go_ret
  exact ⟨by first | rfl | (rw [hv]; rfl), K1⟩
 cases e3 : qz3q c k v
 ·have hv : qz2m x y z u h c k v = 2 := by simp [qz2m, e1, e2, e3]
  go_wp2_with (go_at_call 97; refine (qz1q _ _ _ _).mono ?_; rintro e w' ⟨rfl, hw⟩; obtain rfl := hw.symm)
  go_ret
  exact ⟨by first | rfl | (rw [hv]; rfl), K1⟩
 by_cases e4 : h.held < 0
 ·have e5 : ¬ (0 <= h.held) := by omega
  by_cases c5 : c = 5
  ·subst c5
   have hv : qz2m x y z u h 5 k v = 3 := by simp [qz2m, e1, e2, e3, e4]
   go_wp2_with (go_at_call 97; refine (qz1q _ _ _ _).mono ?_; rintro e w' ⟨rfl, hw⟩; obtain rfl := hw.symm)
   go_ret
   exact ⟨by first | rfl | (rw [hv]; rfl), K1⟩
  by_cases c6 : c = 6
  ·subst c6
   have hv : qz2m x y z u h 6 k v = 3 := by simp [qz2m, e1, e2, e3, e4]
   go_wp2_with (go_at_call 97; refine (qz1q _ _ _ _).mono ?_; rintro e w' ⟨rfl, hw⟩; obtain rfl := hw.symm)
   go_ret
   exact ⟨by first | rfl | (rw [hv]; rfl), K1⟩
  by_cases c7 : c = 7
  ·subst c7
   have hv : qz2m x y z u h 7 k v = 3 := by simp [qz2m, e1, e2, e3, e4]
   go_wp2_with (go_at_call 97; refine (qz1q _ _ _ _).mono ?_; rintro e w' ⟨rfl, hw⟩; obtain rfl := hw.symm)
   go_ret
   exact ⟨by first | rfl | (rw [hv]; rfl), K1⟩
  have b5 : (c == 5) = false := by simp [c5]
  have b6 : (c == 6) = false := by simp [c6]
  have b7 : (c == 7) = false := by simp [c7]
  have hv : qz2m x y z u h c k v = 0 := by simp [qz2m, e1, e2, e3, e5, c5, c6, c7]
  go_wp2_with (go_at_call 97; refine (qz1q _ _ _ _).mono ?_; rintro e w' ⟨rfl, hw⟩; obtain rfl := hw.symm)
  go_ret
  exact ⟨by first | rfl | (rw [hv]; rfl), K1⟩
 have e5 : 0 <= h.held := by omega
 by_cases c4 : c = 4
 ·subst c4
  have hv : qz2m x y z u h 4 k v = 4 := by simp [qz2m, e1, e2, e3, e4, e5]
  go_wp2_with (go_at_call 97; refine (qz1q _ _ _ _).mono ?_; rintro e w' ⟨rfl, hw⟩; obtain rfl := hw.symm)
  go_ret
  exact ⟨by first | rfl | (rw [hv]; rfl), K1⟩
 have b4 : (c == 4) = false := by simp [c4]
 have hv : qz2m x y z u h c k v = 0 := by simp [qz2m, e1, e2, e3, e4, c4]
 go_wp2_with (go_at_call 97; refine (qz1q _ _ _ _).mono ?_; rintro e w' ⟨rfl, hw⟩; obtain rfl := hw.symm)
 go_ret
 exact ⟨by first | rfl | (rw [hv]; rfl), K1⟩
theorem qz6n {x y z u : Int} {h : Hd} {c k v : Int} (e : qz2m x y z u h c k v = 0) : qz3b x y z u h = true /\ h.at_ = 0 /\ qz3q c k v = true /\ ¬ (h.held < 0 /\ (c = 5 ∨ c = 6 ∨ c = 7)) /\ ¬ (0 <= h.held /\ c = 4) := by
 unfold qz2m at e
 split at e
 ·cases e
 rename_i h1
 split at e
 ·cases e
 rename_i h2
 split at e
 ·cases e
 rename_i h3
 split at e
 ·cases e
 rename_i h4
 split at e
 ·cases e
 rename_i h5
 exact ⟨by simpa using h1, by simpa using h2, by simpa using h3, h4, h5⟩
theorem qz6d {c k v : Int} (h : qz3q c k v = true) : c = 1 ∨ c = 2 ∨ c = 3 ∨ c = 4 ∨ c = 5 ∨ c = 6 ∨ c = 7 ∨ c = 8 := by
 unfold qz3q at h
 split at h
 ·omega
 split at h
 ·omega
 split at h
 ·omega
 split at h
 ·omega
 ·cases h
theorem qz74 (x y z u : Int) (h : Hd) (c k v : Int) (w : World) :
  Calls Try.prog 100 #[.agg #[.int .i64 x, .int .i64 y, .int .i64 z, .int .i64 u], .agg (hdC h).toArray, .int .i64 c, .int .i64 k, .int .i64 v] w fun e w' => e = .returned (.tuple #[.agg (hdC (qz2x x y z u h c k v)).toArray, .int .i64 (qz2m x y z u h c k v)]) /\ Below w.heap.size w w' := by
 show Calls Try.prog 100 #[.agg #[.int .i64 x, .int .i64 y, .int .i64 z, .int .i64 u], .agg #[.int .i64 h.at_, .int .i64 h.then_, .int .i64 h.code, .int .i64 h.key, .int .i64 h.value, .int .i64 h.begin, .int .i64 h.reply, .int .i64 h.out, .int .i64 h.sum, .int .i64 h.held, .int .i64 h.x_, .int .i64 h.ver, .int .i64 h.cam, .int .i64 h.camAt, .int .i64 h.pred, .int .i64 h.predVer, .int .i64 h.curr, .int .i64 h.currVer, .int .i64 h.new_, .int .i64 h.least, .int .i64 h.index, .int .i64 h.round], .int .i64 c, .int .i64 k, .int .i64 v] w fun e w' => e = .returned (.tuple #[.agg (hdC (qz2x x y z u h c k v)).toArray, .int .i64 (qz2m x y z u h c k v)]) /\ Below w.heap.size w w'
 have P0 := ((qz1t w x y z u 25).below ((Below.refl _ _).alloc (Nat.le_refl _) (.cells (hdC h).toArray 56)) (by simp)).below ((Below.refl _ _).alloc (Nat.le_refl _) (.cells #[.int .i64 0, .int .i64 0, .int .i64 0, .int .i64 0, .int .i64 0, .int .i64 0, .int .i64 0, .int .i64 0, .int .i64 0, .int .i64 0, .int .i64 0, .int .i64 0, .int .i64 0, .int .i64 0, .int .i64 0, .int .i64 0, .int .i64 0, .int .i64 0, .int .i64 0, .int .i64 0, .int .i64 0, .int .i64 0] 56)) (by simp; omega)
 have X0 := World.rangeAt_alloc (qzd (w.alloc (.cells #[.int .i64 x, .int .i64 y, .int .i64 z, .int .i64 u] 25)) (hdC h) 56) (.cells #[.int .i64 0, .int .i64 0, .int .i64 0, .int .i64 0, .int .i64 0, .int .i64 0, .int .i64 0, .int .i64 0, .int .i64 0, .int .i64 0, .int .i64 0, .int .i64 0, .int .i64 0, .int .i64 0, .int .i64 0, .int .i64 0, .int .i64 0, .int .i64 0, .int .i64 0, .int .i64 0, .int .i64 0, .int .i64 0] 56)
 have F0 := qzh ((w.alloc (.cells #[.int .i64 x, .int .i64 y, .int .i64 z, .int .i64 u] 25)).alloc (.cells (hdC h).toArray 56)) #[.int .i64 0, .int .i64 0, .int .i64 0, .int .i64 0, .int .i64 0, .int .i64 0, .int .i64 0, .int .i64 0, .int .i64 0, .int .i64 0, .int .i64 0, .int .i64 0, .int .i64 0, .int .i64 0, .int .i64 0, .int .i64 0, .int .i64 0, .int .i64 0, .int .i64 0, .int .i64 0, .int .i64 0, .int .i64 0] 56 22 (by decide)
 have K0 := (((Below.refl w.heap.size w).alloc (Nat.le_refl _) (.cells #[.int .i64 x, .int .i64 y, .int .i64 z, .int .i64 u] 25)).alloc (by simp) (.cells (hdC h).toArray 56)).alloc (by simp; omega) (.cells #[.int .i64 0, .int .i64 0, .int .i64 0, .int .i64 0, .int .i64 0, .int .i64 0, .int .i64 0, .int .i64 0, .int .i64 0, .int .i64 0, .int .i64 0, .int .i64 0, .int .i64 0, .int .i64 0, .int .i64 0, .int .i64 0, .int .i64 0, .int .i64 0, .int .i64 0, .int .i64 0, .int .i64 0, .int .i64 0] 56)
 have hz0 : w.heap.size + 1 + 1 < (((w.alloc (.cells #[.int .i64 x, .int .i64 y, .int .i64 z, .int .i64 u] 25)).alloc (.cells (hdC h).toArray 56)).alloc (.cells #[.int .i64 0, .int .i64 0, .int .i64 0, .int .i64 0, .int .i64 0, .int .i64 0, .int .i64 0, .int .i64 0, .int .i64 0, .int .i64 0, .int .i64 0, .int .i64 0, .int .i64 0, .int .i64 0, .int .i64 0, .int .i64 0, .int .i64 0, .int .i64 0, .int .i64 0, .int .i64 0, .int .i64 0, .int .i64 0] 56)).heap.size := by simp
 simp only [World.size_alloc] at X0 F0
 obtain ⟨p0, p1, p2, p3⟩ := id P0
 go_enter Try.func100, Try.ntmps100
 go_wp2_with (refine wpList_load_mid rfl 56 (.tmp 6) rfl (w.heap.size + 1) 0 rfl (hdC h) _ ?hc Try.underlying56 rfl (qz1 h) ?_)
 case hc => exact X0
 change Calls Try.prog _ _ (((w.alloc (.cells #[.int .i64 x, .int .i64 y, .int .i64 z, .int .i64 u] 25)).alloc (.cells (hdC h).toArray 56)).alloc (.cells #[.int .i64 0, .int .i64 0, .int .i64 0, .int .i64 0, .int .i64 0, .int .i64 0, .int .i64 0, .int .i64 0, .int .i64 0, .int .i64 0, .int .i64 0, .int .i64 0, .int .i64 0, .int .i64 0, .int .i64 0, .int .i64 0, .int .i64 0, .int .i64 0, .int .i64 0, .int .i64 0, .int .i64 0, .int .i64 0] 56)) _
 generalize hw0 : ((w.alloc (.cells #[.int .i64 x, .int .i64 y, .int .i64 z, .int .i64 u] 25)).alloc (.cells (hdC h).toArray 56)).alloc (.cells #[.int .i64 0, .int .i64 0, .int .i64 0, .int .i64 0, .int .i64 0, .int .i64 0, .int .i64 0, .int .i64 0, .int .i64 0, .int .i64 0, .int .i64 0, .int .i64 0, .int .i64 0, .int .i64 0, .int .i64 0, .int .i64 0, .int .i64 0, .int .i64 0, .int .i64 0, .int .i64 0, .int .i64 0, .int .i64 0] 56) = w0 at *
 clear hw0 p0 p1 p2 p3 P0
 refine (qzav x y z u h c k v _).mono ?_
 rintro e w1 ⟨rfl, b1⟩
 have X1 := qz0 X0 b1 (by omega)
 have F1 := qz6 F0 b1 (by omega)
 have K1 := K0.trans (b1.mono (by omega))
 have hz1 := Nat.lt_of_lt_of_le hz0 b1.size
 clear X0 F0 K0 b1 hz0
 by_cases e5 : qz2m x y z u h c k v = 5
 ·have hv : qz2x x y z u h c k v = qzbt := by simp [qz2x, e5]
  rw [e5]
  have hq : Hid (qz2x x y z u h c k v = qzbt /\ qz2m x y z u h c k v = 5) := ⟨hv, e5⟩
  clear hv e5
  go_wp2_with (refine wpList_store_mid rfl 56 (.tmp 10) (.tmp 22) rfl (w.heap.size + 1 + 1) 0 _ rfl rfl ?ht ?hi ?h1 ?_)
  case ht => exact F1
  case hi => exact qzb qzbt
  case h1 => exact qzg qzbt
  refine bodyPost_ret (v := .tuple #[.agg (hdC qzbt).toArray, .int .i64 5]) ?_ rfl ⟨by rw [hq.out.1, hq.out.2], ?_⟩
  ·exact qzn Try.results100 _ _ (w.heap.size + 1 + 1) 0 rfl (hdC qzbt) _ (World.rangeAt_setCells_same _ _ _ _ F1) Try.underlying56 rfl (qz1 qzbt)
  ·exact Below.setCells (by omega) _ _ _ K1
 by_cases e0 : qz2m x y z u h c k v = 0
 case neg =>
  have hv : qz2x x y z u h c k v = h := by simp [qz2x, e5, e0]
  have hq : Hid (qz2x x y z u h c k v = h) := hv
  clear hv
  go_wp2_with (first | (refine wpList_load_mid rfl 56 (.tmp 6) rfl (w.heap.size + 1) 0 rfl (hdC h) _ ?hc Try.underlying56 rfl (qz1 h) ?_) | (refine wpList_store_mid rfl 56 (.tmp 10) (.tmp 26) rfl (w.heap.size + 1 + 1) 0 _ rfl rfl ?ht ?hi ?h1 ?_))
  case hc => exact X1
  case ht => exact F1
  case hi => exact qzb h
  case h1 => exact qzg h
  refine bodyPost_ret (v := .tuple #[.agg (hdC h).toArray, .int .i64 (qz2m x y z u h c k v)]) ?_ rfl ⟨by rw [hq.out], ?_⟩
  ·exact qzn Try.results100 _ _ (w.heap.size + 1 + 1) 0 rfl (hdC h) _ (World.rangeAt_setCells_same _ _ _ _ F1) Try.underlying56 rfl (qz1 h)
  ·exact Below.setCells (by omega) _ _ _ K1
 have hv : qz2x x y z u h c k v = qz2g h c k v := by simp [qz2x, e0]
 obtain ⟨_, _, hfit, _, _⟩ := qz6n e0
 rw [e0]
 have hq : Hid (qz2x x y z u h c k v = qz2g h c k v /\ qz2m x y z u h c k v = 0) := ⟨hv, e0⟩
 clear hv e0 e5
 go_wp2_with (refine wpList_load_mid rfl 56 (.tmp 6) rfl (w.heap.size + 1) 0 rfl (hdC h) _ ?hc Try.underlying56 rfl (qz1 h) ?_)
 case hc => exact X1
 refine (qz4n h 0 0 0 _).mono ?_
 rintro e w2 ⟨rfl, b2⟩
 have F2 := qz6 F1 b2 (by omega)
 have K2 := K1.trans (b2.mono (by omega))
 have hz2 := Nat.lt_of_lt_of_le hz1 b2.size
 clear X1 F1 K1 b2 hz1
 have hset : (w2.alloc (.cells #[.int .i64 0, .int .i64 0, .int .i64 0, .int .i64 0, .int .i64 0, .int .i64 0, .int .i64 0, .int .i64 0, .int .i64 0, .int .i64 0, .int .i64 0, .int .i64 0, .int .i64 0, .int .i64 0, .int .i64 0, .int .i64 0, .int .i64 0, .int .i64 0, .int .i64 0, .int .i64 0, .int .i64 0, .int .i64 0] 56)).setCells w2.heap.size 0 (hdC (qzc h 0 0 0)).toArray.toList = w2.alloc (.cells #[.int .i64 0, .int .i64 0, .int .i64 0, .int .i64 (-1), .int .i64 0, .int .i64 0, .int .i64 0, .int .i64 0, .int .i64 0, .int .i64 h.held, .int .i64 0, .int .i64 0, .int .i64 0, .int .i64 0, .int .i64 0, .int .i64 0, .int .i64 (-1), .int .i64 0, .int .i64 (-1), .int .i64 0, .int .i64 0, .int .i64 0] 56) := qzv w2 56 (hdC (qzc h 0 0 0)) [] [.int .i64 0, .int .i64 0, .int .i64 0, .int .i64 0, .int .i64 0, .int .i64 0, .int .i64 0, .int .i64 0, .int .i64 0, .int .i64 0, .int .i64 0, .int .i64 0, .int .i64 0, .int .i64 0, .int .i64 0, .int .i64 0, .int .i64 0, .int .i64 0, .int .i64 0, .int .i64 0, .int .i64 0, .int .i64 0] rfl
 have FA := qzh w2 #[.int .i64 0, .int .i64 0, .int .i64 0, .int .i64 0, .int .i64 0, .int .i64 0, .int .i64 0, .int .i64 0, .int .i64 0, .int .i64 0, .int .i64 0, .int .i64 0, .int .i64 0, .int .i64 0, .int .i64 0, .int .i64 0, .int .i64 0, .int .i64 0, .int .i64 0, .int .i64 0, .int .i64 0, .int .i64 0] 56 22 (by decide)
 have K3 := K2.alloc (by omega) (.cells (hdC (qz2g h c k v)).toArray 56)
 have R3 := qzd w2 (hdC (qz2g h c k v)) 56
 have F3 := World.there_alloc F2 (.cells (hdC (qz2g h c k v)).toArray 56)
 have fin : ∀ ws : World, ws = w2.alloc (.cells (hdC (qz2g h c k v)).toArray 56) -> ws.there (w.heap.size + 1 + 1) 0 22 /\ ws.rangeAt w2.heap.size 0 (hdC (qz2g h c k v)) /\ Below w.heap.size w ws := by
  rintro ws rfl
  exact ⟨F3, R3, K3⟩
 rcases qz6d hfit with rfl | rfl | rfl | rfl | rfl | rfl | rfl | rfl
 ·go_wp2_with (first | (refine wpList_store_mid rfl 56 (.tmp 13) (.tmp 29) rfl w2.heap.size 0 _ rfl rfl FA (qzb (qzc h 0 0 0)) (qzg _) ?_; rw [hset]) | (refine wpList_load_mid rfl 56 (.tmp 13) rfl w2.heap.size 0 rfl (hdC (qz2g h 1 k v)) _ ?hc Try.underlying56 rfl (qz1 _) ?_) | (refine wpList_store_mid rfl 56 (.tmp 10) (.tmp 56) rfl (w.heap.size + 1 + 1) 0 _ rfl rfl ?ht ?hi ?h1 ?_))
  case hc => exact R3
  case ht => exact F3
  case hi => exact qzb _
  case h1 => exact qzg _
  refine bodyPost_ret (v := .tuple #[.agg (hdC (qz2g h 1 k v)).toArray, .int .i64 0]) ?_ rfl ⟨by rw [hq.out.1, hq.out.2], ?_⟩
  ·exact qzn Try.results100 _ _ (w.heap.size + 1 + 1) 0 rfl (hdC (qz2g h 1 k v)) _ (World.rangeAt_setCells_same _ _ _ _ F3) Try.underlying56 rfl (qz1 _)
  ·exact Below.setCells (by omega) _ _ _ K3
 ·go_wp2_with (first | (refine wpList_store_mid rfl 56 (.tmp 13) (.tmp 29) rfl w2.heap.size 0 _ rfl rfl FA (qzb (qzc h 0 0 0)) (qzg _) ?_; rw [hset]) | (refine wpList_load_mid rfl 56 (.tmp 13) rfl w2.heap.size 0 rfl (hdC (qz2g h 2 k v)) _ ?hc Try.underlying56 rfl (qz1 _) ?_) | (refine wpList_store_mid rfl 56 (.tmp 10) (.tmp 56) rfl (w.heap.size + 1 + 1) 0 _ rfl rfl ?ht ?hi ?h1 ?_))
  case hc => exact R3
  case ht => exact F3
  case hi => exact qzb _
  case h1 => exact qzg _
  refine bodyPost_ret (v := .tuple #[.agg (hdC (qz2g h 2 k v)).toArray, .int .i64 0]) ?_ rfl ⟨by rw [hq.out.1, hq.out.2], ?_⟩
  ·exact qzn Try.results100 _ _ (w.heap.size + 1 + 1) 0 rfl (hdC (qz2g h 2 k v)) _ (World.rangeAt_setCells_same _ _ _ _ F3) Try.underlying56 rfl (qz1 _)
  ·exact Below.setCells (by omega) _ _ _ K3
 ·go_wp2_with (first | (refine wpList_store_mid rfl 56 (.tmp 13) (.tmp 29) rfl w2.heap.size 0 _ rfl rfl FA (qzb (qzc h 0 0 0)) (qzg _) ?_; rw [hset]) | (refine wpList_load_mid rfl 56 (.tmp 13) rfl w2.heap.size 0 rfl (hdC (qz2g h 3 k v)) _ ?hc Try.underlying56 rfl (qz1 _) ?_) | (refine wpList_store_mid rfl 56 (.tmp 10) (.tmp 56) rfl (w.heap.size + 1 + 1) 0 _ rfl rfl ?ht ?hi ?h1 ?_))
  case hc => exact R3
  case ht => exact F3
  case hi => exact qzb _
  case h1 => exact qzg _
  refine bodyPost_ret (v := .tuple #[.agg (hdC (qz2g h 3 k v)).toArray, .int .i64 0]) ?_ rfl ⟨by rw [hq.out.1, hq.out.2], ?_⟩
  ·exact qzn Try.results100 _ _ (w.heap.size + 1 + 1) 0 rfl (hdC (qz2g h 3 k v)) _ (World.rangeAt_setCells_same _ _ _ _ F3) Try.underlying56 rfl (qz1 _)
  ·exact Below.setCells (by omega) _ _ _ K3
 ·go_wp2_with (first | (refine wpList_store_mid rfl 56 (.tmp 13) (.tmp 29) rfl w2.heap.size 0 _ rfl rfl FA (qzb (qzc h 0 0 0)) (qzg _) ?_; rw [hset]) | (refine wpList_load_mid rfl 56 (.tmp 13) rfl w2.heap.size 0 rfl (hdC (qz2g h 4 k v)) _ ?hc Try.underlying56 rfl (qz1 _) ?_) | (refine wpList_store_mid rfl 56 (.tmp 10) (.tmp 56) rfl (w.heap.size + 1 + 1) 0 _ rfl rfl ?ht ?hi ?h1 ?_))
  case hc => exact R3
  case ht => exact F3
  case hi => exact qzb _
  case h1 => exact qzg _
  refine bodyPost_ret (v := .tuple #[.agg (hdC (qz2g h 4 k v)).toArray, .int .i64 0]) ?_ rfl ⟨by rw [hq.out.1, hq.out.2], ?_⟩
  ·exact qzn Try.results100 _ _ (w.heap.size + 1 + 1) 0 rfl (hdC (qz2g h 4 k v)) _ (World.rangeAt_setCells_same _ _ _ _ F3) Try.underlying56 rfl (qz1 _)
  ·exact Below.setCells (by omega) _ _ _ K3
 ·go_wp2_with (first | (refine wpList_store_mid rfl 56 (.tmp 13) (.tmp 29) rfl w2.heap.size 0 _ rfl rfl FA (qzb (qzc h 0 0 0)) (qzg _) ?_; rw [hset]) | (refine wpList_load_mid rfl 56 (.tmp 13) rfl w2.heap.size 0 rfl (hdC (qz2g h 5 k v)) _ ?hc Try.underlying56 rfl (qz1 _) ?_) | (refine wpList_store_mid rfl 56 (.tmp 10) (.tmp 56) rfl (w.heap.size + 1 + 1) 0 _ rfl rfl ?ht ?hi ?h1 ?_))
  case hc => exact R3
  case ht => exact F3
  case hi => exact qzb _
  case h1 => exact qzg _
  refine bodyPost_ret (v := .tuple #[.agg (hdC (qz2g h 5 k v)).toArray, .int .i64 0]) ?_ rfl ⟨by rw [hq.out.1, hq.out.2], ?_⟩
  ·exact qzn Try.results100 _ _ (w.heap.size + 1 + 1) 0 rfl (hdC (qz2g h 5 k v)) _ (World.rangeAt_setCells_same _ _ _ _ F3) Try.underlying56 rfl (qz1 _)
  ·exact Below.setCells (by omega) _ _ _ K3
 ·go_wp2_with (first | (refine wpList_store_mid rfl 56 (.tmp 13) (.tmp 29) rfl w2.heap.size 0 _ rfl rfl FA (qzb (qzc h 0 0 0)) (qzg _) ?_; rw [hset]) | (refine wpList_load_mid rfl 56 (.tmp 13) rfl w2.heap.size 0 rfl (hdC (qz2g h 6 k v)) _ ?hc Try.underlying56 rfl (qz1 _) ?_) | (refine wpList_store_mid rfl 56 (.tmp 10) (.tmp 56) rfl (w.heap.size + 1 + 1) 0 _ rfl rfl ?ht ?hi ?h1 ?_))
  case hc => exact R3
  case ht => exact F3
  case hi => exact qzb _
  case h1 => exact qzg _
  refine bodyPost_ret (v := .tuple #[.agg (hdC (qz2g h 6 k v)).toArray, .int .i64 0]) ?_ rfl ⟨by rw [hq.out.1, hq.out.2], ?_⟩
  ·exact qzn Try.results100 _ _ (w.heap.size + 1 + 1) 0 rfl (hdC (qz2g h 6 k v)) _ (World.rangeAt_setCells_same _ _ _ _ F3) Try.underlying56 rfl (qz1 _)
  ·exact Below.setCells (by omega) _ _ _ K3
 ·go_wp2_with (first | (refine wpList_store_mid rfl 56 (.tmp 13) (.tmp 29) rfl w2.heap.size 0 _ rfl rfl FA (qzb (qzc h 0 0 0)) (qzg _) ?_; rw [hset]) | (refine wpList_load_mid rfl 56 (.tmp 13) rfl w2.heap.size 0 rfl (hdC (qz2g h 7 k v)) _ ?hc Try.underlying56 rfl (qz1 _) ?_) | (refine wpList_store_mid rfl 56 (.tmp 10) (.tmp 56) rfl (w.heap.size + 1 + 1) 0 _ rfl rfl ?ht ?hi ?h1 ?_))
  case hc => exact R3
  case ht => exact F3
  case hi => exact qzb _
  case h1 => exact qzg _
  refine bodyPost_ret (v := .tuple #[.agg (hdC (qz2g h 7 k v)).toArray, .int .i64 0]) ?_ rfl ⟨by rw [hq.out.1, hq.out.2], ?_⟩
  ·exact qzn Try.results100 _ _ (w.heap.size + 1 + 1) 0 rfl (hdC (qz2g h 7 k v)) _ (World.rangeAt_setCells_same _ _ _ _ F3) Try.underlying56 rfl (qz1 _)
  ·exact Below.setCells (by omega) _ _ _ K3
 ·go_wp2_with (first | (refine wpList_store_mid rfl 56 (.tmp 13) (.tmp 29) rfl w2.heap.size 0 _ rfl rfl FA (qzb (qzc h 0 0 0)) (qzg _) ?_; rw [hset]) | (refine wpList_load_mid rfl 56 (.tmp 13) rfl w2.heap.size 0 rfl (hdC (qz2g h 8 k v)) _ ?hc Try.underlying56 rfl (qz1 _) ?_) | (refine wpList_store_mid rfl 56 (.tmp 10) (.tmp 56) rfl (w.heap.size + 1 + 1) 0 _ rfl rfl ?ht ?hi ?h1 ?_))
  case hc => exact R3
  case ht => exact F3
  case hi => exact qzb _
  case h1 => exact qzg _
  refine bodyPost_ret (v := .tuple #[.agg (hdC (qz2g h 8 k v)).toArray, .int .i64 0]) ?_ rfl ⟨by rw [hq.out.1, hq.out.2], ?_⟩
  ·exact qzn Try.results100 _ _ (w.heap.size + 1 + 1) 0 rfl (hdC (qz2g h 8 k v)) _ (World.rangeAt_setCells_same _ _ _ _ F3) Try.underlying56 rfl (qz1 _)
  ·exact Below.setCells (by omega) _ _ _ K3
end
end Go.Proofs.Ythjkdnlmopafkaa
