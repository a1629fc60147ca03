/-
  What the law's proof goes by, part 8.
-/
import Derived.Test.YthjkdnlmopafkaaGreatFnSealed00
import Derived.Test.YthjkdnlmopafkaaGreatFnSealed06
namespace Go.Proofs.YthjkdnlmopafkaaGreat
open Go.ChangeShapes Go.WideShapes Go.ChangeAt Go.RowKit
set_option maxRecDepth 100000
set_option maxHeartbeats 16000000
set_option linter.unusedVariables false
set_option linter.unusedSimpArgs false
set_option linter.unnecessarySimpa false
set_option linter.unusedSectionVars false
section
attribute [local go_sem ↓] Go.wp_at_zero Go.wp_at_succ
def qz4h (c k v : Int) : Bool :=
 if c = 1 then inB k 0 63 && inB v 0 9999 else if c = 7 then inB k 0 63 && inB v 0 63 else if c = 2 ∨ c = 3 ∨ c = 6 then inB k 0 63 && (v == 0) else if c = 4 ∨ c = 5 ∨ c = 8 then (k == -1) && (v == 0) else false
def qz36 (x y z u : Int) (h : Hd) (c k v : Int) : Int :=
 if qz3m x y z u h = false then 5 else if h.at_ ≠ 0 then 1 else if qz4h c k v = false then 2 else if h.held < 0 /\ (c = 5 ∨ c = 6 ∨ c = 7) then 3 else if 0 <= h.held /\ c = 4 then 4 else 0
def qz7x : Hd := ⟨0, 0, 0, 0, 0, 0, 0, 0, 0, 0, 0, 0, 0, 0, 0, 0, 0, 0, 0, 0, 0, 0⟩
def qze9 (c : Int) : Int := if c = 1 ∨ c = 2 ∨ c = 3 then 1 else if c = 4 then 13 else if c = 5 then 18 else if c = 6 ∨ c = 7 then 2 else if c = 8 then 20 else 0
def qze6 (c : Int) : Int := if c = 6 ∨ c = 7 then 6 else 0
def qz2w (h : Hd) (c k v : Int) : Hd := ⟨qze9 c, qze6 c, c, k, v, 0, 0, 0, 0, h.held, 0, 0, 0, 0, 0, 0, -1, 0, -1, 0, 0, 0⟩
def qz3j (x y z u : Int) (h : Hd) (c k v : Int) : Hd :=
 if qz36 x y z u h c k v = 5 then qz7x else if qz36 x y z u h c k v ≠ 0 then h else qz2w h c k v
theorem qz26 (c k v : Int) (w : World) :
  Calls Tryz.prog 119 #[.int .i64 c, .int .i64 k, .int .i64 v] w fun e w' => e = .returned (.bool (qz4h c k v)) /\ w' = w := by
 by_cases c1 : c = 1
 ·subst c1
  cases e1 : inB k 0 63
  ·have hv : qz4h 1 k v = false := by simp [qz4h, e1]
   go_enter Tryz.func119, Tryz.ntmps119
   go_wp2_with (first | (go_at_call 123; refine (qzs _ _).mono ?_; rintro e w' ⟨rfl, hw⟩; obtain rfl := hw.symm) | (go_at_call 63; refine (qzg _ _ _ _).mono ?_; rintro e w' ⟨rfl, hw⟩; obtain rfl := hw.symm))
   go_ret
   exact ⟨by first | rfl | (rw [hv]; rfl), rfl⟩
  have hv : qz4h 1 k v = inB v 0 9999 := by simp [qz4h, e1]
  go_enter Tryz.func119, Tryz.ntmps119
  go_wp2_with (first | (go_at_call 123; refine (qzs _ _).mono ?_; rintro e w' ⟨rfl, hw⟩; obtain rfl := hw.symm) | (go_at_call 63; refine (qzg _ _ _ _).mono ?_; rintro e w' ⟨rfl, hw⟩; obtain rfl := hw.symm))
  go_ret
  exact ⟨by first | rfl | (rw [hv]; rfl), rfl⟩
 by_cases c7 : c = 7
 ·subst c7
  cases e1 : inB k 0 63
  ·have hv : qz4h 7 k v = false := by simp [qz4h, e1]
   go_enter Tryz.func119, Tryz.ntmps119
   go_wp2_with (first | (go_at_call 123; refine (qzs _ _).mono ?_; rintro e w' ⟨rfl, hw⟩; obtain rfl := hw.symm) | (go_at_call 63; refine (qzg _ _ _ _).mono ?_; rintro e w' ⟨rfl, hw⟩; obtain rfl := hw.symm))
   go_ret
   exact ⟨by first | rfl | (rw [hv]; rfl), rfl⟩
  have hv : qz4h 7 k v = inB v 0 63 := by simp [qz4h, e1]
  go_enter Tryz.func119, Tryz.ntmps119
  go_wp2_with (first | (go_at_call 123; refine (qzs _ _).mono ?_; rintro e w' ⟨rfl, hw⟩; obtain rfl := hw.symm) | (go_at_call 63; refine (qzg _ _ _ _).mono ?_; rintro e w' ⟨rfl, hw⟩; obtain rfl := hw.symm))
  go_ret
  exact ⟨by first | rfl | (rw [hv]; rfl), rfl⟩
 by_cases c2 : c = 2
 ·subst c2
  cases e1 : inB k 0 63
  ·have hv : qz4h 2 k v = false := by simp [qz4h, e1]
   go_enter Tryz.func119, Tryz.ntmps119
   go_wp2_with (first | (go_at_call 123; refine (qzs _ _).mono ?_; rintro e w' ⟨rfl, hw⟩; obtain rfl := hw.symm) | (go_at_call 63; refine (qzg _ _ _ _).mono ?_; rintro e w' ⟨rfl, hw⟩; obtain rfl := hw.symm))
   go_ret
   exact ⟨by first | rfl | (rw [hv]; rfl), rfl⟩
  have hv : qz4h 2 k v = (v == 0) := by simp [qz4h, e1]
  go_enter Tryz.func119, Tryz.ntmps119
  go_wp2_with (first | (go_at_call 123; refine (qzs _ _).mono ?_; rintro e w' ⟨rfl, hw⟩; obtain rfl := hw.symm) | (go_at_call 63; refine (qzg _ _ _ _).mono ?_; rintro e w' ⟨rfl, hw⟩; obtain rfl := hw.symm))
  go_ret
  exact ⟨by first | rfl | (rw [hv]; rfl), rfl⟩
 by_cases c3 : c = 3
 ·subst c3
  cases e1 : inB k 0 63
  ·have hv : qz4h 3 k v = false := by simp [qz4h, e1]
   go_enter Tryz.func119, Tryz.ntmps119
   go_wp2_with (first | (go_at_call 123; refine (qzs _ _).mono ?_; rintro e w' ⟨rfl, hw⟩; obtain rfl := hw.symm) | (go_at_call 63; refine (qzg _ _ _ _).mono ?_; rintro e w' ⟨rfl, hw⟩; obtain rfl := hw.symm))
   go_ret
   exact ⟨by first | rfl | (rw [hv]; rfl), rfl⟩
  have hv : qz4h 3 k v = (v == 0) := by simp [qz4h, e1]
  go_enter Tryz.func119, Tryz.ntmps119
  go_wp2_with (first | (go_at_call 123; refine (qzs _ _).mono ?_; rintro e w' ⟨rfl, hw⟩; obtain rfl := hw.symm) | (go_at_call 63; refine (qzg _ _ _ _).mono ?_; rintro e w' ⟨rfl, hw⟩; obtain rfl := hw.symm))
  go_ret
  exact ⟨by first | rfl | (rw [hv]; rfl), rfl⟩
 by_cases c6 : c = 6
 ·subst c6
  cases e1 : inB k 0 63
  ·have hv : qz4h 6 k v = false := by simp [qz4h, e1]
   go_enter Tryz.func119, Tryz.ntmps119
   go_wp2_with (first | (go_at_call 123; refine (qzs _ _).mono ?_; rintro e w' ⟨rfl, hw⟩; obtain rfl := hw.symm) | (go_at_call 63; refine (qzg _ _ _ _).mono ?_; rintro e w' ⟨rfl, hw⟩; obtain rfl := hw.symm))
   go_ret
   exact ⟨by first | rfl | (rw [hv]; rfl), rfl⟩
  have hv : qz4h 6 k v = (v == 0) := by simp [qz4h, e1]
  go_enter Tryz.func119, Tryz.ntmps119
  go_wp2_with (first | (go_at_call 123; refine (qzs _ _).mono ?_; rintro e w' ⟨rfl, hw⟩; obtain rfl := hw.symm) | (go_at_call 63; refine (qzg _ _ _ _).mono ?_; rintro e w' ⟨rfl, hw⟩; obtain rfl := hw.symm))
  go_ret
  exact ⟨by first | rfl | (rw [hv]; rfl), rfl⟩
 by_cases c4 : c = 4
 ·subst c4
  cases e1 : (k == -1)
  ·have hv : qz4h 4 k v = false := by simp [qz4h, e1]
   go_enter Tryz.func119, Tryz.ntmps119
   go_wp2_with (first | (go_at_call 123; refine (qzs _ _).mono ?_; rintro e w' ⟨rfl, hw⟩; obtain rfl := hw.symm) | (go_at_call 63; refine (qzg _ _ _ _).mono ?_; rintro e w' ⟨rfl, hw⟩; obtain rfl := hw.symm))
   go_ret
   exact ⟨by first | rfl | (rw [hv]; rfl), rfl⟩
  have hv : qz4h 4 k v = (v == 0) := by simp [qz4h, e1]
  go_enter Tryz.func119, Tryz.ntmps119
  go_wp2_with (first | (go_at_call 123; refine (qzs _ _).mono ?_; rintro e w' ⟨rfl, hw⟩; obtain rfl := hw.symm) | (go_at_call 63; refine (qzg _ _ _ _).mono ?_; rintro e w' ⟨rfl, hw⟩; obtain rfl := hw.symm))
  go_ret
  exact ⟨by first | rfl | (rw [hv]; rfl), rfl⟩
 by_cases c5 : c = 5
 ·subst c5
  cases e1 : (k == -1)
  ·have hv : qz4h 5 k v = false := by simp [qz4h, e1]
   go_enter Tryz.func119, Tryz.ntmps119
   go_wp2_with (first | (go_at_call 123; refine (qzs _ _).mono ?_; rintro e w' ⟨rfl, hw⟩; obtain rfl := hw.symm) | (go_at_call 63; refine (qzg _ _ _ _).mono ?_; rintro e w' ⟨rfl, hw⟩; obtain rfl := hw.symm))
   go_ret
   exact ⟨by first | rfl | (rw [hv]; rfl), rfl⟩
  have hv : qz4h 5 k v = (v == 0) := by simp [qz4h, e1]
  go_enter Tryz.func119, Tryz.ntmps119
  go_wp2_with (first | (go_at_call 123; refine (qzs _ _).mono ?_; rintro e w' ⟨rfl, hw⟩; obtain rfl := hw.symm) | (go_at_call 63; refine (qzg _ _ _ _).mono ?_; rintro e w' ⟨rfl, hw⟩; obtain rfl := hw.symm))
  go_ret
  exact ⟨by first | rfl | (rw [hv]; rfl), rfl⟩
 by_cases c8 : c = 8
 ·subst c8
  cases e1 : (k == -1)
  ·have hv : qz4h 8 k v = false := by simp [qz4h, e1]
   go_enter Tryz.func119, Tryz.ntmps119
   go_wp2_with (first | (go_at_call 123; refine (qzs _ _).mono ?_; rintro e w' ⟨rfl, hw⟩; obtain rfl := hw.symm) | (go_at_call 63; refine (qzg _ _ _ _).mono ?_; rintro e w' ⟨rfl, hw⟩; obtain rfl := hw.symm))
   go_ret
   exact ⟨by first | rfl | (rw [hv]; rfl), rfl⟩
  have hv : qz4h 8 k v = (v == 0) := by simp [qz4h, e1]
  go_enter Tryz.func119, Tryz.ntmps119
  go_wp2_with (first | (go_at_call 123; refine (qzs _ _).mono ?_; rintro e w' ⟨rfl, hw⟩; obtain rfl := hw.symm) | (go_at_call 63; refine (qzg _ _ _ _).mono ?_; rintro e w' ⟨rfl, hw⟩; obtain rfl := hw.symm))
  go_ret
  exact ⟨by first | rfl | (rw [hv]; rfl), rfl⟩
 have hv : qz4h c k v = false := by simp [qz4h, c1, c2, c3, c4, c5, c6, c7, c8]
 go_enter Tryz.func119, Tryz.ntmps119
 go_wp2_with (first | (go_at_call 123; refine (qzs _ _).mono ?_; rintro e w' ⟨rfl, hw⟩; obtain rfl := hw.symm) | (go_at_call 63; refine (qzg _ _ _ _).mono ?_; rintro e w' ⟨rfl, hw⟩; obtain rfl := hw.symm))
 go_ret
 exact ⟨by first | rfl | (rw [hv]; rfl), rfl⟩
theorem qzd0 (x y z u : Int) (h : Hd) (c k v : Int) (w : World) :
  Calls Tryz.prog 146 #[.agg Q06, .agg (hdC h).toArray, .int .i64 c, .int .i64 k, .int .i64 v] w fun e w' => e = .returned (.int .i64 (qz36 x y z u h c k v)) /\ Below Q7b w w' := by
 show Calls Tryz.prog 146 #[.agg Q06, .agg Q07, .int .i64 c, .int .i64 k, .int .i64 v] w fun e w' => e = .returned (.int .i64 (qz36 x y z u h c k v)) /\ Below Q7b w w'
 have P0 := (qz1w w x y z u 28).below ((Q7g _ _).alloc (Q7l _) Q0d) (by simp)
 have X0 := qz6 Q4y (hdC h) 53
 have K0 := ((Q7g Q7b w).alloc (Q7l _) (.cells Q06 28)).alloc (by simp) Q0d
 have hz0 : Q7b + 1 < (Q4v).heap.size := by simp
 simp only [World.size_alloc] at X0
 obtain ⟨p0, p1, p2, p3⟩ := id P0
 go_enter Tryz.func146, Tryz.ntmps146
 go_wp2_with (refine Q7j rfl 53 (.tmp 6) rfl (Q7b + 1) 0 rfl (hdC h) _ ?hc Q7d rfl (qz1 h) ?_)
 case hc => exact X0
 change Calls Tryz.prog _ _ Q4v _
 generalize hw0 : (Q4y).alloc Q0d = w0 at *
 clear hw0 p0 p1 p2 p3 P0
 refine (qz4z x y z u h _).mono ?_
 rintro e w1 ⟨rfl, b1⟩
 have X1 := qz0 X0 b1 hz0
 have K1 := K0.trans (b1.mono (by omega))
 clear X0 K0 b1 hz0
 have q0 : w1.cell? ⟨Q7b + 1, 0, none⟩ = some (.int .i64 h.at_) := by simpa using X1 0 (.int .i64 h.at_) rfl
 have q9 : w1.cell? ⟨Q7b + 1, 9, none⟩ = some (.int .i64 h.held) := by simpa using X1 9 (.int .i64 h.held) rfl
 clear X1
 cases e1 : qz3m x y z u h
 ·have hv : qz36 x y z u h c k v = 5 := by simp [qz36, e1]
  go_wp2
  go_ret
  exact ⟨by first | rfl | (rw [hv]; rfl), K1⟩
 by_cases e2 : h.at_ = 0
 case neg =>
  have hv : qz36 x y z u h c k v = 1 := by simp [qz36, e1, e2]
  go_wp2
  go_ret
  exact ⟨by first | rfl | (rw [hv]; rfl), K1⟩
 cases e3 : qz4h c k v
 ·have hv : qz36 x y z u h c k v = 2 := by simp [qz36, e1, e2, e3]
  go_wp2_with (go_at_call 119; refine (qz26 _ _ _ _).mono ?_; rintro e w' ⟨rfl, hw⟩; obtain rfl := hw.symm)
  go_ret
  exact ⟨by first | rfl | (rw [hv]; rfl), K1⟩
 by_cases e4 : h.held < 0
 ·have e5 : ¬ (0 <= h.held) := by omega
  by_cases c5 : c = 5
  ·subst c5
   have hv : qz36 x y z u h 5 k v = 3 := by simp [qz36, e1, e2, e3, e4]
   go_wp2_with (go_at_call 119; refine (qz26 _ _ _ _).mono ?_; rintro e w' ⟨rfl, hw⟩; obtain rfl := hw.symm)
   go_ret
   exact ⟨by first | rfl | (rw [hv]; rfl), K1⟩
  by_cases c6 : c = 6
  ·subst c6
   have hv : qz36 x y z u h 6 k v = 3 := by simp [qz36, e1, e2, e3, e4]
   go_wp2_with (go_at_call 119; refine (qz26 _ _ _ _).mono ?_; rintro e w' ⟨rfl, hw⟩; obtain rfl := hw.symm)
   go_ret
   exact ⟨by first | rfl | (rw [hv]; rfl), K1⟩
  by_cases c7 : c = 7
  ·subst c7
   have hv : qz36 x y z u h 7 k v = 3 := by simp [qz36, e1, e2, e3, e4]
   go_wp2_with (go_at_call 119; refine (qz26 _ _ _ _).mono ?_; rintro e w' ⟨rfl, hw⟩; obtain rfl := hw.symm)
   go_ret
   exact ⟨by first | rfl | (rw [hv]; rfl), K1⟩
  have b5 : (c == 5) = false := by simp [c5]
  have b6 : (c == 6) = false := by simp [c6]
  have b7 : (c == 7) = false := by simp [c7]
  have hv : qz36 x y z u h c k v = 0 := by simp [qz36, e1, e2, e3, e5, c5, c6, c7]
  go_wp2_with (go_at_call 119; refine (qz26 _ _ _ _).mono ?_; rintro e w' ⟨rfl, hw⟩; obtain rfl := hw.symm)
  go_ret
  exact ⟨by first | rfl | (rw [hv]; rfl), K1⟩
 have e5 : 0 <= h.held := by omega
 by_cases c4 : c = 4
 ·subst c4
  have hv : qz36 x y z u h 4 k v = 4 := by simp [qz36, e1, e2, e3, e4, e5]
  go_wp2_with (go_at_call 119; refine (qz26 _ _ _ _).mono ?_; rintro e w' ⟨rfl, hw⟩; obtain rfl := hw.symm)
  go_ret
  exact ⟨by first | rfl | (rw [hv]; rfl), K1⟩
 have b4 : (c == 4) = false := by simp [c4]
 have hv : qz36 x y z u h c k v = 0 := by simp [qz36, e1, e2, e3, e4, c4]
 go_wp2_with (go_at_call 119; refine (qz26 _ _ _ _).mono ?_; rintro e w' ⟨rfl, hw⟩; obtain rfl := hw.symm)
 go_ret
 exact ⟨by first | rfl | (rw [hv]; rfl), K1⟩
theorem qz88 {x y z u : Int} {h : Hd} {c k v : Int} (e : qz36 x y z u h c k v = 0) : qz3m x y z u h = true /\ h.at_ = 0 /\ qz4h c k v = true /\ ¬ (h.held < 0 /\ (c = 5 ∨ c = 6 ∨ c = 7)) /\ ¬ (0 <= h.held /\ c = 4) := by
 unfold qz36 at e
 split at e
 ·cases e
 rename_i h1
 split at e
 ·cases e
 rename_i h2
 split at e
 ·cases e
 rename_i h3
 split at e
 ·cases e
 rename_i h4
 split at e
 ·cases e
 rename_i h5
 exact ⟨by simpa using h1, by simpa using h2, by simpa using h3, h4, h5⟩
theorem qz8o {c k v : Int} (h : qz4h c k v = true) : c = 1 ∨ c = 2 ∨ c = 3 ∨ c = 4 ∨ c = 5 ∨ c = 6 ∨ c = 7 ∨ c = 8 := by
 unfold qz4h at h
 split at h
 ·omega
 split at h
 ·omega
 split at h
 ·omega
 split at h
 ·omega
 ·cases h
theorem qz91 (x y z u : Int) (h : Hd) (c k v : Int) (w : World) :
  Calls Tryz.prog 120 #[.agg Q06, .agg (hdC h).toArray, .int .i64 c, .int .i64 k, .int .i64 v] w fun e w' => e = .returned (.tuple #[.agg (hdC (qz3j x y z u h c k v)).toArray, .int .i64 (qz36 x y z u h c k v)]) /\ Below Q7b w w' := by
 show Calls Tryz.prog 120 #[.agg Q06, .agg Q07, .int .i64 c, .int .i64 k, .int .i64 v] w fun e w' => e = .returned (.tuple #[.agg (hdC (qz3j x y z u h c k v)).toArray, .int .i64 (qz36 x y z u h c k v)]) /\ Below Q7b w w'
 have P0 := ((qz1w w x y z u 28).below ((Q7g _ _).alloc (Q7l _) Q0d) (by simp)).below ((Q7g _ _).alloc (Q7l _) (.cells Q00 53)) (by simp; omega)
 have X0 := Q7n (qz6 Q4y (hdC h) 53) (.cells Q00 53)
 have F0 := qza Q4v Q00 53 22 (by decide)
 have K0 := (((Q7g Q7b w).alloc (Q7l _) (.cells Q06 28)).alloc (by simp) Q0d).alloc (by simp; omega) (.cells Q00 53)
 have hz0 : Q7b + 1 + 1 < ((Q4v).alloc (.cells Q00 53)).heap.size := by simp
 simp only [World.size_alloc] at X0 F0
 obtain ⟨p0, p1, p2, p3⟩ := id P0
 go_enter Tryz.func120, Tryz.ntmps120
 go_wp2_with (refine Q7j rfl 53 (.tmp 6) rfl (Q7b + 1) 0 rfl (hdC h) _ ?hc Q7d rfl (qz1 h) ?_)
 case hc => exact X0
 change Calls Tryz.prog _ _ ((Q4v).alloc (.cells Q00 53)) _
 generalize hw0 : (Q4v).alloc (.cells Q00 53) = w0 at *
 clear hw0 p0 p1 p2 p3 P0
 refine (qzd0 x y z u h c k v _).mono ?_
 rintro e w1 ⟨rfl, b1⟩
 have X1 := qz0 X0 b1 (by omega)
 have F1 := qz2 F0 b1 (by omega)
 have K1 := K0.trans (b1.mono (by omega))
 have hz1 := Q7o hz0 b1.size
 clear X0 F0 K0 b1 hz0
 by_cases e5 : qz36 x y z u h c k v = 5
 ·have hv : qz3j x y z u h c k v = qz7x := by simp [qz3j, e5]
  rw [e5]
  have hq : Hid (qz3j x y z u h c k v = qz7x /\ qz36 x y z u h c k v = 5) := ⟨hv, e5⟩
  clear hv e5
  go_wp2_with (refine Q7e rfl 53 (.tmp 10) (.tmp 22) rfl (Q7b + 1 + 1) 0 _ rfl rfl ?ht ?hi ?h1 ?_)
  case ht => exact F1
  case hi => exact qz7 qz7x
  case h1 => exact qzd qz7x
  refine bodyPost_ret (v := .tuple #[.agg (hdC qz7x).toArray, .int .i64 5]) ?_ rfl ⟨by rw [hq.out.1, hq.out.2], ?_⟩
  ·exact qzk Tryz.results120 _ _ (Q7b + 1 + 1) 0 rfl (hdC qz7x) _ (Q7c _ _ _ _ F1) Q7d rfl (qz1 qz7x)
  ·exact Below.setCells (by omega) _ _ _ K1
 by_cases e0 : qz36 x y z u h c k v = 0
 case neg =>
  have hv : qz3j x y z u h c k v = h := by simp [qz3j, e5, e0]
  have hq : Hid (qz3j x y z u h c k v = h) := hv
  clear hv
  go_wp2_with (first | (refine Q7j rfl 53 (.tmp 6) rfl (Q7b + 1) 0 rfl (hdC h) _ ?hc Q7d rfl (qz1 h) ?_) | (refine Q7e rfl 53 (.tmp 10) (.tmp 26) rfl (Q7b + 1 + 1) 0 _ rfl rfl ?ht ?hi ?h1 ?_))
  case hc => exact X1
  case ht => exact F1
  case hi => exact qz7 h
  case h1 => exact qzd h
  refine bodyPost_ret (v := .tuple #[.agg (hdC h).toArray, .int .i64 (qz36 x y z u h c k v)]) ?_ rfl ⟨by rw [hq.out], ?_⟩
  ·exact qzk Tryz.results120 _ _ (Q7b + 1 + 1) 0 rfl (hdC h) _ (Q7c _ _ _ _ F1) Q7d rfl (qz1 h)
  ·exact Below.setCells (by omega) _ _ _ K1
 have hv : qz3j x y z u h c k v = qz2w h c k v := by simp [qz3j, e0]
 obtain ⟨_, _, hfit, _, _⟩ := qz88 e0
 rw [e0]
 have hq : Hid (qz3j x y z u h c k v = qz2w h c k v /\ qz36 x y z u h c k v = 0) := ⟨hv, e0⟩
 clear hv e0 e5
 go_wp2_with (refine Q7j rfl 53 (.tmp 6) rfl (Q7b + 1) 0 rfl (hdC h) _ ?hc Q7d rfl (qz1 h) ?_)
 case hc => exact X1
 refine (qz5i h 0 0 0 _).mono ?_
 rintro e w2 ⟨rfl, b2⟩
 have F2 := qz2 F1 b2 (by omega)
 have K2 := K1.trans (b2.mono (by omega))
 have hz2 := Q7o hz1 b2.size
 clear X1 F1 K1 b2 hz1
 have hset : (w2.alloc (.cells Q00 53)).setCells Q7x 0 (hdC (qz9 h 0 0 0)).toArray.toList = w2.alloc (.cells #[.int .i64 0, .int .i64 0, .int .i64 0, .int .i64 (-1), .int .i64 0, .int .i64 0, .int .i64 0, .int .i64 0, .int .i64 0, .int .i64 h.held, .int .i64 0, .int .i64 0, .int .i64 0, .int .i64 0, .int .i64 0, .int .i64 0, .int .i64 (-1), .int .i64 0, .int .i64 (-1), .int .i64 0, .int .i64 0, .int .i64 0] 53) := qz10 w2 53 (hdC (qz9 h 0 0 0)) [] Q0l rfl
 have FA := qza w2 Q00 53 22 (by decide)
 have K3 := K2.alloc (by omega) (.cells (hdC (qz2w h c k v)).toArray 53)
 have R3 := qz6 w2 (hdC (qz2w h c k v)) 53
 have F3 := Q80 F2 (.cells (hdC (qz2w h c k v)).toArray 53)
 have fin : ∀ ws : World, ws = w2.alloc (.cells (hdC (qz2w h c k v)).toArray 53) -> ws.there (Q7b + 1 + 1) 0 22 /\ ws.rangeAt Q7x 0 (hdC (qz2w h c k v)) /\ Below Q7b w ws := by
  rintro ws rfl
  exact ⟨F3, R3, K3⟩
 rcases qz8o hfit with rfl | rfl | rfl | rfl | rfl | rfl | rfl | rfl
 ·go_wp2_with (first | (refine wpList_store_mid rfl 53 (.tmp 13) (.tmp 29) rfl w2.heap.size 0 _ rfl rfl FA (qz7 (qz9 h 0 0 0)) (qzd _) ?_; rw [hset]) | (refine wpList_load_mid rfl 53 (.tmp 13) rfl w2.heap.size 0 rfl (hdC (qz2w h 1 k v)) _ ?hc Tryz.underlying53 rfl (qz1 _) ?_) | (refine wpList_store_mid rfl 53 (.tmp 10) (.tmp 56) rfl (w.heap.size + 1 + 1) 0 _ rfl rfl ?ht ?hi ?h1 ?_))
  case hc => exact R3
  case ht => exact F3
  case hi => exact qz7 _
  case h1 => exact qzd _
  refine bodyPost_ret (v := .tuple #[.agg (hdC (qz2w h 1 k v)).toArray, .int .i64 0]) ?_ rfl ⟨by rw [hq.out.1, hq.out.2], ?_⟩
  ·exact qzk Tryz.results120 _ _ (Q7b + 1 + 1) 0 rfl (hdC (qz2w h 1 k v)) _ (Q7c _ _ _ _ F3) Q7d rfl (qz1 _)
  ·exact Below.setCells (by omega) _ _ _ K3
 ·go_wp2_with (first | (refine wpList_store_mid rfl 53 (.tmp 13) (.tmp 29) rfl w2.heap.size 0 _ rfl rfl FA (qz7 (qz9 h 0 0 0)) (qzd _) ?_; rw [hset]) | (refine wpList_load_mid rfl 53 (.tmp 13) rfl w2.heap.size 0 rfl (hdC (qz2w h 2 k v)) _ ?hc Tryz.underlying53 rfl (qz1 _) ?_) | (refine wpList_store_mid rfl 53 (.tmp 10) (.tmp 56) rfl (w.heap.size + 1 + 1) 0 _ rfl rfl ?ht ?hi ?h1 ?_))
  case hc => exact R3
  case ht => exact F3
  case hi => exact qz7 _
  case h1 => exact qzd _
  refine bodyPost_ret (v := .tuple #[.agg (hdC (qz2w h 2 k v)).toArray, .int .i64 0]) ?_ rfl ⟨by rw [hq.out.1, hq.out.2], ?_⟩
  ·exact qzk Tryz.results120 _ _ (Q7b + 1 + 1) 0 rfl (hdC (qz2w h 2 k v)) _ (Q7c _ _ _ _ F3) Q7d rfl (qz1 _)
  ·exact Below.setCells (by omega) _ _ _ K3
 ·go_wp2_with (first | (refine wpList_store_mid rfl 53 (.tmp 13) (.tmp 29) rfl w2.heap.size 0 _ rfl rfl FA (qz7 (qz9 h 0 0 0)) (qzd _) ?_; rw [hset]) | (refine wpList_load_mid rfl 53 (.tmp 13) rfl w2.heap.size 0 rfl (hdC (qz2w h 3 k v)) _ ?hc Tryz.underlying53 rfl (qz1 _) ?_) | (refine wpList_store_mid rfl 53 (.tmp 10) (.tmp 56) rfl (w.heap.size + 1 + 1) 0 _ rfl rfl ?ht ?hi ?h1 ?_))
  case hc => exact R3
  case ht => exact F3
  case hi => exact qz7 _
  case h1 => exact qzd _
  refine bodyPost_ret (v := .tuple #[.agg (hdC (qz2w h 3 k v)).toArray, .int .i64 0]) ?_ rfl ⟨by rw [hq.out.1, hq.out.2], ?_⟩
  ·exact qzk Tryz.results120 _ _ (Q7b + 1 + 1) 0 rfl (hdC (qz2w h 3 k v)) _ (Q7c _ _ _ _ F3) Q7d rfl (qz1 _)
  ·exact Below.setCells (by omega) _ _ _ K3
 ·go_wp2_with (first | (refine wpList_store_mid rfl 53 (.tmp 13) (.tmp 29) rfl w2.heap.size 0 _ rfl rfl FA (qz7 (qz9 h 0 0 0)) (qzd _) ?_; rw [hset]) | (refine wpList_load_mid rfl 53 (.tmp 13) rfl w2.heap.size 0 rfl (hdC (qz2w h 4 k v)) _ ?hc Tryz.underlying53 rfl (qz1 _) ?_) | (refine wpList_store_mid rfl 53 (.tmp 10) (.tmp 56) rfl (w.heap.size + 1 + 1) 0 _ rfl rfl ?ht ?hi ?h1 ?_))
  case hc => exact R3
  case ht => exact F3
  case hi => exact qz7 _
  case h1 => exact qzd _
  refine bodyPost_ret (v := .tuple #[.agg (hdC (qz2w h 4 k v)).toArray, .int .i64 0]) ?_ rfl ⟨by rw [hq.out.1, hq.out.2], ?_⟩
  ·exact qzk Tryz.results120 _ _ (Q7b + 1 + 1) 0 rfl (hdC (qz2w h 4 k v)) _ (Q7c _ _ _ _ F3) Q7d rfl (qz1 _)
  ·exact Below.setCells (by omega) _ _ _ K3
 ·go_wp2_with (first | (refine wpList_store_mid rfl 53 (.tmp 13) (.tmp 29) rfl w2.heap.size 0 _ rfl rfl FA (qz7 (qz9 h 0 0 0)) (qzd _) ?_; rw [hset]) | (refine wpList_load_mid rfl 53 (.tmp 13) rfl w2.heap.size 0 rfl (hdC (qz2w h 5 k v)) _ ?hc Tryz.underlying53 rfl (qz1 _) ?_) | (refine wpList_store_mid rfl 53 (.tmp 10) (.tmp 56) rfl (w.heap.size + 1 + 1) 0 _ rfl rfl ?ht ?hi ?h1 ?_))
  case hc => exact R3
  case ht => exact F3
  case hi => exact qz7 _
  case h1 => exact qzd _
  refine bodyPost_ret (v := .tuple #[.agg (hdC (qz2w h 5 k v)).toArray, .int .i64 0]) ?_ rfl ⟨by rw [hq.out.1, hq.out.2], ?_⟩
  ·exact qzk Tryz.results120 _ _ (Q7b + 1 + 1) 0 rfl (hdC (qz2w h 5 k v)) _ (Q7c _ _ _ _ F3) Q7d rfl (qz1 _)
  ·exact Below.setCells (by omega) _ _ _ K3
 ·go_wp2_with (first | (refine wpList_store_mid rfl 53 (.tmp 13) (.tmp 29) rfl w2.heap.size 0 _ rfl rfl FA (qz7 (qz9 h 0 0 0)) (qzd _) ?_; rw [hset]) | (refine wpList_load_mid rfl 53 (.tmp 13) rfl w2.heap.size 0 rfl (hdC (qz2w h 6 k v)) _ ?hc Tryz.underlying53 rfl (qz1 _) ?_) | (refine wpList_store_mid rfl 53 (.tmp 10) (.tmp 56) rfl (w.heap.size + 1 + 1) 0 _ rfl rfl ?ht ?hi ?h1 ?_))
  case hc => exact R3
  case ht => exact F3
  case hi => exact qz7 _
  case h1 => exact qzd _
  refine bodyPost_ret (v := .tuple #[.agg (hdC (qz2w h 6 k v)).toArray, .int .i64 0]) ?_ rfl ⟨by rw [hq.out.1, hq.out.2], ?_⟩
  ·exact qzk Tryz.results120 _ _ (Q7b + 1 + 1) 0 rfl (hdC (qz2w h 6 k v)) _ (Q7c _ _ _ _ F3) Q7d rfl (qz1 _)
  ·exact Below.setCells (by omega) _ _ _ K3
 ·go_wp2_with (first | (refine wpList_store_mid rfl 53 (.tmp 13) (.tmp 29) rfl w2.heap.size 0 _ rfl rfl FA (qz7 (qz9 h 0 0 0)) (qzd _) ?_; rw [hset]) | (refine wpList_load_mid rfl 53 (.tmp 13) rfl w2.heap.size 0 rfl (hdC (qz2w h 7 k v)) _ ?hc Tryz.underlying53 rfl (qz1 _) ?_) | (refine wpList_store_mid rfl 53 (.tmp 10) (.tmp 56) rfl (w.heap.size + 1 + 1) 0 _ rfl rfl ?ht ?hi ?h1 ?_))
  case hc => exact R3
  case ht => exact F3
  case hi => exact qz7 _
  case h1 => exact qzd _
  refine bodyPost_ret (v := .tuple #[.agg (hdC (qz2w h 7 k v)).toArray, .int .i64 0]) ?_ rfl ⟨by rw [hq.out.1, hq.out.2], ?_⟩
  ·exact qzk Tryz.results120 _ _ (Q7b + 1 + 1) 0 rfl (hdC (qz2w h 7 k v)) _ (Q7c _ _ _ _ F3) Q7d rfl (qz1 _)
  ·exact Below.setCells (by omega) _ _ _ K3
 ·go_wp2_with (first | (refine wpList_store_mid rfl 53 (.tmp 13) (.tmp 29) rfl w2.heap.size 0 _ rfl rfl FA (qz7 (qz9 h 0 0 0)) (qzd _) ?_; rw [hset]) | (refine wpList_load_mid rfl 53 (.tmp 13) rfl w2.heap.size 0 rfl (hdC (qz2w h 8 k v)) _ ?hc Tryz.underlying53 rfl (qz1 _) ?_) | (refine wpList_store_mid rfl 53 (.tmp 10) (.tmp 56) rfl (w.heap.size + 1 + 1) 0 _ rfl rfl ?ht ?hi ?h1 ?_))
  case hc => exact R3
  case ht => exact F3
  case hi => exact qz7 _
  case h1 => exact qzd _
  refine bodyPost_ret (v := .tuple #[.agg (hdC (qz2w h 8 k v)).toArray, .int .i64 0]) ?_ rfl ⟨by rw [hq.out.1, hq.out.2], ?_⟩
  ·exact qzk Tryz.results120 _ _ (Q7b + 1 + 1) 0 rfl (hdC (qz2w h 8 k v)) _ (Q7c _ _ _ _ F3) Q7d rfl (qz1 _)
  ·exact Below.setCells (by omega) _ _ _ K3
end
end Go.Proofs.YthjkdnlmopafkaaGreat
