/-
  What the law's proof goes by, part 8.
-/
import Derived.Test.YthjkdnlmopafkaaGreatDoorFnSwappedCard00
import Derived.Test.YthjkdnlmopafkaaGreatDoorFnSwappedCard06
namespace Go.Proofs.YthjkdnlmopafkaaGreatDoor
open Go.ChangeShapes Go.WideShapes Go.ChangeAt Go.RowKit
set_option maxRecDepth 100000
set_option maxHeartbeats 16000000
set_option linter.unusedVariables false
set_option linter.unusedSimpArgs false
set_option linter.unnecessarySimpa false
set_option linter.unusedSectionVars false
section
attribute [local go_sem ↓] Go.wp_at_zero Go.wp_at_succ
theorem qz1c (w : World) (T : TypeId) : ∀ (vs pre zs : List Value), zs.length = vs.length ->
  (w.alloc (.cells (pre ++ zs).toArray T)).setCells Q6o pre.length vs = w.alloc (.cells (pre ++ vs).toArray T)
 | [], pre, zs, h => by
  obtain rfl : zs = [] := List.eq_nil_of_length_eq_zero h
  rfl
 | v :: vs, pre, z :: zs, h => by
  simp only [World.setCells]
  have e : (w.alloc (.cells (pre ++ z :: zs).toArray T)).setCell ⟨Q6o, pre.length, none⟩ v = w.alloc (.cells ((pre ++ [v]) ++ zs).toArray T) := by
   rw [World.setCell_alloc_new]
   simp
  rw [e]
  have := qz1c w T vs (pre ++ [v]) zs (by simpa using h)
  simp only [List.length_append, List.length_cons, List.length_nil, Nat.zero_add] at this
  rw [this]
  simp
def newH : Hd := ⟨0, 0, 0, -1, 0, 0, 0, 0, 0, -1, 0, 0, 0, 0, 0, 0, -1, 0, -1, 0, 0, 0⟩
def qz9 (h : Hd) (rp ot sm : Int) : Hd := ⟨0, 0, 0, -1, 0, 0, rp, ot, sm, h.held, 0, 0, 0, 0, 0, 0, -1, 0, -1, 0, 0, 0⟩
theorem qz8y (w : World) : Calls Tryz.prog 125 #[] w fun e w' => e = .returned (.agg (hdC newH).toArray) /\ Below Q6o w w' := by
 have F0 := qzg w Q00 56 22 (by decide)
 go_enter Tryz.func125, Tryz.ntmps125
 go_wp2_with (refine Q6t rfl 56 (.tmp 0) (.tmp 1) rfl Q6o 0 _ rfl rfl ?ht ?hi ?h1 ?_)
 case ht => exact F0
 case hi => exact qzc newH
 case h1 => exact qzk newH
 refine bodyPost_ret (v := .agg (hdC newH).toArray) ?_ rfl ⟨rfl, ?_⟩
 ·exact qz3 Tryz.results125 _ _ Q6o 0 rfl (hdC newH) _ (Q6u _ _ _ _ F0) Q6x rfl (qz4 newH)
 ·exact Below.setCells (Q6v _) _ _ _ ((Q6s _ _).alloc (Q6v _) _)
theorem qz56 (h : Hd) (rp ot sm : Int) (w : World) :
  Calls Tryz.prog 134 #[.agg (hdC h).toArray, .int .i64 rp, .int .i64 ot, .int .i64 sm] w fun e w' => e = .returned (.agg (hdC (qz9 h rp ot sm)).toArray) /\ Below Q6o w w' := by
 show Calls Tryz.prog 134 #[.agg Q08, .int .i64 rp, .int .i64 ot, .int .i64 sm] w fun e w' => e = .returned (.agg (hdC (qz9 h rp ot sm)).toArray) /\ Below Q6o w w'
 have X0 := Q7b (qz6 w (hdC h) 56) (.cells Q00 56)
 have F0 := qzg (w.alloc Q0p) Q00 56 22 (by decide)
 have K0 := ((Q6s Q6o w).alloc (Q6v _) Q0p).alloc (by simp) (.cells Q00 56)
 have hz0 : Q6o + 1 < ((w.alloc Q0p).alloc (.cells Q00 56)).heap.size := by simp
 simp only [World.size_alloc] at F0
 go_enter Tryz.func134, Tryz.ntmps134
 go_wp2_with fail
 change Calls Tryz.prog _ _ ((w.alloc Q0p).alloc (.cells Q00 56)) _
 generalize hw0 : (w.alloc Q0p).alloc (.cells Q00 56) = w0 at *
 clear hw0
 refine (qz8y _).mono ?_
 rintro e w1 ⟨rfl, b1⟩
 have q9 : w1.cell? ⟨Q6o, 9, none⟩ = some (.int .i64 h.held) := (b1.cell (p := ⟨Q6o, 9, none⟩) (by show Q6o < Q73; omega)).trans (by have := X0 9 (.int .i64 h.held) rfl; simpa using this)
 have F1 := qz5 F0 b1 hz0
 have K1 := K0.trans (b1.mono (by omega))
 have hz1 := Q72 hz0 b1.size
 have qa : ∀ o : Obj, (w1.alloc o).cell? ⟨Q6o, 9, none⟩ = some (.int .i64 h.held) := fun o => (World.cell?_alloc_lt _ _ _ (by show Q6o < Q6y; omega)).trans q9
 clear X0 F0 K0 b1 hz0 q9
 have hset : (w1.alloc (.cells Q00 56)).setCells Q6y 0 (hdC newH).toArray.toList = w1.alloc (.cells #[.int .i64 0, .int .i64 0, .int .i64 0, .int .i64 (-1), .int .i64 0, .int .i64 0, .int .i64 0, .int .i64 0, .int .i64 0, .int .i64 (-1), .int .i64 0, .int .i64 0, .int .i64 0, .int .i64 0, .int .i64 0, .int .i64 0, .int .i64 (-1), .int .i64 0, .int .i64 (-1), .int .i64 0, .int .i64 0, .int .i64 0] 56) := qz1c w1 56 (hdC newH) [] Q0l rfl
 have FA := qzg w1 Q00 56 22 (by decide)
 have K2 := K1.alloc (by omega) (.cells (hdC (qz9 h rp ot sm)).toArray 56)
 have R2 := qz6 w1 (hdC (qz9 h rp ot sm)) 56
 have F2 := Q7h F1 (.cells (hdC (qz9 h rp ot sm)).toArray 56)
 go_wp2_with (first | (refine wpList_store_mid rfl 56 (.tmp 9) (.tmp 10) rfl w1.heap.size 0 _ rfl rfl FA (qzc newH) (qzk newH) ?_; rw [hset]) | (refine wpList_load_mid rfl 56 (.tmp 9) rfl w1.heap.size 0 rfl (hdC (qz9 h rp ot sm)) _ ?hc Tryz.underlying56 rfl (qz4 _) ?_) | (refine wpList_store_mid rfl 56 (.tmp 8) _ rfl (w.heap.size + 1) 0 _ rfl rfl ?ht ?hi ?h1 ?_))
 case hc => exact R2
 case ht => exact F2
 case hi => exact qzc _
 case h1 => exact qzk _
 refine bodyPost_ret (v := .agg (hdC (qz9 h rp ot sm)).toArray) ?_ rfl ⟨rfl, ?_⟩
 ·exact qz3 Tryz.results134 _ _ (Q6o + 1) 0 rfl (hdC (qz9 h rp ot sm)) _ (Q6u _ _ _ _ F2) Q6x rfl (qz4 _)
 ·exact Below.setCells (by omega) _ _ _ K2
end
section
attribute [local go_sem ↓] Go.wp_at_zero Go.wp_at_succ
def qz47 (c k v : Int) : Bool :=
 if c = 1 then inB k 0 63 && inB v 0 9999 else if c = 7 then inB k 0 63 && inB v 0 63 else if c = 2 ∨ c = 3 ∨ c = 6 then inB k 0 63 && (v == 0) else if c = 4 ∨ c = 5 ∨ c = 8 then (k == -1) && (v == 0) else false
def qz2y (x y z u : Int) (h : Hd) (c k v : Int) : Int :=
 if qz4a x y z u h = false then 5 else if h.at_ ≠ 0 then 1 else if qz47 c k v = false then 2 else if h.held < 0 /\ (c = 5 ∨ c = 6 ∨ c = 7) then 3 else if 0 <= h.held /\ c = 4 then 4 else 0
def qzf5 : Hd := ⟨0, 0, 0, 0, 0, 0, 0, 0, 0, 0, 0, 0, 0, 0, 0, 0, 0, 0, 0, 0, 0, 0⟩
def qzet (c : Int) : Int := if c = 1 ∨ c = 2 ∨ c = 3 then 1 else if c = 4 then 13 else if c = 5 then 18 else if c = 6 ∨ c = 7 then 2 else if c = 8 then 20 else 0
def qzdg (c : Int) : Int := if c = 6 ∨ c = 7 then 6 else 0
def qz2s (h : Hd) (c k v : Int) : Hd := ⟨qzet c, qzdg c, c, k, v, 0, 0, 0, 0, h.held, 0, 0, 0, 0, 0, 0, -1, 0, -1, 0, 0, 0⟩
def qz3a (x y z u : Int) (h : Hd) (c k v : Int) : Hd :=
 if qz2y x y z u h c k v = 5 then qzf5 else if qz2y x y z u h c k v ≠ 0 then h else qz2s h c k v
theorem qz1z (c k v : Int) (w : World) :
  Calls Tryz.prog 109 #[.int .i64 c, .int .i64 k, .int .i64 v] w fun e w' => e = .returned (.bool (qz47 c k v)) /\ w' = w := by
 by_cases c1 : c = 1
 ·subst c1
  cases e1 : inB k 0 63
  ·have hv : qz47 1 k v = false := by simp [qz47, e1]
   go_enter Tryz.func109, Tryz.ntmps109
   go_wp2_with (first | (go_at_call 68; refine (qzr _ _).mono ?_; rintro e w' ⟨rfl, hw⟩; obtain rfl := hw.symm) | (go_at_call 44; refine (qzd _ _ _ _).mono ?_; rintro e w' ⟨rfl, hw⟩; obtain rfl := hw.symm))
   go_ret
   exact ⟨by first | rfl | (rw [hv]; rfl), rfl⟩
  have hv : qz47 1 k v = inB v 0 9999 := by simp [qz47, e1]
  go_enter Tryz.func109, Tryz.ntmps109
  go_wp2_with (first | (go_at_call 68; refine (qzr _ _).mono ?_; rintro e w' ⟨rfl, hw⟩; obtain rfl := hw.symm) | (go_at_call 44; refine (qzd _ _ _ _).mono ?_; rintro e w' ⟨rfl, hw⟩; obtain rfl := hw.symm))
  go_ret
  exact ⟨by first | rfl | (rw [hv]; rfl), rfl⟩
 by_cases c7 : c = 7
 ·subst c7
  cases e1 : inB k 0 63
  ·have hv : qz47 7 k v = false := by simp [qz47, e1]
   go_enter Tryz.func109, Tryz.ntmps109
   go_wp2_with (first | (go_at_call 68; refine (qzr _ _).mono ?_; rintro e w' ⟨rfl, hw⟩; obtain rfl := hw.symm) | (go_at_call 44; refine (qzd _ _ _ _).mono ?_; rintro e w' ⟨rfl, hw⟩; obtain rfl := hw.symm))
   go_ret
   exact ⟨by first | rfl | (rw [hv]; rfl), rfl⟩
  have hv : qz47 7 k v = inB v 0 63 := by simp [qz47, e1]
  go_enter Tryz.func109, Tryz.ntmps109
  go_wp2_with (first | (go_at_call 68; refine (qzr _ _).mono ?_; rintro e w' ⟨rfl, hw⟩; obtain rfl := hw.symm) | (go_at_call 44; refine (qzd _ _ _ _).mono ?_; rintro e w' ⟨rfl, hw⟩; obtain rfl := hw.symm))
  go_ret
  exact ⟨by first | rfl | (rw [hv]; rfl), rfl⟩
 by_cases c2 : c = 2
 ·subst c2
  cases e1 : inB k 0 63
  ·have hv : qz47 2 k v = false := by simp [qz47, e1]
   go_enter Tryz.func109, Tryz.ntmps109
   go_wp2_with (first | (go_at_call 68; refine (qzr _ _).mono ?_; rintro e w' ⟨rfl, hw⟩; obtain rfl := hw.symm) | (go_at_call 44; refine (qzd _ _ _ _).mono ?_; rintro e w' ⟨rfl, hw⟩; obtain rfl := hw.symm))
   go_ret
   exact ⟨by first | rfl | (rw [hv]; rfl), rfl⟩
  have hv : qz47 2 k v = (v == 0) := by simp [qz47, e1]
  go_enter Tryz.func109, Tryz.ntmps109
  go_wp2_with (first | (go_at_call 68; refine (qzr _ _).mono ?_; rintro e w' ⟨rfl, hw⟩; obtain rfl := hw.symm) | (go_at_call 44; refine (qzd _ _ _ _).mono ?_; rintro e w' ⟨rfl, hw⟩; obtain rfl := hw.symm))
  go_ret
  exact ⟨by first | rfl | (rw [hv]; rfl), rfl⟩
 by_cases c3 : c = 3
 ·subst c3
  cases e1 : inB k 0 63
  ·have hv : qz47 3 k v = false := by simp [qz47, e1]
   go_enter Tryz.func109, Tryz.ntmps109
   go_wp2_with (first | (go_at_call 68; refine (qzr _ _).mono ?_; rintro e w' ⟨rfl, hw⟩; obtain rfl := hw.symm) | (go_at_call 44; refine (qzd _ _ _ _).mono ?_; rintro e w' ⟨rfl, hw⟩; obtain rfl := hw.symm))
   go_ret
   exact ⟨by first | rfl | (rw [hv]; rfl), rfl⟩
  have hv : qz47 3 k v = (v == 0) := by simp [qz47, e1]
  go_enter Tryz.func109, Tryz.ntmps109
  go_wp2_with (first | (go_at_call 68; refine (qzr _ _).mono ?_; rintro e w' ⟨rfl, hw⟩; obtain rfl := hw.symm) | (go_at_call 44; refine (qzd _ _ _ _).mono ?_; rintro e w' ⟨rfl, hw⟩; obtain rfl := hw.symm))
  go_ret
  exact ⟨by first | rfl | (rw [hv]; rfl), rfl⟩
 by_cases c6 : c = 6
 ·subst c6
  cases e1 : inB k 0 63
  ·have hv : qz47 6 k v = false := by simp [qz47, e1]
   go_enter Tryz.func109, Tryz.ntmps109
   go_wp2_with (first | (go_at_call 68; refine (qzr _ _).mono ?_; rintro e w' ⟨rfl, hw⟩; obtain rfl := hw.symm) | (go_at_call 44; refine (qzd _ _ _ _).mono ?_; rintro e w' ⟨rfl, hw⟩; obtain rfl := hw.symm))
   go_ret
   exact ⟨by first | rfl | (rw [hv]; rfl), rfl⟩
  have hv : qz47 6 k v = (v == 0) := by simp [qz47, e1]
  go_enter Tryz.func109, Tryz.ntmps109
  go_wp2_with (first | (go_at_call 68; refine (qzr _ _).mono ?_; rintro e w' ⟨rfl, hw⟩; obtain rfl := hw.symm) | (go_at_call 44; refine (qzd _ _ _ _).mono ?_; rintro e w' ⟨rfl, hw⟩; obtain rfl := hw.symm))
  go_ret
  exact ⟨by first | rfl | (rw [hv]; rfl), rfl⟩
 by_cases c4 : c = 4
 ·subst c4
  cases e1 : (k == -1)
  ·have hv : qz47 4 k v = false := by simp [qz47, e1]
   go_enter Tryz.func109, Tryz.ntmps109
   go_wp2_with (first | (go_at_call 68; refine (qzr _ _).mono ?_; rintro e w' ⟨rfl, hw⟩; obtain rfl := hw.symm) | (go_at_call 44; refine (qzd _ _ _ _).mono ?_; rintro e w' ⟨rfl, hw⟩; obtain rfl := hw.symm))
   go_ret
   exact ⟨by first | rfl | (rw [hv]; rfl), rfl⟩
  have hv : qz47 4 k v = (v == 0) := by simp [qz47, e1]
  go_enter Tryz.func109, Tryz.ntmps109
  go_wp2_with (first | (go_at_call 68; refine (qzr _ _).mono ?_; rintro e w' ⟨rfl, hw⟩; obtain rfl := hw.symm) | (go_at_call 44; refine (qzd _ _ _ _).mono ?_; rintro e w' ⟨rfl, hw⟩; obtain rfl := hw.symm))
  go_ret
  exact ⟨by first | rfl | (rw [hv]; rfl), rfl⟩
 by_cases c5 : c = 5
 ·subst c5
  cases e1 : (k == -1)
  ·have hv : qz47 5 k v = false := by simp [qz47, e1]
   go_enter Tryz.func109, Tryz.ntmps109
   go_wp2_with (first | (go_at_call 68; refine (qzr _ _).mono ?_; rintro e w' ⟨rfl, hw⟩; obtain rfl := hw.symm) | (go_at_call 44; refine (qzd _ _ _ _).mono ?_; rintro e w' ⟨rfl, hw⟩; obtain rfl := hw.symm))
   go_ret
   exact ⟨by first | rfl | (rw [hv]; rfl), rfl⟩
  have hv : qz47 5 k v = (v == 0) := by simp [qz47, e1]
  go_enter Tryz.func109, Tryz.ntmps109
  go_wp2_with (first | (go_at_call 68; refine (qzr _ _).mono ?_; rintro e w' ⟨rfl, hw⟩; obtain rfl := hw.symm) | (go_at_call 44; refine (qzd _ _ _ _).mono ?_; rintro e w' ⟨rfl, hw⟩; obtain rfl := hw.symm))
  go_ret
  exact ⟨by first | rfl | (rw [hv]; rfl), rfl⟩
 by_cases c8 : c = 8
 ·subst c8
  cases e1 : (k == -1)
  ·have hv : qz47 8 k v = false := by simp [qz47, e1]
   go_enter Tryz.func109, Tryz.ntmps109
   go_wp2_with (first | (go_at_call 68; refine (qzr _ _).mono ?_; rintro e w' ⟨rfl, hw⟩; obtain rfl := hw.symm) | (go_at_call 44; refine (qzd _ _ _ _).mono ?_; rintro e w' ⟨rfl, hw⟩; obtain rfl := hw.symm))
   go_ret
   exact ⟨by first | rfl | (rw [hv]; rfl), rfl⟩
  have hv : qz47 8 k v = (v == 0) := by simp [qz47, e1]
  go_enter Tryz.func109, Tryz.ntmps109
  go_wp2_with (first | (go_at_call 68; refine (qzr _ _).mono ?_; rintro e w' ⟨rfl, hw⟩; obtain rfl := hw.symm) | (go_at_call 44; refine (qzd _ _ _ _).mono ?_; rintro e w' ⟨rfl, hw⟩; obtain rfl := hw.symm))
  go_ret
  exact ⟨by first | rfl | (rw [hv]; rfl), rfl⟩
 have hv : qz47 c k v = false := by simp [qz47, c1, c2, c3, c4, c5, c6, c7, c8]
 go_enter Tryz.func109, Tryz.ntmps109
 go_wp2_with (first | (go_at_call 68; refine (qzr _ _).mono ?_; rintro e w' ⟨rfl, hw⟩; obtain rfl := hw.symm) | (go_at_call 44; refine (qzd _ _ _ _).mono ?_; rintro e w' ⟨rfl, hw⟩; obtain rfl := hw.symm))
 go_ret
 exact ⟨by first | rfl | (rw [hv]; rfl), rfl⟩
theorem qzcy (x y z u : Int) (h : Hd) (c k v : Int) (w : World) :
  Calls Tryz.prog 136 #[.agg Q06, .agg (hdC h).toArray, .int .i64 c, .int .i64 k, .int .i64 v] w fun e w' => e = .returned (.int .i64 (qz2y x y z u h c k v)) /\ Below Q6o w w' := by
 show Calls Tryz.prog 136 #[.agg Q06, .agg Q08, .int .i64 c, .int .i64 k, .int .i64 v] w fun e w' => e = .returned (.int .i64 (qz2y x y z u h c k v)) /\ Below Q6o w w'
 have P0 := (qz1q w x y z u 25).below ((Q6s _ _).alloc (Q6v _) Q0p) (by simp)
 have X0 := qz6 Q44 (hdC h) 56
 have K0 := ((Q6s Q6o w).alloc (Q6v _) (.cells Q06 25)).alloc (by simp) Q0p
 have hz0 : Q6o + 1 < ((Q44).alloc Q0p).heap.size := by simp
 simp only [World.size_alloc] at X0
 obtain ⟨p0, p1, p2, p3⟩ := id P0
 go_enter Tryz.func136, Tryz.ntmps136
 go_wp2_with (refine Q6z rfl 56 (.tmp 6) rfl (Q6o + 1) 0 rfl (hdC h) _ ?hc Q6x rfl (qz4 h) ?_)
 case hc => exact X0
 change Calls Tryz.prog _ _ ((Q44).alloc Q0p) _
 generalize hw0 : (Q44).alloc Q0p = w0 at *
 clear hw0 p0 p1 p2 p3 P0
 refine (qz5q x y z u h _).mono ?_
 rintro e w1 ⟨rfl, b1⟩
 have X1 := qz0 X0 b1 hz0
 have K1 := K0.trans (b1.mono (by omega))
 clear X0 K0 b1 hz0
 have q0 : w1.cell? ⟨Q6o + 1, 0, none⟩ = some (.int .i64 h.at_) := by simpa using X1 0 (.int .i64 h.at_) rfl
 have q9 : w1.cell? ⟨Q6o + 1, 9, none⟩ = some (.int .i64 h.held) := by simpa using X1 9 (.int .i64 h.held) rfl
 clear X1
 cases e1 : qz4a x y z u h
 ·have hv : qz2y x y z u h c k v = 5 := by simp [qz2y, e1]
  go_wp2
  go_ret
  exact ⟨by first | rfl | (rw [hv]; rfl), K1⟩
 by_cases e2 : h.at_ = 0
 case neg =>
  have hv : qz2y x y z u h c k v = 1 := by simp [qz2y, e1, e2]
  go_wp2
  go_ret
  exact ⟨by first | rfl | (rw [hv]; rfl), K1⟩
 cases e3 : qz47 c k v
 ·have hv : qz2y x y z u h c k v = 2 := by simp [qz2y, e1, e2, e3]
  go_wp2_with (go_at_call 109; refine (qz1z _ _ _ _).mono ?_; rintro e w' ⟨rfl, hw⟩; obtain rfl := hw.symm)
  go_ret
  exact ⟨by first | rfl | (rw [hv]; rfl), K1⟩
 by_cases e4 : h.held < 0
 ·have e5 : ¬ (0 <= h.held) := by omega
  by_cases c5 : c = 5
  ·subst c5
   have hv : qz2y x y z u h 5 k v = 3 := by simp [qz2y, e1, e2, e3, e4]
   go_wp2_with (go_at_call 109; refine (qz1z _ _ _ _).mono ?_; rintro e w' ⟨rfl, hw⟩; obtain rfl := hw.symm)
   go_ret
   exact ⟨by first | rfl | (rw [hv]; rfl), K1⟩
  by_cases c6 : c = 6
  ·subst c6
   have hv : qz2y x y z u h 6 k v = 3 := by simp [qz2y, e1, e2, e3, e4]
   go_wp2_with (go_at_call 109; refine (qz1z _ _ _ _).mono ?_; rintro e w' ⟨rfl, hw⟩; obtain rfl := hw.symm)
   go_ret
   exact ⟨by first | rfl | (rw [hv]; rfl), K1⟩
  by_cases c7 : c = 7
  ·subst c7
   have hv : qz2y x y z u h 7 k v = 3 := by simp [qz2y, e1, e2, e3, e4]
   go_wp2_with (go_at_call 109; refine (qz1z _ _ _ _).mono ?_; rintro e w' ⟨rfl, hw⟩; obtain rfl := hw.symm)
   go_ret
   exact ⟨by first | rfl | (rw [hv]; rfl), K1⟩
  have b5 : (c == 5) = false := by simp [c5]
  have b6 : (c == 6) = false := by simp [c6]
  have b7 : (c == 7) = false := by simp [c7]
  have hv : qz2y x y z u h c k v = 0 := by simp [qz2y, e1, e2, e3, e5, c5, c6, c7]
  go_wp2_with (go_at_call 109; refine (qz1z _ _ _ _).mono ?_; rintro e w' ⟨rfl, hw⟩; obtain rfl := hw.symm)
  go_ret
  exact ⟨by first | rfl | (rw [hv]; rfl), K1⟩
 have e5 : 0 <= h.held := by omega
 by_cases c4 : c = 4
 ·subst c4
  have hv : qz2y x y z u h 4 k v = 4 := by simp [qz2y, e1, e2, e3, e4, e5]
  go_wp2_with (go_at_call 109; refine (qz1z _ _ _ _).mono ?_; rintro e w' ⟨rfl, hw⟩; obtain rfl := hw.symm)
  go_ret
  exact ⟨by first | rfl | (rw [hv]; rfl), K1⟩
 have b4 : (c == 4) = false := by simp [c4]
 have hv : qz2y x y z u h c k v = 0 := by simp [qz2y, e1, e2, e3, e4, c4]
 go_wp2_with (go_at_call 109; refine (qz1z _ _ _ _).mono ?_; rintro e w' ⟨rfl, hw⟩; obtain rfl := hw.symm)
 go_ret
 exact ⟨by first | rfl | (rw [hv]; rfl), K1⟩
theorem qz7t {x y z u : Int} {h : Hd} {c k v : Int} (e : qz2y x y z u h c k v = 0) : qz4a x y z u h = true /\ h.at_ = 0 /\ qz47 c k v = true /\ ¬ (h.held < 0 /\ (c = 5 ∨ c = 6 ∨ c = 7)) /\ ¬ (0 <= h.held /\ c = 4) := by
 unfold qz2y at e
 split at e
 ·cases e
 rename_i h1
 split at e
 ·cases e
 rename_i h2
 split at e
 ·cases e
 rename_i h3
 split at e
 ·cases e
 rename_i h4
 split at e
 ·cases e
 rename_i h5
 exact ⟨by simpa using h1, by simpa using h2, by simpa using h3, h4, h5⟩
theorem qz7z {c k v : Int} (h : qz47 c k v = true) : c = 1 ∨ c = 2 ∨ c = 3 ∨ c = 4 ∨ c = 5 ∨ c = 6 ∨ c = 7 ∨ c = 8 := by
 unfold qz47 at h
 split at h
 ·omega
 split at h
 ·omega
 split at h
 ·omega
 split at h
 ·omega
 ·cases h
theorem qz8p (x y z u : Int) (h : Hd) (c k v : Int) (w : World) :
  Calls Tryz.prog 110 #[.agg Q06, .agg (hdC h).toArray, .int .i64 c, .int .i64 k, .int .i64 v] w fun e w' => e = .returned (.tuple #[.agg (hdC (qz3a x y z u h c k v)).toArray, .int .i64 (qz2y x y z u h c k v)]) /\ Below Q6o w w' := by
 show Calls Tryz.prog 110 #[.agg Q06, .agg Q08, .int .i64 c, .int .i64 k, .int .i64 v] w fun e w' => e = .returned (.tuple #[.agg (hdC (qz3a x y z u h c k v)).toArray, .int .i64 (qz2y x y z u h c k v)]) /\ Below Q6o w w'
 have P0 := ((qz1q w x y z u 25).below ((Q6s _ _).alloc (Q6v _) Q0p) (by simp)).below ((Q6s _ _).alloc (Q6v _) (.cells Q00 56)) (by simp; omega)
 have X0 := Q7b (qz6 Q44 (hdC h) 56) (.cells Q00 56)
 have F0 := qzg ((Q44).alloc Q0p) Q00 56 22 (by decide)
 have K0 := (((Q6s Q6o w).alloc (Q6v _) (.cells Q06 25)).alloc (by simp) Q0p).alloc (by simp; omega) (.cells Q00 56)
 have hz0 : Q6o + 1 + 1 < (((Q44).alloc Q0p).alloc (.cells Q00 56)).heap.size := by simp
 simp only [World.size_alloc] at X0 F0
 obtain ⟨p0, p1, p2, p3⟩ := id P0
 go_enter Tryz.func110, Tryz.ntmps110
 go_wp2_with (refine Q6z rfl 56 (.tmp 6) rfl (Q6o + 1) 0 rfl (hdC h) _ ?hc Q6x rfl (qz4 h) ?_)
 case hc => exact X0
 change Calls Tryz.prog _ _ (((Q44).alloc Q0p).alloc (.cells Q00 56)) _
 generalize hw0 : ((Q44).alloc Q0p).alloc (.cells Q00 56) = w0 at *
 clear hw0 p0 p1 p2 p3 P0
 refine (qzcy x y z u h c k v _).mono ?_
 rintro e w1 ⟨rfl, b1⟩
 have X1 := qz0 X0 b1 (by omega)
 have F1 := qz5 F0 b1 (by omega)
 have K1 := K0.trans (b1.mono (by omega))
 have hz1 := Q72 hz0 b1.size
 clear X0 F0 K0 b1 hz0
 by_cases e5 : qz2y x y z u h c k v = 5
 ·have hv : qz3a x y z u h c k v = qzf5 := by simp [qz3a, e5]
  rw [e5]
  have hq : Hid (qz3a x y z u h c k v = qzf5 /\ qz2y x y z u h c k v = 5) := ⟨hv, e5⟩
  clear hv e5
  go_wp2_with (refine Q6t rfl 56 (.tmp 10) (.tmp 22) rfl (Q6o + 1 + 1) 0 _ rfl rfl ?ht ?hi ?h1 ?_)
  case ht => exact F1
  case hi => exact qzc qzf5
  case h1 => exact qzk qzf5
  refine bodyPost_ret (v := .tuple #[.agg (hdC qzf5).toArray, .int .i64 5]) ?_ rfl ⟨by rw [hq.out.1, hq.out.2], ?_⟩
  ·exact qzl Tryz.results110 _ _ (Q6o + 1 + 1) 0 rfl (hdC qzf5) _ (Q6u _ _ _ _ F1) Q6x rfl (qz4 qzf5)
  ·exact Below.setCells (by omega) _ _ _ K1
 by_cases e0 : qz2y x y z u h c k v = 0
 case neg =>
  have hv : qz3a x y z u h c k v = h := by simp [qz3a, e5, e0]
  have hq : Hid (qz3a x y z u h c k v = h) := hv
  clear hv
  go_wp2_with (first | (refine Q6z rfl 56 (.tmp 6) rfl (Q6o + 1) 0 rfl (hdC h) _ ?hc Q6x rfl (qz4 h) ?_) | (refine Q6t rfl 56 (.tmp 10) (.tmp 26) rfl (Q6o + 1 + 1) 0 _ rfl rfl ?ht ?hi ?h1 ?_))
  case hc => exact X1
  case ht => exact F1
  case hi => exact qzc h
  case h1 => exact qzk h
  refine bodyPost_ret (v := .tuple #[.agg (hdC h).toArray, .int .i64 (qz2y x y z u h c k v)]) ?_ rfl ⟨by rw [hq.out], ?_⟩
  ·exact qzl Tryz.results110 _ _ (Q6o + 1 + 1) 0 rfl (hdC h) _ (Q6u _ _ _ _ F1) Q6x rfl (qz4 h)
  ·exact Below.setCells (by omega) _ _ _ K1
 have hv : qz3a x y z u h c k v = qz2s h c k v := by simp [qz3a, e0]
 obtain ⟨_, _, hfit, _, _⟩ := qz7t e0
 rw [e0]
 have hq : Hid (qz3a x y z u h c k v = qz2s h c k v /\ qz2y x y z u h c k v = 0) := ⟨hv, e0⟩
 clear hv e0 e5
 go_wp2_with (refine Q6z rfl 56 (.tmp 6) rfl (Q6o + 1) 0 rfl (hdC h) _ ?hc Q6x rfl (qz4 h) ?_)
 case hc => exact X1
 refine (qz56 h 0 0 0 _).mono ?_
 rintro e w2 ⟨rfl, b2⟩
 have F2 := qz5 F1 b2 (by omega)
 have K2 := K1.trans (b2.mono (by omega))
 have hz2 := Q72 hz1 b2.size
 clear X1 F1 K1 b2 hz1
 have hset : (w2.alloc (.cells Q00 56)).setCells Q78 0 (hdC (qz9 h 0 0 0)).toArray.toList = w2.alloc (.cells #[.int .i64 0, .int .i64 0, .int .i64 0, .int .i64 (-1), .int .i64 0, .int .i64 0, .int .i64 0, .int .i64 0, .int .i64 0, .int .i64 h.held, .int .i64 0, .int .i64 0, .int .i64 0, .int .i64 0, .int .i64 0, .int .i64 0, .int .i64 (-1), .int .i64 0, .int .i64 (-1), .int .i64 0, .int .i64 0, .int .i64 0] 56) := qz1c w2 56 (hdC (qz9 h 0 0 0)) [] Q0l rfl
 have FA := qzg w2 Q00 56 22 (by decide)
 have K3 := K2.alloc (by omega) (.cells (hdC (qz2s h c k v)).toArray 56)
 have R3 := qz6 w2 (hdC (qz2s h c k v)) 56
 have F3 := Q7h F2 (.cells (hdC (qz2s h c k v)).toArray 56)
 have fin : ∀ ws : World, ws = w2.alloc (.cells (hdC (qz2s h c k v)).toArray 56) -> ws.there (Q6o + 1 + 1) 0 22 /\ ws.rangeAt Q78 0 (hdC (qz2s h c k v)) /\ Below Q6o w ws := by
  rintro ws rfl
  exact ⟨F3, R3, K3⟩
 rcases qz7z hfit with rfl | rfl | rfl | rfl | rfl | rfl | rfl | rfl
 ·go_wp2_with (first | (refine wpList_store_mid rfl 56 (.tmp 13) (.tmp 29) rfl w2.heap.size 0 _ rfl rfl FA (qzc (qz9 h 0 0 0)) (qzk _) ?_; rw [hset]) | (refine wpList_load_mid rfl 56 (.tmp 13) rfl w2.heap.size 0 rfl (hdC (qz2s h 1 k v)) _ ?hc Tryz.underlying56 rfl (qz4 _) ?_) | (refine wpList_store_mid rfl 56 (.tmp 10) (.tmp 56) rfl (w.heap.size + 1 + 1) 0 _ rfl rfl ?ht ?hi ?h1 ?_))
  case hc => exact R3
  case ht => exact F3
  case hi => exact qzc _
  case h1 => exact qzk _
  refine bodyPost_ret (v := .tuple #[.agg (hdC (qz2s h 1 k v)).toArray, .int .i64 0]) ?_ rfl ⟨by rw [hq.out.1, hq.out.2], ?_⟩
  ·exact qzl Tryz.results110 _ _ (Q6o + 1 + 1) 0 rfl (hdC (qz2s h 1 k v)) _ (Q6u _ _ _ _ F3) Q6x rfl (qz4 _)
  ·exact Below.setCells (by omega) _ _ _ K3
 ·go_wp2_with (first | (refine wpList_store_mid rfl 56 (.tmp 13) (.tmp 29) rfl w2.heap.size 0 _ rfl rfl FA (qzc (qz9 h 0 0 0)) (qzk _) ?_; rw [hset]) | (refine wpList_load_mid rfl 56 (.tmp 13) rfl w2.heap.size 0 rfl (hdC (qz2s h 2 k v)) _ ?hc Tryz.underlying56 rfl (qz4 _) ?_) | (refine wpList_store_mid rfl 56 (.tmp 10) (.tmp 56) rfl (w.heap.size + 1 + 1) 0 _ rfl rfl ?ht ?hi ?h1 ?_))
  case hc => exact R3
  case ht => exact F3
  case hi => exact qzc _
  case h1 => exact qzk _
  refine bodyPost_ret (v := .tuple #[.agg (hdC (qz2s h 2 k v)).toArray, .int .i64 0]) ?_ rfl ⟨by rw [hq.out.1, hq.out.2], ?_⟩
  ·exact qzl Tryz.results110 _ _ (Q6o + 1 + 1) 0 rfl (hdC (qz2s h 2 k v)) _ (Q6u _ _ _ _ F3) Q6x rfl (qz4 _)
  ·exact Below.setCells (by omega) _ _ _ K3
 ·go_wp2_with (first | (refine wpList_store_mid rfl 56 (.tmp 13) (.tmp 29) rfl w2.heap.size 0 _ rfl rfl FA (qzc (qz9 h 0 0 0)) (qzk _) ?_; rw [hset]) | (refine wpList_load_mid rfl 56 (.tmp 13) rfl w2.heap.size 0 rfl (hdC (qz2s h 3 k v)) _ ?hc Tryz.underlying56 rfl (qz4 _) ?_) | (refine wpList_store_mid rfl 56 (.tmp 10) (.tmp 56) rfl (w.heap.size + 1 + 1) 0 _ rfl rfl ?ht ?hi ?h1 ?_))
  case hc => exact R3
  case ht => exact F3
  case hi => exact qzc _
  case h1 => exact qzk _
  refine bodyPost_ret (v := .tuple #[.agg (hdC (qz2s h 3 k v)).toArray, .int .i64 0]) ?_ rfl ⟨by rw [hq.out.1, hq.out.2], ?_⟩
  ·exact qzl Tryz.results110 _ _ (Q6o + 1 + 1) 0 rfl (hdC (qz2s h 3 k v)) _ (Q6u _ _ _ _ F3) Q6x rfl (qz4 _)
  ·exact Below.setCells (by omega) _ _ _ K3
 ·go_wp2_with (first | (refine wpList_store_mid rfl 56 (.tmp 13) (.tmp 29) rfl w2.heap.size 0 _ rfl rfl FA (qzc (qz9 h 0 0 0)) (qzk _) ?_; rw [hset]) | (refine wpList_load_mid rfl 56 (.tmp 13) rfl w2.heap.size 0 rfl (hdC (qz2s h 4 k v)) _ ?hc Tryz.underlying56 rfl (qz4 _) ?_) | (refine wpList_store_mid rfl 56 (.tmp 10) (.tmp 56) rfl (w.heap.size + 1 + 1) 0 _ rfl rfl ?ht ?hi ?h1 ?_))
  case hc => exact R3
  case ht => exact F3
  case hi => exact qzc _
  case h1 => exact qzk _
  refine bodyPost_ret (v := .tuple #[.agg (hdC (qz2s h 4 k v)).toArray, .int .i64 0]) ?_ rfl ⟨by rw [hq.out.1, hq.out.2], ?_⟩
  ·exact qzl Tryz.results110 _ _ (Q6o + 1 + 1) 0 rfl (hdC (qz2s h 4 k v)) _ (Q6u _ _ _ _ F3) Q6x rfl (qz4 _)
  ·exact Below.setCells (by omega) _ _ _ K3
 ·go_wp2_with (first | (refine wpList_store_mid rfl 56 (.tmp 13) (.tmp 29) rfl w2.heap.size 0 _ rfl rfl FA (qzc (qz9 h 0 0 0)) (qzk _) ?_; rw [hset]) | (refine wpList_load_mid rfl 56 (.tmp 13) rfl w2.heap.size 0 rfl (hdC (qz2s h 5 k v)) _ ?hc Tryz.underlying56 rfl (qz4 _) ?_) | (refine wpList_store_mid rfl 56 (.tmp 10) (.tmp 56) rfl (w.heap.size + 1 + 1) 0 _ rfl rfl ?ht ?hi ?h1 ?_))
  case hc => exact R3
  case ht => exact F3
  case hi => exact qzc _
  case h1 => exact qzk _
  refine bodyPost_ret (v := .tuple #[.agg (hdC (qz2s h 5 k v)).toArray, .int .i64 0]) ?_ rfl ⟨by rw [hq.out.1, hq.out.2], ?_⟩
  ·exact qzl Tryz.results110 _ _ (Q6o + 1 + 1) 0 rfl (hdC (qz2s h 5 k v)) _ (Q6u _ _ _ _ F3) Q6x rfl (qz4 _)
  ·exact Below.setCells (by omega) _ _ _ K3
 ·go_wp2_with (first | (refine wpList_store_mid rfl 56 (.tmp 13) (.tmp 29) rfl w2.heap.size 0 _ rfl rfl FA (qzc (qz9 h 0 0 0)) (qzk _) ?_; rw [hset]) | (refine wpList_load_mid rfl 56 (.tmp 13) rfl w2.heap.size 0 rfl (hdC (qz2s h 6 k v)) _ ?hc Tryz.underlying56 rfl (qz4 _) ?_) | (refine wpList_store_mid rfl 56 (.tmp 10) (.tmp 56) rfl (w.heap.size + 1 + 1) 0 _ rfl rfl ?ht ?hi ?h1 ?_))
  case hc => exact R3
  case ht => exact F3
  case hi => exact qzc _
  case h1 => exact qzk _
  refine bodyPost_ret (v := .tuple #[.agg (hdC (qz2s h 6 k v)).toArray, .int .i64 0]) ?_ rfl ⟨by rw [hq.out.1, hq.out.2], ?_⟩
  ·exact qzl Tryz.results110 _ _ (Q6o + 1 + 1) 0 rfl (hdC (qz2s h 6 k v)) _ (Q6u _ _ _ _ F3) Q6x rfl (qz4 _)
  ·exact Below.setCells (by omega) _ _ _ K3
 ·go_wp2_with (first | (refine wpList_store_mid rfl 56 (.tmp 13) (.tmp 29) rfl w2.heap.size 0 _ rfl rfl FA (qzc (qz9 h 0 0 0)) (qzk _) ?_; rw [hset]) | (refine wpList_load_mid rfl 56 (.tmp 13) rfl w2.heap.size 0 rfl (hdC (qz2s h 7 k v)) _ ?hc Tryz.underlying56 rfl (qz4 _) ?_) | (refine wpList_store_mid rfl 56 (.tmp 10) (.tmp 56) rfl (w.heap.size + 1 + 1) 0 _ rfl rfl ?ht ?hi ?h1 ?_))
  case hc => exact R3
  case ht => exact F3
  case hi => exact qzc _
  case h1 => exact qzk _
  refine bodyPost_ret (v := .tuple #[.agg (hdC (qz2s h 7 k v)).toArray, .int .i64 0]) ?_ rfl ⟨by rw [hq.out.1, hq.out.2], ?_⟩
  ·exact qzl Tryz.results110 _ _ (Q6o + 1 + 1) 0 rfl (hdC (qz2s h 7 k v)) _ (Q6u _ _ _ _ F3) Q6x rfl (qz4 _)
  ·exact Below.setCells (by omega) _ _ _ K3
 ·go_wp2_with (first | (refine wpList_store_mid rfl 56 (.tmp 13) (.tmp 29) rfl w2.heap.size 0 _ rfl rfl FA (qzc (qz9 h 0 0 0)) (qzk _) ?_; rw [hset]) | (refine wpList_load_mid rfl 56 (.tmp 13) rfl w2.heap.size 0 rfl (hdC (qz2s h 8 k v)) _ ?hc Tryz.underlying56 rfl (qz4 _) ?_) | (refine wpList_store_mid rfl 56 (.tmp 10) (.tmp 56) rfl (w.heap.size + 1 + 1) 0 _ rfl rfl ?ht ?hi ?h1 ?_))
  case hc => exact R3
  case ht => exact F3
  case hi => exact qzc _
  case h1 => exact qzk _
  refine bodyPost_ret (v := .tuple #[.agg (hdC (qz2s h 8 k v)).toArray, .int .i64 0]) ?_ rfl ⟨by rw [hq.out.1, hq.out.2], ?_⟩
  ·exact qzl Tryz.results110 _ _ (Q6o + 1 + 1) 0 rfl (hdC (qz2s h 8 k v)) _ (Q6u _ _ _ _ F3) Q6x rfl (qz4 _)
  ·exact Below.setCells (by omega) _ _ _ K3
end
end Go.Proofs.YthjkdnlmopafkaaGreatDoor
