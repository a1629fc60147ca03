/-
  What the law's proof goes by, part 8.
-/
import Derived.Test.YthjkdnlmopafkaaFnBlank00
import Derived.Test.YthjkdnlmopafkaaFnBlank06
namespace Go.Proofs.Ythjkdnlmopafkaa
open Go.ChangeShapes Go.WideShapes Go.ChangeAt Go.RowKit
set_option maxRecDepth 100000
set_option maxHeartbeats 16000000
set_option linter.unusedVariables false
set_option linter.unusedSimpArgs false
set_option linter.unnecessarySimpa false
set_option linter.unusedSectionVars false
section
attribute [local go_sem ↓] Go.wp_at_zero Go.wp_at_succ
theorem qz13 (w : World) (T : TypeId) : ∀ (vs pre zs : List Value), zs.length = vs.length ->
  (w.alloc (.cells (pre ++ zs).toArray T)).setCells Q67 pre.length vs = w.alloc (.cells (pre ++ vs).toArray T)
 | [], pre, zs, h => by
  obtain rfl : zs = [] := List.eq_nil_of_length_eq_zero h
  rfl
 | v :: vs, pre, z :: zs, h => by
  simp only [World.setCells]
  have e : (w.alloc (.cells (pre ++ z :: zs).toArray T)).setCell ⟨Q67, pre.length, none⟩ v = w.alloc (.cells ((pre ++ [v]) ++ zs).toArray T) := by
   rw [World.setCell_alloc_new]
   simp
  rw [e]
  have := qz13 w T vs (pre ++ [v]) zs (by simpa using h)
  simp only [List.length_append, List.length_cons, List.length_nil, Nat.zero_add] at this
  rw [this]
  simp
def newH : Hd := ⟨0, 0, 0, -1, 0, 0, 0, 0, 0, -1, 0, 0, 0, 0, 0, 0, -1, 0, -1, 0, 0, 0⟩
def qz8 (h : Hd) (rp ot sm : Int) : Hd := ⟨0, 0, 0, -1, 0, 0, rp, ot, sm, h.held, 0, 0, 0, 0, 0, 0, -1, 0, -1, 0, 0, 0⟩
theorem qz80 (w : World) : Calls Try.prog 66 #[] w fun e w' => e = .returned (.agg (hdC newH).toArray) /\ Below Q67 w w' := by
 have F0 := qzf w Q00 56 22 (by decide)
 go_enter Try.func66, Try.ntmps66
 go_wp2_with (refine Q6b rfl 56 (.tmp 0) (.tmp 1) rfl Q67 0 _ rfl rfl ?ht ?hi ?h1 ?_)
 case ht => exact F0
 case hi => exact qzb newH
 case h1 => exact qzh newH
 refine bodyPost_ret (v := .agg (hdC newH).toArray) ?_ rfl ⟨rfl, ?_⟩
 ·exact qz3 Try.results66 _ _ Q67 0 rfl (hdC newH) _ (Q6d _ _ _ _ F0) Q6g rfl (qz4 newH)
 ·exact Below.setCells (Q6f _) _ _ _ ((Q6c _ _).alloc (Q6f _) _)
theorem qz4y (h : Hd) (rp ot sm : Int) (w : World) :
  Calls Try.prog 105 #[.agg (hdC h).toArray, .int .i64 rp, .int .i64 ot, .int .i64 sm] w fun e w' => e = .returned (.agg (hdC (qz8 h rp ot sm)).toArray) /\ Below Q67 w w' := by
 show Calls Try.prog 105 #[.agg Q07, .int .i64 rp, .int .i64 ot, .int .i64 sm] w fun e w' => e = .returned (.agg (hdC (qz8 h rp ot sm)).toArray) /\ Below Q67 w w'
 have X0 := Q6w (qz7 w (hdC h) 56) (.cells Q00 56)
 have F0 := qzf (w.alloc Q0q) Q00 56 22 (by decide)
 have K0 := ((Q6c Q67 w).alloc (Q6f _) Q0q).alloc (by simp) (.cells Q00 56)
 have hz0 : Q67 + 1 < ((w.alloc Q0q).alloc (.cells Q00 56)).heap.size := by simp
 simp only [World.size_alloc] at F0
 go_enter Try.func105, Try.ntmps105
 go_wp2_with fail
 change Calls Try.prog _ _ ((w.alloc Q0q).alloc (.cells Q00 56)) _
 generalize hw0 : (w.alloc Q0q).alloc (.cells Q00 56) = w0 at *
 clear hw0
 refine (qz80 _).mono ?_
 rintro e w1 ⟨rfl, b1⟩
 have q9 : w1.cell? ⟨Q67, 9, none⟩ = some (.int .i64 h.held) := (b1.cell (p := ⟨Q67, 9, none⟩) (by show Q67 < Q6n; omega)).trans (by have := X0 9 (.int .i64 h.held) rfl; simpa using this)
 have F1 := qz5 F0 b1 hz0
 have K1 := K0.trans (b1.mono (by omega))
 have hz1 := Q6l hz0 b1.size
 have qa : ∀ o : Obj, (w1.alloc o).cell? ⟨Q67, 9, none⟩ = some (.int .i64 h.held) := fun o => (World.cell?_alloc_lt _ _ _ (by show Q67 < Q6j; omega)).trans q9
 clear X0 F0 K0 b1 hz0 q9
 have hset : (w1.alloc (.cells Q00 56)).setCells Q6j 0 (hdC newH).toArray.toList = w1.alloc (.cells #[.int .i64 0, .int .i64 0, .int .i64 0, .int .i64 (-1), .int .i64 0, .int .i64 0, .int .i64 0, .int .i64 0, .int .i64 0, .int .i64 (-1), .int .i64 0, .int .i64 0, .int .i64 0, .int .i64 0, .int .i64 0, .int .i64 0, .int .i64 (-1), .int .i64 0, .int .i64 (-1), .int .i64 0, .int .i64 0, .int .i64 0] 56) := qz13 w1 56 (hdC newH) [] Q0m rfl
 have FA := qzf w1 Q00 56 22 (by decide)
 have K2 := K1.alloc (by omega) (.cells (hdC (qz8 h rp ot sm)).toArray 56)
 have R2 := qz7 w1 (hdC (qz8 h rp ot sm)) 56
 have F2 := World.there_alloc F1 (.cells (hdC (qz8 h rp ot sm)).toArray 56)
 go_wp2_with (first | (refine wpList_store_mid rfl 56 (.tmp 9) (.tmp 10) rfl w1.heap.size 0 _ rfl rfl FA (qzb newH) (qzh newH) ?_; rw [hset]) | (refine wpList_load_mid rfl 56 (.tmp 9) rfl w1.heap.size 0 rfl (hdC (qz8 h rp ot sm)) _ ?hc Try.underlying56 rfl (qz4 _) ?_) | (refine wpList_store_mid rfl 56 (.tmp 8) _ rfl (w.heap.size + 1) 0 _ rfl rfl ?ht ?hi ?h1 ?_))
 case hc => exact R2
 case ht => exact F2
 case hi => exact qzb _
 case h1 => exact qzh _
 refine bodyPost_ret (v := .agg (hdC (qz8 h rp ot sm)).toArray) ?_ rfl ⟨rfl, ?_⟩
 ·exact qz3 Try.results105 _ _ (Q67 + 1) 0 rfl (hdC (qz8 h rp ot sm)) _ (Q6d _ _ _ _ F2) Q6g rfl (qz4 _)
 ·exact Below.setCells (by omega) _ _ _ K2
end
section
attribute [local go_sem ↓] Go.wp_at_zero Go.wp_at_succ
def qz3y (c k v : Int) : Bool :=
 if c = 1 then inB k 0 63 && inB v 0 9999 else if c = 7 then inB k 0 63 && inB v 0 63 else if c = 2 ∨ c = 3 ∨ c = 6 then inB k 0 63 && (v == 0) else if c = 4 ∨ c = 5 ∨ c = 8 then (k == -1) && (v == 0) else false
def qz2s (x y z u : Int) (h : Hd) (c k v : Int) : Int :=
 if qz3z x y z u h = false then 5 else if h.at_ ≠ 0 then 1 else if qz3y c k v = false then 2 else if h.held < 0 /\ (c = 5 ∨ c = 6 ∨ c = 7) then 3 else if 0 <= h.held /\ c = 4 then 4 else 0
def qzdb : Hd := ⟨0, 0, 0, 0, 0, 0, 0, 0, 0, 0, 0, 0, 0, 0, 0, 0, 0, 0, 0, 0, 0, 0⟩
def qzcd (c : Int) : Int := if c = 1 ∨ c = 2 ∨ c = 3 then 1 else if c = 4 then 13 else if c = 5 then 18 else if c = 6 ∨ c = 7 then 2 else if c = 8 then 20 else 0
def qzbt (c : Int) : Int := if c = 6 ∨ c = 7 then 6 else 0
def qz2n (h : Hd) (c k v : Int) : Hd := ⟨qzcd c, qzbt c, c, k, v, 0, 0, 0, 0, h.held, 0, 0, 0, 0, 0, 0, -1, 0, -1, 0, 0, 0⟩
def qz34 (x y z u : Int) (h : Hd) (c k v : Int) : Hd :=
 if qz2s x y z u h c k v = 5 then qzdb else if qz2s x y z u h c k v ≠ 0 then h else qz2n h c k v
theorem qz1t (c k v : Int) (w : World) :
  Calls Try.prog 97 #[.int .i64 c, .int .i64 k, .int .i64 v] w fun e w' => e = .returned (.bool (qz3y c k v)) /\ w' = w := by
 by_cases c1 : c = 1
 ·subst c1
  cases e1 : inB k 0 63
  ·have hv : qz3y 1 k v = false := by simp [qz3y, e1]
   go_enter Try.func97, Try.ntmps97
   go_wp2_with (first | (go_at_call 76; refine (qzo _ _).mono ?_; rintro e w' ⟨rfl, hw⟩; obtain rfl := hw.symm) | (go_at_call 46; refine (qzd _ _ _ _).mono ?_; rintro e w' ⟨rfl, hw⟩; obtain rfl := hw.symm))
   go_ret
   exact ⟨by first | rfl | (rw [hv]; rfl), rfl⟩
  have hv : qz3y 1 k v = inB v 0 9999 := by simp [qz3y, e1]
  go_enter Try.func97, Try.ntmps97
  go_wp2_with (first | (go_at_call 76; refine (qzo _ _).mono ?_; rintro e w' ⟨rfl, hw⟩; obtain rfl := hw.symm) | (go_at_call 46; refine (qzd _ _ _ _).mono ?_; rintro e w' ⟨rfl, hw⟩; obtain rfl := hw.symm))
  go_ret
  exact ⟨by first | rfl | (rw [hv]; rfl), rfl⟩
 by_cases c7 : c = 7
 ·subst c7
  cases e1 : inB k 0 63
  ·have hv : qz3y 7 k v = false := by simp [qz3y, e1]
   go_enter Try.func97, Try.ntmps97
   go_wp2_with (first | (go_at_call 76; refine (qzo _ _).mono ?_; rintro e w' ⟨rfl, hw⟩; obtain rfl := hw.symm) | (go_at_call 46; refine (qzd _ _ _ _).mono ?_; rintro e w' ⟨rfl, hw⟩; obtain rfl := hw.symm))
   go_ret
   exact ⟨by first | rfl | (rw [hv]; rfl), rfl⟩
  have hv : qz3y 7 k v = inB v 0 63 := by simp [qz3y, e1]
  go_enter Try.func97, Try.ntmps97
  go_wp2_with (first | (go_at_call 76; refine (qzo _ _).mono ?_; rintro e w' ⟨rfl, hw⟩; obtain rfl := hw.symm) | (go_at_call 46; refine (qzd _ _ _ _).mono ?_; rintro e w' ⟨rfl, hw⟩; obtain rfl := hw.symm))
  go_ret
  exact ⟨by first | rfl | (rw [hv]; rfl), rfl⟩
 by_cases c2 : c = 2
 ·subst c2
  cases e1 : inB k 0 63
  ·have hv : qz3y 2 k v = false := by simp [qz3y, e1]
   go_enter Try.func97, Try.ntmps97
   go_wp2_with (first | (go_at_call 76; refine (qzo _ _).mono ?_; rintro e w' ⟨rfl, hw⟩; obtain rfl := hw.symm) | (go_at_call 46; refine (qzd _ _ _ _).mono ?_; rintro e w' ⟨rfl, hw⟩; obtain rfl := hw.symm))
   go_ret
   exact ⟨by first | rfl | (rw [hv]; rfl), rfl⟩
  have hv : qz3y 2 k v = (v == 0) := by simp [qz3y, e1]
  go_enter Try.func97, Try.ntmps97
  go_wp2_with (first | (go_at_call 76; refine (qzo _ _).mono ?_; rintro e w' ⟨rfl, hw⟩; obtain rfl := hw.symm) | (go_at_call 46; refine (qzd _ _ _ _).mono ?_; rintro e w' ⟨rfl, hw⟩; obtain rfl := hw.symm))
  go_ret
  exact ⟨by first | rfl | (rw [hv]; rfl), rfl⟩
 by_cases c3 : c = 3
 ·subst c3
  cases e1 : inB k 0 63
  ·have hv : qz3y 3 k v = false := by simp [qz3y, e1]
   go_enter Try.func97, Try.ntmps97
   go_wp2_with (first | (go_at_call 76; refine (qzo _ _).mono ?_; rintro e w' ⟨rfl, hw⟩; obtain rfl := hw.symm) | (go_at_call 46; refine (qzd _ _ _ _).mono ?_; rintro e w' ⟨rfl, hw⟩; obtain rfl := hw.symm))
   go_ret
   exact ⟨by first | rfl | (rw [hv]; rfl), rfl⟩
  have hv : qz3y 3 k v = (v == 0) := by simp [qz3y, e1]
  go_enter Try.func97, Try.ntmps97
  go_wp2_with (first | (go_at_call 76; refine (qzo _ _).mono ?_; rintro e w' ⟨rfl, hw⟩; obtain rfl := hw.symm) | (go_at_call 46; refine (qzd _ _ _ _).mono ?_; rintro e w' ⟨rfl, hw⟩; obtain rfl := hw.symm))
  go_ret
  exact ⟨by first | rfl | (rw [hv]; rfl), rfl⟩
 by_cases c6 : c = 6
 ·subst c6
  cases e1 : inB k 0 63
  ·have hv : qz3y 6 k v = false := by simp [qz3y, e1]
   go_enter Try.func97, Try.ntmps97
   go_wp2_with (first | (go_at_call 76; refine (qzo _ _).mono ?_; rintro e w' ⟨rfl, hw⟩; obtain rfl := hw.symm) | (go_at_call 46; refine (qzd _ _ _ _).mono ?_; rintro e w' ⟨rfl, hw⟩; obtain rfl := hw.symm))
   go_ret
   exact ⟨by first | rfl | (rw [hv]; rfl), rfl⟩
  have hv : qz3y 6 k v = (v == 0) := by simp [qz3y, e1]
  go_enter Try.func97, Try.ntmps97
  go_wp2_with (first | (go_at_call 76; refine (qzo _ _).mono ?_; rintro e w' ⟨rfl, hw⟩; obtain rfl := hw.symm) | (go_at_call 46; refine (qzd _ _ _ _).mono ?_; rintro e w' ⟨rfl, hw⟩; obtain rfl := hw.symm))
  go_ret
  exact ⟨by first | rfl | (rw [hv]; rfl), rfl⟩
 by_cases c4 : c = 4
 ·subst c4
  cases e1 : (k == -1)
  ·have hv : qz3y 4 k v = false := by simp [qz3y, e1]
   go_enter Try.func97, Try.ntmps97
   go_wp2_with (first | (go_at_call 76; refine (qzo _ _).mono ?_; rintro e w' ⟨rfl, hw⟩; obtain rfl := hw.symm) | (go_at_call 46; refine (qzd _ _ _ _).mono ?_; rintro e w' ⟨rfl, hw⟩; obtain rfl := hw.symm))
   go_ret
   exact ⟨by first | rfl | (rw [hv]; rfl), rfl⟩
  have hv : qz3y 4 k v = (v == 0) := by simp [qz3y, e1]
  go_enter Try.func97, Try.ntmps97
  go_wp2_with (first | (go_at_call 76; refine (qzo _ _).mono ?_; rintro e w' ⟨rfl, hw⟩; obtain rfl := hw.symm) | (go_at_call 46; refine (qzd _ _ _ _).mono ?_; rintro e w' ⟨rfl, hw⟩; obtain rfl := hw.symm))
  go_ret
  exact ⟨by first | rfl | (rw [hv]; rfl), rfl⟩
 by_cases c5 : c = 5
 ·subst c5
  cases e1 : (k == -1)
  ·have hv : qz3y 5 k v = false := by simp [qz3y, e1]
   go_enter Try.func97, Try.ntmps97
   go_wp2_with (first | (go_at_call 76; refine (qzo _ _).mono ?_; rintro e w' ⟨rfl, hw⟩; obtain rfl := hw.symm) | (go_at_call 46; refine (qzd _ _ _ _).mono ?_; rintro e w' ⟨rfl, hw⟩; obtain rfl := hw.symm))
   go_ret
   exact ⟨by first | rfl | (rw [hv]; rfl), rfl⟩
  have hv : qz3y 5 k v = (v == 0) := by simp [qz3y, e1]
  go_enter Try.func97, Try.ntmps97
  go_wp2_with (first | (go_at_call 76; refine (qzo _ _).mono ?_; rintro e w' ⟨rfl, hw⟩; obtain rfl := hw.symm) | (go_at_call 46; refine (qzd _ _ _ _).mono ?_; rintro e w' ⟨rfl, hw⟩; obtain rfl := hw.symm))
  go_ret
  exact ⟨by first | rfl | (rw [hv]; rfl), rfl⟩
 by_cases c8 : c = 8
 ·subst c8
  cases e1 : (k == -1)
  ·have hv : qz3y 8 k v = false := by simp [qz3y, e1]
   go_enter Try.func97, Try.ntmps97
   go_wp2_with (first | (go_at_call 76; refine (qzo _ _).mono ?_; rintro e w' ⟨rfl, hw⟩; obtain rfl := hw.symm) | (go_at_call 46; refine (qzd _ _ _ _).mono ?_; rintro e w' ⟨rfl, hw⟩; obtain rfl := hw.symm))
   go_ret
   exact ⟨by first | rfl | (rw [hv]; rfl), rfl⟩
  have hv : qz3y 8 k v = (v == 0) := by simp [qz3y, e1]
  go_enter Try.func97, Try.ntmps97
  go_wp2_with (first | (go_at_call 76; refine (qzo _ _).mono ?_; rintro e w' ⟨rfl, hw⟩; obtain rfl := hw.symm) | (go_at_call 46; refine (qzd _ _ _ _).mono ?_; rintro e w' ⟨rfl, hw⟩; obtain rfl := hw.symm))
  go_ret
  exact ⟨by first | rfl | (rw [hv]; rfl), rfl⟩
 have hv : qz3y c k v = false := by simp [qz3y, c1, c2, c3, c4, c5, c6, c7, c8]
 go_enter Try.func97, Try.ntmps97
 go_wp2_with (first | (go_at_call 76; refine (qzo _ _).mono ?_; rintro e w' ⟨rfl, hw⟩; obtain rfl := hw.symm) | (go_at_call 46; refine (qzd _ _ _ _).mono ?_; rintro e w' ⟨rfl, hw⟩; obtain rfl := hw.symm))
 go_ret
 exact ⟨by first | rfl | (rw [hv]; rfl), rfl⟩
theorem qzb9 (x y z u : Int) (h : Hd) (c k v : Int) (w : World) :
  Calls Try.prog 104 #[.agg Q08, .agg (hdC h).toArray, .int .i64 c, .int .i64 k, .int .i64 v] w fun e w' => e = .returned (.int .i64 (qz2s x y z u h c k v)) /\ Below Q67 w w' := by
 show Calls Try.prog 104 #[.agg Q08, .agg Q07, .int .i64 c, .int .i64 k, .int .i64 v] w fun e w' => e = .returned (.int .i64 (qz2s x y z u h c k v)) /\ Below Q67 w w'
 have P0 := (qz1h w x y z u 25).below ((Q6c _ _).alloc (Q6f _) Q0q) (by simp)
 have X0 := qz7 Q58 (hdC h) 56
 have K0 := ((Q6c Q67 w).alloc (Q6f _) (.cells Q08 25)).alloc (by simp) Q0q
 have hz0 : Q67 + 1 < (Q4u).heap.size := by simp
 simp only [World.size_alloc] at X0
 obtain ⟨p0, p1, p2, p3⟩ := id P0
 go_enter Try.func104, Try.ntmps104
 go_wp2_with (refine Q6h rfl 56 (.tmp 6) rfl (Q67 + 1) 0 rfl (hdC h) _ ?hc Q6g rfl (qz4 h) ?_)
 case hc => exact X0
 change Calls Try.prog _ _ Q4u _
 generalize hw0 : (Q58).alloc Q0q = w0 at *
 clear hw0 p0 p1 p2 p3 P0
 refine (qz5h x y z u h _).mono ?_
 rintro e w1 ⟨rfl, b1⟩
 have X1 := qz0 X0 b1 hz0
 have K1 := K0.trans (b1.mono (by omega))
 clear X0 K0 b1 hz0
 have q0 : w1.cell? ⟨Q67 + 1, 0, none⟩ = some (.int .i64 h.at_) := by simpa using X1 0 (.int .i64 h.at_) rfl
 have q9 : w1.cell? ⟨Q67 + 1, 9, none⟩ = some (.int .i64 h.held) := by simpa using X1 9 (.int .i64 h.held) rfl
 clear X1
 cases e1 : qz3z x y z u h
 ·have hv : qz2s x y z u h c k v = 5 := by simp [qz2s, e1]
  go_wp2
  go_ret
  exact ⟨by first | rfl | (rw [hv]; rfl), K1⟩
 by_cases e2 : h.at_ = 0
 case neg =>
  have hv : qz2s x y z u h c k v = 1 := by simp [qz2s, e1, e2]
  go_wp2
  go_ret
  exact ⟨by first | rfl | (rw [hv]; rfl), K1⟩
 cases e3 : qz3y c k v
 ·have hv : qz2s x y z u h c k v = 2 := by simp [qz2s, e1, e2, e3]
  go_wp2_with (go_at_call 97; refine (qz1t _ _ _ _).mono ?_; rintro e w' ⟨rfl, hw⟩; obtain rfl := hw.symm)
  go_ret
  exact ⟨by first | rfl | (rw [hv]; rfl), K1⟩
 by_cases e4 : h.held < 0
 ·have e5 : ¬ (0 <= h.held) := by omega
  by_cases c5 : c = 5
  ·subst c5
   have hv : qz2s x y z u h 5 k v = 3 := by simp [qz2s, e1, e2, e3, e4]
   go_wp2_with (go_at_call 97; refine (qz1t _ _ _ _).mono ?_; rintro e w' ⟨rfl, hw⟩; obtain rfl := hw.symm)
   go_ret
   exact ⟨by first | rfl | (rw [hv]; rfl), K1⟩
  by_cases c6 : c = 6
  ·subst c6
   have hv : qz2s x y z u h 6 k v = 3 := by simp [qz2s, e1, e2, e3, e4]
   go_wp2_with (go_at_call 97; refine (qz1t _ _ _ _).mono ?_; rintro e w' ⟨rfl, hw⟩; obtain rfl := hw.symm)
   go_ret
   exact ⟨by first | rfl | (rw [hv]; rfl), K1⟩
  by_cases c7 : c = 7
  ·subst c7
   have hv : qz2s x y z u h 7 k v = 3 := by simp [qz2s, e1, e2, e3, e4]
   go_wp2_with (go_at_call 97; refine (qz1t _ _ _ _).mono ?_; rintro e w' ⟨rfl, hw⟩; obtain rfl := hw.symm)
   go_ret
   exact ⟨by first | rfl | (rw [hv]; rfl), K1⟩
  have b5 : (c == 5) = false := by simp [c5]
  have b6 : (c == 6) = false := by simp [c6]
  have b7 : (c == 7) = false := by simp [c7]
  have hv : qz2s x y z u h c k v = 0 := by simp [qz2s, e1, e2, e3, e5, c5, c6, c7]
  go_wp2_with (go_at_call 97; refine (qz1t _ _ _ _).mono ?_; rintro e w' ⟨rfl, hw⟩; obtain rfl := hw.symm)
  go_ret
  exact ⟨by first | rfl | (rw [hv]; rfl), K1⟩
 have e5 : 0 <= h.held := by omega
 by_cases c4 : c = 4
 ·subst c4
  have hv : qz2s x y z u h 4 k v = 4 := by simp [qz2s, e1, e2, e3, e4, e5]
  go_wp2_with (go_at_call 97; refine (qz1t _ _ _ _).mono ?_; rintro e w' ⟨rfl, hw⟩; obtain rfl := hw.symm)
  go_ret
  exact ⟨by first | rfl | (rw [hv]; rfl), K1⟩
 have b4 : (c == 4) = false := by simp [c4]
 have hv : qz2s x y z u h c k v = 0 := by simp [qz2s, e1, e2, e3, e4, c4]
 go_wp2_with (go_at_call 97; refine (qz1t _ _ _ _).mono ?_; rintro e w' ⟨rfl, hw⟩; obtain rfl := hw.symm)
 go_ret
 exact ⟨by first | rfl | (rw [hv]; rfl), K1⟩
theorem qz6z {x y z u : Int} {h : Hd} {c k v : Int} (e : qz2s x y z u h c k v = 0) : qz3z x y z u h = true /\ h.at_ = 0 /\ qz3y c k v = true /\ ¬ (h.held < 0 /\ (c = 5 ∨ c = 6 ∨ c = 7)) /\ ¬ (0 <= h.held /\ c = 4) := by
 unfold qz2s at e
 split at e
 ·cases e
 rename_i h1
 split at e
 ·cases e
 rename_i h2
 split at e
 ·cases e
 rename_i h3
 split at e
 ·cases e
 rename_i h4
 split at e
 ·cases e
 rename_i h5
 exact ⟨by simpa using h1, by simpa using h2, by simpa using h3, h4, h5⟩
theorem qz77 {c k v : Int} (h : qz3y c k v = true) : c = 1 ∨ c = 2 ∨ c = 3 ∨ c = 4 ∨ c = 5 ∨ c = 6 ∨ c = 7 ∨ c = 8 := by
 unfold qz3y at h
 split at h
 ·omega
 split at h
 ·omega
 split at h
 ·omega
 split at h
 ·omega
 ·cases h
theorem qz7f (x y z u : Int) (h : Hd) (c k v : Int) (w : World) :
  Calls Try.prog 100 #[.agg Q08, .agg (hdC h).toArray, .int .i64 c, .int .i64 k, .int .i64 v] w fun e w' => e = .returned (.tuple #[.agg (hdC (qz34 x y z u h c k v)).toArray, .int .i64 (qz2s x y z u h c k v)]) /\ Below Q67 w w' := by
 show Calls Try.prog 100 #[.agg Q08, .agg Q07, .int .i64 c, .int .i64 k, .int .i64 v] w fun e w' => e = .returned (.tuple #[.agg (hdC (qz34 x y z u h c k v)).toArray, .int .i64 (qz2s x y z u h c k v)]) /\ Below Q67 w w'
 have P0 := ((qz1h w x y z u 25).below ((Q6c _ _).alloc (Q6f _) Q0q) (by simp)).below ((Q6c _ _).alloc (Q6f _) (.cells Q00 56)) (by simp; omega)
 have X0 := Q6w (qz7 Q58 (hdC h) 56) (.cells Q00 56)
 have F0 := qzf Q4u Q00 56 22 (by decide)
 have K0 := (((Q6c Q67 w).alloc (Q6f _) (.cells Q08 25)).alloc (by simp) Q0q).alloc (by simp; omega) (.cells Q00 56)
 have hz0 : Q67 + 1 + 1 < ((Q4u).alloc (.cells Q00 56)).heap.size := by simp
 simp only [World.size_alloc] at X0 F0
 obtain ⟨p0, p1, p2, p3⟩ := id P0
 go_enter Try.func100, Try.ntmps100
 go_wp2_with (refine Q6h rfl 56 (.tmp 6) rfl (Q67 + 1) 0 rfl (hdC h) _ ?hc Q6g rfl (qz4 h) ?_)
 case hc => exact X0
 change Calls Try.prog _ _ ((Q4u).alloc (.cells Q00 56)) _
 generalize hw0 : (Q4u).alloc (.cells Q00 56) = w0 at *
 clear hw0 p0 p1 p2 p3 P0
 refine (qzb9 x y z u h c k v _).mono ?_
 rintro e w1 ⟨rfl, b1⟩
 have X1 := qz0 X0 b1 (by omega)
 have F1 := qz5 F0 b1 (by omega)
 have K1 := K0.trans (b1.mono (by omega))
 have hz1 := Q6l hz0 b1.size
 clear X0 F0 K0 b1 hz0
 by_cases e5 : qz2s x y z u h c k v = 5
 ·have hv : qz34 x y z u h c k v = qzdb := by simp [qz34, e5]
  rw [e5]
  have hq : Hid (qz34 x y z u h c k v = qzdb /\ qz2s x y z u h c k v = 5) := ⟨hv, e5⟩
  clear hv e5
  go_wp2_with (refine Q6b rfl 56 (.tmp 10) (.tmp 22) rfl (Q67 + 1 + 1) 0 _ rfl rfl ?ht ?hi ?h1 ?_)
  case ht => exact F1
  case hi => exact qzb qzdb
  case h1 => exact qzh qzdb
  refine bodyPost_ret (v := .tuple #[.agg (hdC qzdb).toArray, .int .i64 5]) ?_ rfl ⟨by rw [hq.out.1, hq.out.2], ?_⟩
  ·exact qzm Try.results100 _ _ (Q67 + 1 + 1) 0 rfl (hdC qzdb) _ (Q6d _ _ _ _ F1) Q6g rfl (qz4 qzdb)
  ·exact Below.setCells (by omega) _ _ _ K1
 by_cases e0 : qz2s x y z u h c k v = 0
 case neg =>
  have hv : qz34 x y z u h c k v = h := by simp [qz34, e5, e0]
  have hq : Hid (qz34 x y z u h c k v = h) := hv
  clear hv
  go_wp2_with (first | (refine Q6h rfl 56 (.tmp 6) rfl (Q67 + 1) 0 rfl (hdC h) _ ?hc Q6g rfl (qz4 h) ?_) | (refine Q6b rfl 56 (.tmp 10) (.tmp 26) rfl (Q67 + 1 + 1) 0 _ rfl rfl ?ht ?hi ?h1 ?_))
  case hc => exact X1
  case ht => exact F1
  case hi => exact qzb h
  case h1 => exact qzh h
  refine bodyPost_ret (v := .tuple #[.agg (hdC h).toArray, .int .i64 (qz2s x y z u h c k v)]) ?_ rfl ⟨by rw [hq.out], ?_⟩
  ·exact qzm Try.results100 _ _ (Q67 + 1 + 1) 0 rfl (hdC h) _ (Q6d _ _ _ _ F1) Q6g rfl (qz4 h)
  ·exact Below.setCells (by omega) _ _ _ K1
 have hv : qz34 x y z u h c k v = qz2n h c k v := by simp [qz34, e0]
 obtain ⟨_, _, hfit, _, _⟩ := qz6z e0
 rw [e0]
 have hq : Hid (qz34 x y z u h c k v = qz2n h c k v /\ qz2s x y z u h c k v = 0) := ⟨hv, e0⟩
 clear hv e0 e5
 go_wp2_with (refine Q6h rfl 56 (.tmp 6) rfl (Q67 + 1) 0 rfl (hdC h) _ ?hc Q6g rfl (qz4 h) ?_)
 case hc => exact X1
 refine (qz4y h 0 0 0 _).mono ?_
 rintro e w2 ⟨rfl, b2⟩
 have F2 := qz5 F1 b2 (by omega)
 have K2 := K1.trans (b2.mono (by omega))
 have hz2 := Q6l hz1 b2.size
 clear X1 F1 K1 b2 hz1
 have hset : (w2.alloc (.cells Q00 56)).setCells Q6v 0 (hdC (qz8 h 0 0 0)).toArray.toList = w2.alloc (.cells #[.int .i64 0, .int .i64 0, .int .i64 0, .int .i64 (-1), .int .i64 0, .int .i64 0, .int .i64 0, .int .i64 0, .int .i64 0, .int .i64 h.held, .int .i64 0, .int .i64 0, .int .i64 0, .int .i64 0, .int .i64 0, .int .i64 0, .int .i64 (-1), .int .i64 0, .int .i64 (-1), .int .i64 0, .int .i64 0, .int .i64 0] 56) := qz13 w2 56 (hdC (qz8 h 0 0 0)) [] Q0m rfl
 have FA := qzf w2 Q00 56 22 (by decide)
 have K3 := K2.alloc (by omega) (.cells (hdC (qz2n h c k v)).toArray 56)
 have R3 := qz7 w2 (hdC (qz2n h c k v)) 56
 have F3 := World.there_alloc F2 (.cells (hdC (qz2n h c k v)).toArray 56)
 have fin : ∀ ws : World, ws = w2.alloc (.cells (hdC (qz2n h c k v)).toArray 56) -> ws.there (Q67 + 1 + 1) 0 22 /\ ws.rangeAt Q6v 0 (hdC (qz2n h c k v)) /\ Below Q67 w ws := by
  rintro ws rfl
  exact ⟨F3, R3, K3⟩
 rcases qz77 hfit with rfl | rfl | rfl | rfl | rfl | rfl | rfl | rfl
 ·go_wp2_with (first | (refine wpList_store_mid rfl 56 (.tmp 13) (.tmp 29) rfl w2.heap.size 0 _ rfl rfl FA (qzb (qz8 h 0 0 0)) (qzh _) ?_; rw [hset]) | (refine wpList_load_mid rfl 56 (.tmp 13) rfl w2.heap.size 0 rfl (hdC (qz2n h 1 k v)) _ ?hc Try.underlying56 rfl (qz4 _) ?_) | (refine wpList_store_mid rfl 56 (.tmp 10) (.tmp 56) rfl (w.heap.size + 1 + 1) 0 _ rfl rfl ?ht ?hi ?h1 ?_))
  case hc => exact R3
  case ht => exact F3
  case hi => exact qzb _
  case h1 => exact qzh _
  refine bodyPost_ret (v := .tuple #[.agg (hdC (qz2n h 1 k v)).toArray, .int .i64 0]) ?_ rfl ⟨by rw [hq.out.1, hq.out.2], ?_⟩
  ·exact qzm Try.results100 _ _ (Q67 + 1 + 1) 0 rfl (hdC (qz2n h 1 k v)) _ (Q6d _ _ _ _ F3) Q6g rfl (qz4 _)
  ·exact Below.setCells (by omega) _ _ _ K3
 ·go_wp2_with (first | (refine wpList_store_mid rfl 56 (.tmp 13) (.tmp 29) rfl w2.heap.size 0 _ rfl rfl FA (qzb (qz8 h 0 0 0)) (qzh _) ?_; rw [hset]) | (refine wpList_load_mid rfl 56 (.tmp 13) rfl w2.heap.size 0 rfl (hdC (qz2n h 2 k v)) _ ?hc Try.underlying56 rfl (qz4 _) ?_) | (refine wpList_store_mid rfl 56 (.tmp 10) (.tmp 56) rfl (w.heap.size + 1 + 1) 0 _ rfl rfl ?ht ?hi ?h1 ?_))
  case hc => exact R3
  case ht => exact F3
  case hi => exact qzb _
  case h1 => exact qzh _
  refine bodyPost_ret (v := .tuple #[.agg (hdC (qz2n h 2 k v)).toArray, .int .i64 0]) ?_ rfl ⟨by rw [hq.out.1, hq.out.2], ?_⟩
  ·exact qzm Try.results100 _ _ (Q67 + 1 + 1) 0 rfl (hdC (qz2n h 2 k v)) _ (Q6d _ _ _ _ F3) Q6g rfl (qz4 _)
  ·exact Below.setCells (by omega) _ _ _ K3
 ·go_wp2_with (first | (refine wpList_store_mid rfl 56 (.tmp 13) (.tmp 29) rfl w2.heap.size 0 _ rfl rfl FA (qzb (qz8 h 0 0 0)) (qzh _) ?_; rw [hset]) | (refine wpList_load_mid rfl 56 (.tmp 13) rfl w2.heap.size 0 rfl (hdC (qz2n h 3 k v)) _ ?hc Try.underlying56 rfl (qz4 _) ?_) | (refine wpList_store_mid rfl 56 (.tmp 10) (.tmp 56) rfl (w.heap.size + 1 + 1) 0 _ rfl rfl ?ht ?hi ?h1 ?_))
  case hc => exact R3
  case ht => exact F3
  case hi => exact qzb _
  case h1 => exact qzh _
  refine bodyPost_ret (v := .tuple #[.agg (hdC (qz2n h 3 k v)).toArray, .int .i64 0]) ?_ rfl ⟨by rw [hq.out.1, hq.out.2], ?_⟩
  ·exact qzm Try.results100 _ _ (Q67 + 1 + 1) 0 rfl (hdC (qz2n h 3 k v)) _ (Q6d _ _ _ _ F3) Q6g rfl (qz4 _)
  ·exact Below.setCells (by omega) _ _ _ K3
 ·go_wp2_with (first | (refine wpList_store_mid rfl 56 (.tmp 13) (.tmp 29) rfl w2.heap.size 0 _ rfl rfl FA (qzb (qz8 h 0 0 0)) (qzh _) ?_; rw [hset]) | (refine wpList_load_mid rfl 56 (.tmp 13) rfl w2.heap.size 0 rfl (hdC (qz2n h 4 k v)) _ ?hc Try.underlying56 rfl (qz4 _) ?_) | (refine wpList_store_mid rfl 56 (.tmp 10) (.tmp 56) rfl (w.heap.size + 1 + 1) 0 _ rfl rfl ?ht ?hi ?h1 ?_))
  case hc => exact R3
  case ht => exact F3
  case hi => exact qzb _
  case h1 => exact qzh _
  refine bodyPost_ret (v := .tuple #[.agg (hdC (qz2n h 4 k v)).toArray, .int .i64 0]) ?_ rfl ⟨by rw [hq.out.1, hq.out.2], ?_⟩
  ·exact qzm Try.results100 _ _ (Q67 + 1 + 1) 0 rfl (hdC (qz2n h 4 k v)) _ (Q6d _ _ _ _ F3) Q6g rfl (qz4 _)
  ·exact Below.setCells (by omega) _ _ _ K3
 ·go_wp2_with (first | (refine wpList_store_mid rfl 56 (.tmp 13) (.tmp 29) rfl w2.heap.size 0 _ rfl rfl FA (qzb (qz8 h 0 0 0)) (qzh _) ?_; rw [hset]) | (refine wpList_load_mid rfl 56 (.tmp 13) rfl w2.heap.size 0 rfl (hdC (qz2n h 5 k v)) _ ?hc Try.underlying56 rfl (qz4 _) ?_) | (refine wpList_store_mid rfl 56 (.tmp 10) (.tmp 56) rfl (w.heap.size + 1 + 1) 0 _ rfl rfl ?ht ?hi ?h1 ?_))
  case hc => exact R3
  case ht => exact F3
  case hi => exact qzb _
  case h1 => exact qzh _
  refine bodyPost_ret (v := .tuple #[.agg (hdC (qz2n h 5 k v)).toArray, .int .i64 0]) ?_ rfl ⟨by rw [hq.out.1, hq.out.2], ?_⟩
  ·exact qzm Try.results100 _ _ (Q67 + 1 + 1) 0 rfl (hdC (qz2n h 5 k v)) _ (Q6d _ _ _ _ F3) Q6g rfl (qz4 _)
  ·exact Below.setCells (by omega) _ _ _ K3
 ·go_wp2_with (first | (refine wpList_store_mid rfl 56 (.tmp 13) (.tmp 29) rfl w2.heap.size 0 _ rfl rfl FA (qzb (qz8 h 0 0 0)) (qzh _) ?_; rw [hset]) | (refine wpList_load_mid rfl 56 (.tmp 13) rfl w2.heap.size 0 rfl (hdC (qz2n h 6 k v)) _ ?hc Try.underlying56 rfl (qz4 _) ?_) | (refine wpList_store_mid rfl 56 (.tmp 10) (.tmp 56) rfl (w.heap.size + 1 + 1) 0 _ rfl rfl ?ht ?hi ?h1 ?_))
  case hc => exact R3
  case ht => exact F3
  case hi => exact qzb _
  case h1 => exact qzh _
  refine bodyPost_ret (v := .tuple #[.agg (hdC (qz2n h 6 k v)).toArray, .int .i64 0]) ?_ rfl ⟨by rw [hq.out.1, hq.out.2], ?_⟩
  ·exact qzm Try.results100 _ _ (Q67 + 1 + 1) 0 rfl (hdC (qz2n h 6 k v)) _ (Q6d _ _ _ _ F3) Q6g rfl (qz4 _)
  ·exact Below.setCells (by omega) _ _ _ K3
 ·go_wp2_with (first | (refine wpList_store_mid rfl 56 (.tmp 13) (.tmp 29) rfl w2.heap.size 0 _ rfl rfl FA (qzb (qz8 h 0 0 0)) (qzh _) ?_; rw [hset]) | (refine wpList_load_mid rfl 56 (.tmp 13) rfl w2.heap.size 0 rfl (hdC (qz2n h 7 k v)) _ ?hc Try.underlying56 rfl (qz4 _) ?_) | (refine wpList_store_mid rfl 56 (.tmp 10) (.tmp 56) rfl (w.heap.size + 1 + 1) 0 _ rfl rfl ?ht ?hi ?h1 ?_))
  case hc => exact R3
  case ht => exact F3
  case hi => exact qzb _
  case h1 => exact qzh _
  refine bodyPost_ret (v := .tuple #[.agg (hdC (qz2n h 7 k v)).toArray, .int .i64 0]) ?_ rfl ⟨by rw [hq.out.1, hq.out.2], ?_⟩
  ·exact qzm Try.results100 _ _ (Q67 + 1 + 1) 0 rfl (hdC (qz2n h 7 k v)) _ (Q6d _ _ _ _ F3) Q6g rfl (qz4 _)
  ·exact Below.setCells (by omega) _ _ _ K3
 ·go_wp2_with (first | (refine wpList_store_mid rfl 56 (.tmp 13) (.tmp 29) rfl w2.heap.size 0 _ rfl rfl FA (qzb (qz8 h 0 0 0)) (qzh _) ?_; rw [hset]) | (refine wpList_load_mid rfl 56 (.tmp 13) rfl w2.heap.size 0 rfl (hdC (qz2n h 8 k v)) _ ?hc Try.underlying56 rfl (qz4 _) ?_) | (refine wpList_store_mid rfl 56 (.tmp 10) (.tmp 56) rfl (w.heap.size + 1 + 1) 0 _ rfl rfl ?ht ?hi ?h1 ?_))
  case hc => exact R3
  case ht => exact F3
  case hi => exact qzb _
  case h1 => exact qzh _
  refine bodyPost_ret (v := .tuple #[.agg (hdC (qz2n h 8 k v)).toArray, .int .i64 0]) ?_ rfl ⟨by rw [hq.out.1, hq.out.2], ?_⟩
  ·exact qzm Try.results100 _ _ (Q67 + 1 + 1) 0 rfl (hdC (qz2n h 8 k v)) _ (Q6d _ _ _ _ F3) Q6g rfl (qz4 _)
  ·exact Below.setCells (by omega) _ _ _ K3
end
end Go.Proofs.Ythjkdnlmopafkaa
