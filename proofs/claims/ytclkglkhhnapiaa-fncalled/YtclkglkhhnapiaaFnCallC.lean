/-
  What the law's proof goes by, part 3.
-/
import Derived.Deep.Cut
import Derived.Test.YtclkglkhhnapiaaFnCallB
namespace Go.Proofs.Ytclkglkhhnapiaa
open Go.ChangeShapes Go.WideShapes Go.ChangeAt Go.RowKit
set_option maxRecDepth 100000
set_option maxHeartbeats 16000000
set_option linter.unusedVariables false
set_option linter.unusedSimpArgs false
set_option linter.unnecessarySimpa false
set_option linter.unusedSectionVars false
section
attribute [local go_sem ↓] Go.wp_at_zero Go.wp_at_succ
theorem qz11 (w : World) (T : TypeId) : ∀ (vs pre zs : List Value), zs.length = vs.length ->
  (w.alloc (.cells (pre ++ zs).toArray T)).setCells w.heap.size pre.length vs = w.alloc (.cells (pre ++ vs).toArray T)
 | [], pre, zs, h => by
  obtain rfl : zs = [] := List.eq_nil_of_length_eq_zero h
  rfl
 | v :: vs, pre, z :: zs, h => by
  simp only [World.setCells]
  have e : (w.alloc (.cells (pre ++ z :: zs).toArray T)).setCell ⟨w.heap.size, pre.length, none⟩ v = w.alloc (.cells ((pre ++ [v]) ++ zs).toArray T) := by
   rw [World.setCell_alloc_new]
   simp
  rw [e]
  have := qz11 w T vs (pre ++ [v]) zs (by simpa using h)
  simp only [List.length_append, List.length_cons, List.length_nil, Nat.zero_add] at this
  rw [this]
  simp
def newH : Hd := ⟨0, 0, 0, -1, 0, 0, 0, 0, 0, -1, 0, 0, 0, 0, 0, 0, -1, 0, -1, 0, 0, 0⟩
def qzb (h : Hd) (rp ot sm : Int) : Hd := ⟨0, 0, 0, -1, 0, 0, rp, ot, sm, h.held, 0, 0, 0, 0, 0, 0, -1, 0, -1, 0, 0, 0⟩
theorem qz71 (w : World) : Calls Try.prog 76 #[] w fun e w' => e = .returned (.agg (hdC newH).toArray) /\ Below w.heap.size w w' := by
 have F0 := qzh w #[.int .i64 0, .int .i64 0, .int .i64 0, .int .i64 0, .int .i64 0, .int .i64 0, .int .i64 0, .int .i64 0, .int .i64 0, .int .i64 0, .int .i64 0, .int .i64 0, .int .i64 0, .int .i64 0, .int .i64 0, .int .i64 0, .int .i64 0, .int .i64 0, .int .i64 0, .int .i64 0, .int .i64 0, .int .i64 0] 27 22 (by decide)
 go_enter Try.func76, Try.ntmps76
 go_wp2_with (refine wpList_store_mid rfl 27 (.tmp 0) (.tmp 1) rfl w.heap.size 0 _ rfl rfl ?ht ?hi ?h1 ?_)
 case ht => exact F0
 case hi => exact qza newH
 case h1 => exact qzf newH
 refine bodyPost_ret (v := .agg (hdC newH).toArray) ?_ rfl ⟨rfl, ?_⟩
 ·exact qz5 Try.results76 _ _ w.heap.size 0 rfl (hdC newH) _ (World.rangeAt_setCells_same _ _ _ _ F0) Try.underlying27 rfl (qz1 newH)
 ·exact Below.setCells (Nat.le_refl _) _ _ _ ((Below.refl _ _).alloc (Nat.le_refl _) _)
theorem qz42 (h : Hd) (rp ot sm : Int) (w : World) :
  Calls Try.prog 33 #[.agg (hdC h).toArray, .int .i64 rp, .int .i64 ot, .int .i64 sm] w fun e w' => e = .returned (.agg (hdC (qzb h rp ot sm)).toArray) /\ Below w.heap.size w w' := by
 show Calls Try.prog 33 #[.agg #[.int .i64 h.at_, .int .i64 h.then_, .int .i64 h.code, .int .i64 h.key, .int .i64 h.value, .int .i64 h.begin, .int .i64 h.reply, .int .i64 h.out, .int .i64 h.sum, .int .i64 h.held, .int .i64 h.x_, .int .i64 h.ver, .int .i64 h.cam, .int .i64 h.camAt, .int .i64 h.pred, .int .i64 h.predVer, .int .i64 h.curr, .int .i64 h.currVer, .int .i64 h.new_, .int .i64 h.least, .int .i64 h.index, .int .i64 h.round], .int .i64 rp, .int .i64 ot, .int .i64 sm] w fun e w' => e = .returned (.agg (hdC (qzb h rp ot sm)).toArray) /\ Below w.heap.size w w'
 have X0 := World.rangeAt_alloc (qzd w (hdC h) 27) (.cells #[.int .i64 0, .int .i64 0, .int .i64 0, .int .i64 0, .int .i64 0, .int .i64 0, .int .i64 0, .int .i64 0, .int .i64 0, .int .i64 0, .int .i64 0, .int .i64 0, .int .i64 0, .int .i64 0, .int .i64 0, .int .i64 0, .int .i64 0, .int .i64 0, .int .i64 0, .int .i64 0, .int .i64 0, .int .i64 0] 27)
 have F0 := qzh (w.alloc (.cells (hdC h).toArray 27)) #[.int .i64 0, .int .i64 0, .int .i64 0, .int .i64 0, .int .i64 0, .int .i64 0, .int .i64 0, .int .i64 0, .int .i64 0, .int .i64 0, .int .i64 0, .int .i64 0, .int .i64 0, .int .i64 0, .int .i64 0, .int .i64 0, .int .i64 0, .int .i64 0, .int .i64 0, .int .i64 0, .int .i64 0, .int .i64 0] 27 22 (by decide)
 have K0 := ((Below.refl w.heap.size w).alloc (Nat.le_refl _) (.cells (hdC h).toArray 27)).alloc (by simp) (.cells #[.int .i64 0, .int .i64 0, .int .i64 0, .int .i64 0, .int .i64 0, .int .i64 0, .int .i64 0, .int .i64 0, .int .i64 0, .int .i64 0, .int .i64 0, .int .i64 0, .int .i64 0, .int .i64 0, .int .i64 0, .int .i64 0, .int .i64 0, .int .i64 0, .int .i64 0, .int .i64 0, .int .i64 0, .int .i64 0] 27)
 have hz0 : w.heap.size + 1 < ((w.alloc (.cells (hdC h).toArray 27)).alloc (.cells #[.int .i64 0, .int .i64 0, .int .i64 0, .int .i64 0, .int .i64 0, .int .i64 0, .int .i64 0, .int .i64 0, .int .i64 0, .int .i64 0, .int .i64 0, .int .i64 0, .int .i64 0, .int .i64 0, .int .i64 0, .int .i64 0, .int .i64 0, .int .i64 0, .int .i64 0, .int .i64 0, .int .i64 0, .int .i64 0] 27)).heap.size := by simp
 simp only [World.size_alloc] at F0
 go_enter Try.func33, Try.ntmps33
 go_wp2_with fail
 change Calls Try.prog _ _ ((w.alloc (.cells (hdC h).toArray 27)).alloc (.cells #[.int .i64 0, .int .i64 0, .int .i64 0, .int .i64 0, .int .i64 0, .int .i64 0, .int .i64 0, .int .i64 0, .int .i64 0, .int .i64 0, .int .i64 0, .int .i64 0, .int .i64 0, .int .i64 0, .int .i64 0, .int .i64 0, .int .i64 0, .int .i64 0, .int .i64 0, .int .i64 0, .int .i64 0, .int .i64 0] 27)) _
 generalize hw0 : (w.alloc (.cells (hdC h).toArray 27)).alloc (.cells #[.int .i64 0, .int .i64 0, .int .i64 0, .int .i64 0, .int .i64 0, .int .i64 0, .int .i64 0, .int .i64 0, .int .i64 0, .int .i64 0, .int .i64 0, .int .i64 0, .int .i64 0, .int .i64 0, .int .i64 0, .int .i64 0, .int .i64 0, .int .i64 0, .int .i64 0, .int .i64 0, .int .i64 0, .int .i64 0] 27) = w0 at *
 clear hw0
 refine (qz71 _).mono ?_
 rintro e w1 ⟨rfl, b1⟩
 have q9 : w1.cell? ⟨w.heap.size, 9, none⟩ = some (.int .i64 h.held) := (b1.cell (p := ⟨w.heap.size, 9, none⟩) (by show w.heap.size < w0.heap.size; omega)).trans (by have := X0 9 (.int .i64 h.held) rfl; simpa using this)
 have F1 := qz6 F0 b1 hz0
 have K1 := K0.trans (b1.mono (by omega))
 have hz1 := Nat.lt_of_lt_of_le hz0 b1.size
 have qa : ∀ o : Obj, (w1.alloc o).cell? ⟨w.heap.size, 9, none⟩ = some (.int .i64 h.held) := fun o => (World.cell?_alloc_lt _ _ _ (by show w.heap.size < w1.heap.size; omega)).trans q9
 clear X0 F0 K0 b1 hz0 q9
 have hset : (w1.alloc (.cells #[.int .i64 0, .int .i64 0, .int .i64 0, .int .i64 0, .int .i64 0, .int .i64 0, .int .i64 0, .int .i64 0, .int .i64 0, .int .i64 0, .int .i64 0, .int .i64 0, .int .i64 0, .int .i64 0, .int .i64 0, .int .i64 0, .int .i64 0, .int .i64 0, .int .i64 0, .int .i64 0, .int .i64 0, .int .i64 0] 27)).setCells w1.heap.size 0 (hdC newH).toArray.toList = w1.alloc (.cells #[.int .i64 0, .int .i64 0, .int .i64 0, .int .i64 (-1), .int .i64 0, .int .i64 0, .int .i64 0, .int .i64 0, .int .i64 0, .int .i64 (-1), .int .i64 0, .int .i64 0, .int .i64 0, .int .i64 0, .int .i64 0, .int .i64 0, .int .i64 (-1), .int .i64 0, .int .i64 (-1), .int .i64 0, .int .i64 0, .int .i64 0] 27) := qz11 w1 27 (hdC newH) [] [.int .i64 0, .int .i64 0, .int .i64 0, .int .i64 0, .int .i64 0, .int .i64 0, .int .i64 0, .int .i64 0, .int .i64 0, .int .i64 0, .int .i64 0, .int .i64 0, .int .i64 0, .int .i64 0, .int .i64 0, .int .i64 0, .int .i64 0, .int .i64 0, .int .i64 0, .int .i64 0, .int .i64 0, .int .i64 0] rfl
 have FA := qzh w1 #[.int .i64 0, .int .i64 0, .int .i64 0, .int .i64 0, .int .i64 0, .int .i64 0, .int .i64 0, .int .i64 0, .int .i64 0, .int .i64 0, .int .i64 0, .int .i64 0, .int .i64 0, .int .i64 0, .int .i64 0, .int .i64 0, .int .i64 0, .int .i64 0, .int .i64 0, .int .i64 0, .int .i64 0, .int .i64 0] 27 22 (by decide)
 have K2 := K1.alloc (by omega) (.cells (hdC (qzb h rp ot sm)).toArray 27)
 have R2 := qzd w1 (hdC (qzb h rp ot sm)) 27
 have F2 := World.there_alloc F1 (.cells (hdC (qzb h rp ot sm)).toArray 27)
 go_wp2_with (first | (refine wpList_store_mid rfl 27 (.tmp 9) (.tmp 10) rfl w1.heap.size 0 _ rfl rfl FA (qza newH) (qzf newH) ?_; rw [hset]) | (refine wpList_load_mid rfl 27 (.tmp 9) rfl w1.heap.size 0 rfl (hdC (qzb h rp ot sm)) _ ?hc Try.underlying27 rfl (qz1 _) ?_) | (refine wpList_store_mid rfl 27 (.tmp 8) _ rfl (w.heap.size + 1) 0 _ rfl rfl ?ht ?hi ?h1 ?_))
 case hc => exact R2
 case ht => exact F2
 case hi => exact qza _
 case h1 => exact qzf _
 refine bodyPost_ret (v := .agg (hdC (qzb h rp ot sm)).toArray) ?_ rfl ⟨rfl, ?_⟩
 ·exact qz5 Try.results33 _ _ (w.heap.size + 1) 0 rfl (hdC (qzb h rp ot sm)) _ (World.rangeAt_setCells_same _ _ _ _ F2) Try.underlying27 rfl (qz1 _)
 ·exact Below.setCells (by omega) _ _ _ K2
end
section
attribute [local go_sem ↓] Go.wp_at_zero Go.wp_at_succ
def qz2c (c k v : Int) : Bool :=
 if c = 1 then inB k 0 63 && inB v 0 9999 else if c = 7 then inB k 0 63 && inB v 0 63 else if c = 2 ∨ c = 3 ∨ c = 6 then inB k 0 63 && (v == 0) else if c = 4 ∨ c = 5 ∨ c = 8 then (k == -1) && (v == 0) else false
def qz1f (x y z u : Int) (h : Hd) (c k v : Int) : Int :=
 if qz3c x y z u h = false then 5 else if h.at_ ≠ 0 then 1 else if qz2c c k v = false then 2 else if h.held < 0 /\ (c = 5 ∨ c = 6 ∨ c = 7) then 3 else if 0 <= h.held /\ c = 4 then 4 else 0
def qz7c : Hd := ⟨0, 0, 0, 0, 0, 0, 0, 0, 0, 0, 0, 0, 0, 0, 0, 0, 0, 0, 0, 0, 0, 0⟩
def qz9v (c : Int) : Int := if c = 1 ∨ c = 2 ∨ c = 3 then 1 else if c = 4 then 13 else if c = 5 then 18 else if c = 6 ∨ c = 7 then 2 else if c = 8 then 20 else 0
def qz6v (c : Int) : Int := if c = 6 ∨ c = 7 then 6 else 0
def qz1h (h : Hd) (c k v : Int) : Hd := ⟨qz9v c, qz6v c, c, k, v, 0, 0, 0, 0, h.held, 0, 0, 0, 0, 0, 0, -1, 0, -1, 0, 0, 0⟩
def qz1n (x y z u : Int) (h : Hd) (c k v : Int) : Hd :=
 if qz1f x y z u h c k v = 5 then qz7c else if qz1f x y z u h c k v ≠ 0 then h else qz1h h c k v
theorem qz1u (c k v : Int) (w : World) :
  Calls Try.prog 11 #[.int .i64 c, .int .i64 k, .int .i64 v] w fun e w' => e = .returned (.bool (qz2c c k v)) /\ w' = w := by
 by_cases c1 : c = 1
 ·subst c1
  cases e1 : inB k 0 63
  ·have hv : qz2c 1 k v = false := by simp [qz2c, e1]
   go_enter Try.func11, Try.ntmps11
   go_wp2_with (first | (go_at_call 42; refine (qzs _ _).mono ?_; rintro e w' ⟨rfl, hw⟩; obtain rfl := hw.symm) | (go_at_call 43; refine (qzg _ _ _ _).mono ?_; rintro e w' ⟨rfl, hw⟩; obtain rfl := hw.symm))
   go_ret
   exact ⟨by first | rfl | (rw [hv]; rfl), rfl⟩
  have hv : qz2c 1 k v = inB v 0 9999 := by simp [qz2c, e1]
  go_enter Try.func11, Try.ntmps11
  go_wp2_with (first | (go_at_call 42; refine (qzs _ _).mono ?_; rintro e w' ⟨rfl, hw⟩; obtain rfl := hw.symm) | (go_at_call 43; refine (qzg _ _ _ _).mono ?_; rintro e w' ⟨rfl, hw⟩; obtain rfl := hw.symm))
  go_ret
  exact ⟨by first | rfl | (rw [hv]; rfl), rfl⟩
 by_cases c7 : c = 7
 ·subst c7
  cases e1 : inB k 0 63
  ·have hv : qz2c 7 k v = false := by simp [qz2c, e1]
   go_enter Try.func11, Try.ntmps11
   go_wp2_with (first | (go_at_call 42; refine (qzs _ _).mono ?_; rintro e w' ⟨rfl, hw⟩; obtain rfl := hw.symm) | (go_at_call 43; refine (qzg _ _ _ _).mono ?_; rintro e w' ⟨rfl, hw⟩; obtain rfl := hw.symm))
   go_ret
   exact ⟨by first | rfl | (rw [hv]; rfl), rfl⟩
  have hv : qz2c 7 k v = inB v 0 63 := by simp [qz2c, e1]
  go_enter Try.func11, Try.ntmps11
  go_wp2_with (first | (go_at_call 42; refine (qzs _ _).mono ?_; rintro e w' ⟨rfl, hw⟩; obtain rfl := hw.symm) | (go_at_call 43; refine (qzg _ _ _ _).mono ?_; rintro e w' ⟨rfl, hw⟩; obtain rfl := hw.symm))
  go_ret
  exact ⟨by first | rfl | (rw [hv]; rfl), rfl⟩
 by_cases c2 : c = 2
 ·subst c2
  cases e1 : inB k 0 63
  ·have hv : qz2c 2 k v = false := by simp [qz2c, e1]
   go_enter Try.func11, Try.ntmps11
   go_wp2_with (first | (go_at_call 42; refine (qzs _ _).mono ?_; rintro e w' ⟨rfl, hw⟩; obtain rfl := hw.symm) | (go_at_call 43; refine (qzg _ _ _ _).mono ?_; rintro e w' ⟨rfl, hw⟩; obtain rfl := hw.symm))
   go_ret
   exact ⟨by first | rfl | (rw [hv]; rfl), rfl⟩
  have hv : qz2c 2 k v = (v == 0) := by simp [qz2c, e1]
  go_enter Try.func11, Try.ntmps11
  go_wp2_with (first | (go_at_call 42; refine (qzs _ _).mono ?_; rintro e w' ⟨rfl, hw⟩; obtain rfl := hw.symm) | (go_at_call 43; refine (qzg _ _ _ _).mono ?_; rintro e w' ⟨rfl, hw⟩; obtain rfl := hw.symm))
  go_ret
  exact ⟨by first | rfl | (rw [hv]; rfl), rfl⟩
 by_cases c3 : c = 3
 ·subst c3
  cases e1 : inB k 0 63
  ·have hv : qz2c 3 k v = false := by simp [qz2c, e1]
   go_enter Try.func11, Try.ntmps11
   go_wp2_with (first | (go_at_call 42; refine (qzs _ _).mono ?_; rintro e w' ⟨rfl, hw⟩; obtain rfl := hw.symm) | (go_at_call 43; refine (qzg _ _ _ _).mono ?_; rintro e w' ⟨rfl, hw⟩; obtain rfl := hw.symm))
   go_ret
   exact ⟨by first | rfl | (rw [hv]; rfl), rfl⟩
  have hv : qz2c 3 k v = (v == 0) := by simp [qz2c, e1]
  go_enter Try.func11, Try.ntmps11
  go_wp2_with (first | (go_at_call 42; refine (qzs _ _).mono ?_; rintro e w' ⟨rfl, hw⟩; obtain rfl := hw.symm) | (go_at_call 43; refine (qzg _ _ _ _).mono ?_; rintro e w' ⟨rfl, hw⟩; obtain rfl := hw.symm))
  go_ret
  exact ⟨by first | rfl | (rw [hv]; rfl), rfl⟩
 by_cases c6 : c = 6
 ·subst c6
  cases e1 : inB k 0 63
  ·have hv : qz2c 6 k v = false := by simp [qz2c, e1]
   go_enter Try.func11, Try.ntmps11
   go_wp2_with (first | (go_at_call 42; refine (qzs _ _).mono ?_; rintro e w' ⟨rfl, hw⟩; obtain rfl := hw.symm) | (go_at_call 43; refine (qzg _ _ _ _).mono ?_; rintro e w' ⟨rfl, hw⟩; obtain rfl := hw.symm))
   go_ret
   exact ⟨by first | rfl | (rw [hv]; rfl), rfl⟩
  have hv : qz2c 6 k v = (v == 0) := by simp [qz2c, e1]
  go_enter Try.func11, Try.ntmps11
  go_wp2_with (first | (go_at_call 42; refine (qzs _ _).mono ?_; rintro e w' ⟨rfl, hw⟩; obtain rfl := hw.symm) | (go_at_call 43; refine (qzg _ _ _ _).mono ?_; rintro e w' ⟨rfl, hw⟩; obtain rfl := hw.symm))
  go_ret
  exact ⟨by first | rfl | (rw [hv]; rfl), rfl⟩
 by_cases c4 : c = 4
 ·subst c4
  cases e1 : (k == -1)
  ·have hv : qz2c 4 k v = false := by simp [qz2c, e1]
   go_enter Try.func11, Try.ntmps11
   go_wp2_with (first | (go_at_call 42; refine (qzs _ _).mono ?_; rintro e w' ⟨rfl, hw⟩; obtain rfl := hw.symm) | (go_at_call 43; refine (qzg _ _ _ _).mono ?_; rintro e w' ⟨rfl, hw⟩; obtain rfl := hw.symm))
   go_ret
   exact ⟨by first | rfl | (rw [hv]; rfl), rfl⟩
  have hv : qz2c 4 k v = (v == 0) := by simp [qz2c, e1]
  go_enter Try.func11, Try.ntmps11
  go_wp2_with (first | (go_at_call 42; refine (qzs _ _).mono ?_; rintro e w' ⟨rfl, hw⟩; obtain rfl := hw.symm) | (go_at_call 43; refine (qzg _ _ _ _).mono ?_; rintro e w' ⟨rfl, hw⟩; obtain rfl := hw.symm))
  go_ret
  exact ⟨by first | rfl | (rw [hv]; rfl), rfl⟩
 by_cases c5 : c = 5
 ·subst c5
  cases e1 : (k == -1)
  ·have hv : qz2c 5 k v = false := by simp [qz2c, e1]
   go_enter Try.func11, Try.ntmps11
   go_wp2_with (first | (go_at_call 42; refine (qzs _ _).mono ?_; rintro e w' ⟨rfl, hw⟩; obtain rfl := hw.symm) | (go_at_call 43; refine (qzg _ _ _ _).mono ?_; rintro e w' ⟨rfl, hw⟩; obtain rfl := hw.symm))
   go_ret
   exact ⟨by first | rfl | (rw [hv]; rfl), rfl⟩
  have hv : qz2c 5 k v = (v == 0) := by simp [qz2c, e1]
  go_enter Try.func11, Try.ntmps11
  go_wp2_with (first | (go_at_call 42; refine (qzs _ _).mono ?_; rintro e w' ⟨rfl, hw⟩; obtain rfl := hw.symm) | (go_at_call 43; refine (qzg _ _ _ _).mono ?_; rintro e w' ⟨rfl, hw⟩; obtain rfl := hw.symm))
  go_ret
  exact ⟨by first | rfl | (rw [hv]; rfl), rfl⟩
 by_cases c8 : c = 8
 ·subst c8
  cases e1 : (k == -1)
  ·have hv : qz2c 8 k v = false := by simp [qz2c, e1]
   go_enter Try.func11, Try.ntmps11
   go_wp2_with (first | (go_at_call 42; refine (qzs _ _).mono ?_; rintro e w' ⟨rfl, hw⟩; obtain rfl := hw.symm) | (go_at_call 43; refine (qzg _ _ _ _).mono ?_; rintro e w' ⟨rfl, hw⟩; obtain rfl := hw.symm))
   go_ret
   exact ⟨by first | rfl | (rw [hv]; rfl), rfl⟩
  have hv : qz2c 8 k v = (v == 0) := by simp [qz2c, e1]
  go_enter Try.func11, Try.ntmps11
  go_wp2_with (first | (go_at_call 42; refine (qzs _ _).mono ?_; rintro e w' ⟨rfl, hw⟩; obtain rfl := hw.symm) | (go_at_call 43; refine (qzg _ _ _ _).mono ?_; rintro e w' ⟨rfl, hw⟩; obtain rfl := hw.symm))
  go_ret
  exact ⟨by first | rfl | (rw [hv]; rfl), rfl⟩
 have hv : qz2c c k v = false := by simp [qz2c, c1, c2, c3, c4, c5, c6, c7, c8]
 go_enter Try.func11, Try.ntmps11
 go_wp2_with (first | (go_at_call 42; refine (qzs _ _).mono ?_; rintro e w' ⟨rfl, hw⟩; obtain rfl := hw.symm) | (go_at_call 43; refine (qzg _ _ _ _).mono ?_; rintro e w' ⟨rfl, hw⟩; obtain rfl := hw.symm))
 go_ret
 exact ⟨by first | rfl | (rw [hv]; rfl), rfl⟩
theorem qzak (x y z u : Int) (h : Hd) (c k v : Int) (w : World) :
  Calls Try.prog 39 #[.agg #[.int .i64 x, .int .i64 y, .int .i64 z, .int .i64 u], .agg (hdC h).toArray, .int .i64 c, .int .i64 k, .int .i64 v] w fun e w' => e = .returned (.int .i64 (qz1f x y z u h c k v)) /\ Below w.heap.size w w' := by
 show Calls Try.prog 39 #[.agg #[.int .i64 x, .int .i64 y, .int .i64 z, .int .i64 u], .agg #[.int .i64 h.at_, .int .i64 h.then_, .int .i64 h.code, .int .i64 h.key, .int .i64 h.value, .int .i64 h.begin, .int .i64 h.reply, .int .i64 h.out, .int .i64 h.sum, .int .i64 h.held, .int .i64 h.x_, .int .i64 h.ver, .int .i64 h.cam, .int .i64 h.camAt, .int .i64 h.pred, .int .i64 h.predVer, .int .i64 h.curr, .int .i64 h.currVer, .int .i64 h.new_, .int .i64 h.least, .int .i64 h.index, .int .i64 h.round], .int .i64 c, .int .i64 k, .int .i64 v] w fun e w' => e = .returned (.int .i64 (qz1f x y z u h c k v)) /\ Below w.heap.size w w'
 have P0 := (qz1t w x y z u 25).below ((Below.refl _ _).alloc (Nat.le_refl _) (.cells (hdC h).toArray 27)) (by simp)
 have X0 := qzd (w.alloc (.cells #[.int .i64 x, .int .i64 y, .int .i64 z, .int .i64 u] 25)) (hdC h) 27
 have K0 := ((Below.refl w.heap.size w).alloc (Nat.le_refl _) (.cells #[.int .i64 x, .int .i64 y, .int .i64 z, .int .i64 u] 25)).alloc (by simp) (.cells (hdC h).toArray 27)
 have hz0 : w.heap.size + 1 < ((w.alloc (.cells #[.int .i64 x, .int .i64 y, .int .i64 z, .int .i64 u] 25)).alloc (.cells (hdC h).toArray 27)).heap.size := by simp
 simp only [World.size_alloc] at X0
 obtain ⟨p0, p1, p2, p3⟩ := id P0
 go_enter Try.func39, Try.ntmps39
 go_wp2_with (refine wpList_load_mid rfl 27 (.tmp 6) rfl (w.heap.size + 1) 0 rfl (hdC h) _ ?hc Try.underlying27 rfl (qz1 h) ?_)
 case hc => exact X0
 change Calls Try.prog _ _ ((w.alloc (.cells #[.int .i64 x, .int .i64 y, .int .i64 z, .int .i64 u] 25)).alloc (.cells (hdC h).toArray 27)) _
 generalize hw0 : (w.alloc (.cells #[.int .i64 x, .int .i64 y, .int .i64 z, .int .i64 u] 25)).alloc (.cells (hdC h).toArray 27) = w0 at *
 clear hw0 p0 p1 p2 p3 P0
 refine (qz5b x y z u h _).mono ?_
 rintro e w1 ⟨rfl, b1⟩
 have X1 := qz0 X0 b1 hz0
 have K1 := K0.trans (b1.mono (by omega))
 clear X0 K0 b1 hz0
 have q0 : w1.cell? ⟨w.heap.size + 1, 0, none⟩ = some (.int .i64 h.at_) := by simpa using X1 0 (.int .i64 h.at_) rfl
 have q9 : w1.cell? ⟨w.heap.size + 1, 9, none⟩ = some (.int .i64 h.held) := by simpa using X1 9 (.int .i64 h.held) rfl
 clear X1
 cases e1 : qz3c x y z u h
 ·have hv : qz1f x y z u h c k v = 5 := by simp [qz1f, e1]
  go_wp2
  go_ret
  exact ⟨by first | rfl | (rw [hv]; rfl), K1⟩
 by_cases e2 : h.at_ = 0
 case neg =>
  have hv : qz1f x y z u h c k v = 1 := by simp [qz1f, e1, e2]
  go_wp2
  go_ret
  exact ⟨by first | rfl | (rw [hv]; rfl), K1⟩
 cases e3 : qz2c c k v
 ·have hv : qz1f x y z u h c k v = 2 := by simp [qz1f, e1, e2, e3]
  go_wp2_with (go_at_call 11; refine (qz1u _ _ _ _).mono ?_; rintro e w' ⟨rfl, hw⟩; obtain rfl := hw.symm)
  go_ret
  exact ⟨by first | rfl | (rw [hv]; rfl), K1⟩
 by_cases e4 : h.held < 0
 ·have e5 : ¬ (0 <= h.held) := by omega
  by_cases c5 : c = 5
  ·subst c5
   have hv : qz1f x y z u h 5 k v = 3 := by simp [qz1f, e1, e2, e3, e4]
   go_wp2_with (go_at_call 11; refine (qz1u _ _ _ _).mono ?_; rintro e w' ⟨rfl, hw⟩; obtain rfl := hw.symm)
   go_ret
   exact ⟨by first | rfl | (rw [hv]; rfl), K1⟩
  by_cases c6 : c = 6
  ·subst c6
   have hv : qz1f x y z u h 6 k v = 3 := by simp [qz1f, e1, e2, e3, e4]
   go_wp2_with (go_at_call 11; refine (qz1u _ _ _ _).mono ?_; rintro e w' ⟨rfl, hw⟩; obtain rfl := hw.symm)
   go_ret
   exact ⟨by first | rfl | (rw [hv]; rfl), K1⟩
  by_cases c7 : c = 7
  ·subst c7
   have hv : qz1f x y z u h 7 k v = 3 := by simp [qz1f, e1, e2, e3, e4]
   go_wp2_with (go_at_call 11; refine (qz1u _ _ _ _).mono ?_; rintro e w' ⟨rfl, hw⟩; obtain rfl := hw.symm)
   go_ret
   exact ⟨by first | rfl | (rw [hv]; rfl), K1⟩
  have b5 : (c == 5) = false := by simp [c5]
  have b6 : (c == 6) = false := by simp [c6]
  have b7 : (c == 7) = false := by simp [c7]
  have hv : qz1f x y z u h c k v = 0 := by simp [qz1f, e1, e2, e3, e5, c5, c6, c7]
  go_wp2_with (go_at_call 11; refine (qz1u _ _ _ _).mono ?_; rintro e w' ⟨rfl, hw⟩; obtain rfl := hw.symm)
  go_ret
  exact ⟨by first | rfl | (rw [hv]; rfl), K1⟩
 have e5 : 0 <= h.held := by omega
 by_cases c4 : c = 4
 ·subst c4
  have hv : qz1f x y z u h 4 k v = 4 := by simp [qz1f, e1, e2, e3, e4, e5]
  go_wp2_with (go_at_call 11; refine (qz1u _ _ _ _).mono ?_; rintro e w' ⟨rfl, hw⟩; obtain rfl := hw.symm)
  go_ret
  exact ⟨by first | rfl | (rw [hv]; rfl), K1⟩
 have b4 : (c == 4) = false := by simp [c4]
 have hv : qz1f x y z u h c k v = 0 := by simp [qz1f, e1, e2, e3, e4, c4]
 go_wp2_with (go_at_call 11; refine (qz1u _ _ _ _).mono ?_; rintro e w' ⟨rfl, hw⟩; obtain rfl := hw.symm)
 go_ret
 exact ⟨by first | rfl | (rw [hv]; rfl), K1⟩
theorem qz48 {x y z u : Int} {h : Hd} {c k v : Int} (e : qz1f x y z u h c k v = 0) : qz3c x y z u h = true /\ h.at_ = 0 /\ qz2c c k v = true /\ ¬ (h.held < 0 /\ (c = 5 ∨ c = 6 ∨ c = 7)) /\ ¬ (0 <= h.held /\ c = 4) := by
 unfold qz1f at e
 split at e
 ·cases e
 rename_i h1
 split at e
 ·cases e
 rename_i h2
 split at e
 ·cases e
 rename_i h3
 split at e
 ·cases e
 rename_i h4
 split at e
 ·cases e
 rename_i h5
 exact ⟨by simpa using h1, by simpa using h2, by simpa using h3, h4, h5⟩
theorem qz44 {c k v : Int} (h : qz2c c k v = true) : c = 1 ∨ c = 2 ∨ c = 3 ∨ c = 4 ∨ c = 5 ∨ c = 6 ∨ c = 7 ∨ c = 8 := by
 unfold qz2c at h
 split at h
 ·omega
 split at h
 ·omega
 split at h
 ·omega
 split at h
 ·omega
 ·cases h
theorem qz58 (x y z u : Int) (h : Hd) (c k v : Int) (w : World) :
  Calls Try.prog 9 #[.agg #[.int .i64 x, .int .i64 y, .int .i64 z, .int .i64 u], .agg (hdC h).toArray, .int .i64 c, .int .i64 k, .int .i64 v] w fun e w' => e = .returned (.tuple #[.agg (hdC (qz1n x y z u h c k v)).toArray, .int .i64 (qz1f x y z u h c k v)]) /\ Below w.heap.size w w' := by
 show Calls Try.prog 9 #[.agg #[.int .i64 x, .int .i64 y, .int .i64 z, .int .i64 u], .agg #[.int .i64 h.at_, .int .i64 h.then_, .int .i64 h.code, .int .i64 h.key, .int .i64 h.value, .int .i64 h.begin, .int .i64 h.reply, .int .i64 h.out, .int .i64 h.sum, .int .i64 h.held, .int .i64 h.x_, .int .i64 h.ver, .int .i64 h.cam, .int .i64 h.camAt, .int .i64 h.pred, .int .i64 h.predVer, .int .i64 h.curr, .int .i64 h.currVer, .int .i64 h.new_, .int .i64 h.least, .int .i64 h.index, .int .i64 h.round], .int .i64 c, .int .i64 k, .int .i64 v] w fun e w' => e = .returned (.tuple #[.agg (hdC (qz1n x y z u h c k v)).toArray, .int .i64 (qz1f x y z u h c k v)]) /\ Below w.heap.size w w'
 have P0 := ((qz1t w x y z u 25).below ((Below.refl _ _).alloc (Nat.le_refl _) (.cells (hdC h).toArray 27)) (by simp)).below ((Below.refl _ _).alloc (Nat.le_refl _) (.cells #[.int .i64 0, .int .i64 0, .int .i64 0, .int .i64 0, .int .i64 0, .int .i64 0, .int .i64 0, .int .i64 0, .int .i64 0, .int .i64 0, .int .i64 0, .int .i64 0, .int .i64 0, .int .i64 0, .int .i64 0, .int .i64 0, .int .i64 0, .int .i64 0, .int .i64 0, .int .i64 0, .int .i64 0, .int .i64 0] 27)) (by simp; omega)
 have X0 := World.rangeAt_alloc (qzd (w.alloc (.cells #[.int .i64 x, .int .i64 y, .int .i64 z, .int .i64 u] 25)) (hdC h) 27) (.cells #[.int .i64 0, .int .i64 0, .int .i64 0, .int .i64 0, .int .i64 0, .int .i64 0, .int .i64 0, .int .i64 0, .int .i64 0, .int .i64 0, .int .i64 0, .int .i64 0, .int .i64 0, .int .i64 0, .int .i64 0, .int .i64 0, .int .i64 0, .int .i64 0, .int .i64 0, .int .i64 0, .int .i64 0, .int .i64 0] 27)
 have F0 := qzh ((w.alloc (.cells #[.int .i64 x, .int .i64 y, .int .i64 z, .int .i64 u] 25)).alloc (.cells (hdC h).toArray 27)) #[.int .i64 0, .int .i64 0, .int .i64 0, .int .i64 0, .int .i64 0, .int .i64 0, .int .i64 0, .int .i64 0, .int .i64 0, .int .i64 0, .int .i64 0, .int .i64 0, .int .i64 0, .int .i64 0, .int .i64 0, .int .i64 0, .int .i64 0, .int .i64 0, .int .i64 0, .int .i64 0, .int .i64 0, .int .i64 0] 27 22 (by decide)
 have K0 := (((Below.refl w.heap.size w).alloc (Nat.le_refl _) (.cells #[.int .i64 x, .int .i64 y, .int .i64 z, .int .i64 u] 25)).alloc (by simp) (.cells (hdC h).toArray 27)).alloc (by simp; omega) (.cells #[.int .i64 0, .int .i64 0, .int .i64 0, .int .i64 0, .int .i64 0, .int .i64 0, .int .i64 0, .int .i64 0, .int .i64 0, .int .i64 0, .int .i64 0, .int .i64 0, .int .i64 0, .int .i64 0, .int .i64 0, .int .i64 0, .int .i64 0, .int .i64 0, .int .i64 0, .int .i64 0, .int .i64 0, .int .i64 0] 27)
 have hz0 : w.heap.size + 1 + 1 < (((w.alloc (.cells #[.int .i64 x, .int .i64 y, .int .i64 z, .int .i64 u] 25)).alloc (.cells (hdC h).toArray 27)).alloc (.cells #[.int .i64 0, .int .i64 0, .int .i64 0, .int .i64 0, .int .i64 0, .int .i64 0, .int .i64 0, .int .i64 0, .int .i64 0, .int .i64 0, .int .i64 0, .int .i64 0, .int .i64 0, .int .i64 0, .int .i64 0, .int .i64 0, .int .i64 0, .int .i64 0, .int .i64 0, .int .i64 0, .int .i64 0, .int .i64 0] 27)).heap.size := by simp
 simp only [World.size_alloc] at X0 F0
 obtain ⟨p0, p1, p2, p3⟩ := id P0
 go_enter Try.func9, Try.ntmps9
 go_wp2_with (refine wpList_load_mid rfl 27 (.tmp 6) rfl (w.heap.size + 1) 0 rfl (hdC h) _ ?hc Try.underlying27 rfl (qz1 h) ?_)
 case hc => exact X0
 change Calls Try.prog _ _ (((w.alloc (.cells #[.int .i64 x, .int .i64 y, .int .i64 z, .int .i64 u] 25)).alloc (.cells (hdC h).toArray 27)).alloc (.cells #[.int .i64 0, .int .i64 0, .int .i64 0, .int .i64 0, .int .i64 0, .int .i64 0, .int .i64 0, .int .i64 0, .int .i64 0, .int .i64 0, .int .i64 0, .int .i64 0, .int .i64 0, .int .i64 0, .int .i64 0, .int .i64 0, .int .i64 0, .int .i64 0, .int .i64 0, .int .i64 0, .int .i64 0, .int .i64 0] 27)) _
 generalize hw0 : ((w.alloc (.cells #[.int .i64 x, .int .i64 y, .int .i64 z, .int .i64 u] 25)).alloc (.cells (hdC h).toArray 27)).alloc (.cells #[.int .i64 0, .int .i64 0, .int .i64 0, .int .i64 0, .int .i64 0, .int .i64 0, .int .i64 0, .int .i64 0, .int .i64 0, .int .i64 0, .int .i64 0, .int .i64 0, .int .i64 0, .int .i64 0, .int .i64 0, .int .i64 0, .int .i64 0, .int .i64 0, .int .i64 0, .int .i64 0, .int .i64 0, .int .i64 0] 27) = w0 at *
 clear hw0 p0 p1 p2 p3 P0
 refine (qzak x y z u h c k v _).mono ?_
 rintro e w1 ⟨rfl, b1⟩
 have X1 := qz0 X0 b1 (by omega)
 have F1 := qz6 F0 b1 (by omega)
 have K1 := K0.trans (b1.mono (by omega))
 have hz1 := Nat.lt_of_lt_of_le hz0 b1.size
 clear X0 F0 K0 b1 hz0
 by_cases e5 : qz1f x y z u h c k v = 5
 ·have hv : qz1n x y z u h c k v = qz7c := by simp [qz1n, e5]
  rw [e5]
  have hq : Hid (qz1n x y z u h c k v = qz7c /\ qz1f x y z u h c k v = 5) := ⟨hv, e5⟩
  clear hv e5
  go_wp2_with (refine wpList_store_mid rfl 27 (.tmp 10) (.tmp 22) rfl (w.heap.size + 1 + 1) 0 _ rfl rfl ?ht ?hi ?h1 ?_)
  case ht => exact F1
  case hi => exact qza qz7c
  case h1 => exact qzf qz7c
  refine bodyPost_ret (v := .tuple #[.agg (hdC qz7c).toArray, .int .i64 5]) ?_ rfl ⟨by rw [hq.out.1, hq.out.2], ?_⟩
  ·exact qzi Try.results9 _ _ (w.heap.size + 1 + 1) 0 rfl (hdC qz7c) _ (World.rangeAt_setCells_same _ _ _ _ F1) Try.underlying27 rfl (qz1 qz7c)
  ·exact Below.setCells (by omega) _ _ _ K1
 by_cases e0 : qz1f x y z u h c k v = 0
 case neg =>
  have hv : qz1n x y z u h c k v = h := by simp [qz1n, e5, e0]
  have hq : Hid (qz1n x y z u h c k v = h) := hv
  clear hv
  go_wp2_with (first | (refine wpList_load_mid rfl 27 (.tmp 6) rfl (w.heap.size + 1) 0 rfl (hdC h) _ ?hc Try.underlying27 rfl (qz1 h) ?_) | (refine wpList_store_mid rfl 27 (.tmp 10) (.tmp 26) rfl (w.heap.size + 1 + 1) 0 _ rfl rfl ?ht ?hi ?h1 ?_))
  case hc => exact X1
  case ht => exact F1
  case hi => exact qza h
  case h1 => exact qzf h
  refine bodyPost_ret (v := .tuple #[.agg (hdC h).toArray, .int .i64 (qz1f x y z u h c k v)]) ?_ rfl ⟨by rw [hq.out], ?_⟩
  ·exact qzi Try.results9 _ _ (w.heap.size + 1 + 1) 0 rfl (hdC h) _ (World.rangeAt_setCells_same _ _ _ _ F1) Try.underlying27 rfl (qz1 h)
  ·exact Below.setCells (by omega) _ _ _ K1
 have hv : qz1n x y z u h c k v = qz1h h c k v := by simp [qz1n, e0]
 obtain ⟨_, _, hfit, _, _⟩ := qz48 e0
 rw [e0]
 have hq : Hid (qz1n x y z u h c k v = qz1h h c k v /\ qz1f x y z u h c k v = 0) := ⟨hv, e0⟩
 clear hv e0 e5
 go_wp2_with (refine wpList_load_mid rfl 27 (.tmp 6) rfl (w.heap.size + 1) 0 rfl (hdC h) _ ?hc Try.underlying27 rfl (qz1 h) ?_)
 case hc => exact X1
 refine (qz42 h 0 0 0 _).mono ?_
 rintro e w2 ⟨rfl, b2⟩
 have F2 := qz6 F1 b2 (by omega)
 have K2 := K1.trans (b2.mono (by omega))
 have hz2 := Nat.lt_of_lt_of_le hz1 b2.size
 clear X1 F1 K1 b2 hz1
 have hset : (w2.alloc (.cells #[.int .i64 0, .int .i64 0, .int .i64 0, .int .i64 0, .int .i64 0, .int .i64 0, .int .i64 0, .int .i64 0, .int .i64 0, .int .i64 0, .int .i64 0, .int .i64 0, .int .i64 0, .int .i64 0, .int .i64 0, .int .i64 0, .int .i64 0, .int .i64 0, .int .i64 0, .int .i64 0, .int .i64 0, .int .i64 0] 27)).setCells w2.heap.size 0 (hdC (qzb h 0 0 0)).toArray.toList = w2.alloc (.cells #[.int .i64 0, .int .i64 0, .int .i64 0, .int .i64 (-1), .int .i64 0, .int .i64 0, .int .i64 0, .int .i64 0, .int .i64 0, .int .i64 h.held, .int .i64 0, .int .i64 0, .int .i64 0, .int .i64 0, .int .i64 0, .int .i64 0, .int .i64 (-1), .int .i64 0, .int .i64 (-1), .int .i64 0, .int .i64 0, .int .i64 0] 27) := qz11 w2 27 (hdC (qzb h 0 0 0)) [] [.int .i64 0, .int .i64 0, .int .i64 0, .int .i64 0, .int .i64 0, .int .i64 0, .int .i64 0, .int .i64 0, .int .i64 0, .int .i64 0, .int .i64 0, .int .i64 0, .int .i64 0, .int .i64 0, .int .i64 0, .int .i64 0, .int .i64 0, .int .i64 0, .int .i64 0, .int .i64 0, .int .i64 0, .int .i64 0] rfl
 have FA := qzh w2 #[.int .i64 0, .int .i64 0, .int .i64 0, .int .i64 0, .int .i64 0, .int .i64 0, .int .i64 0, .int .i64 0, .int .i64 0, .int .i64 0, .int .i64 0, .int .i64 0, .int .i64 0, .int .i64 0, .int .i64 0, .int .i64 0, .int .i64 0, .int .i64 0, .int .i64 0, .int .i64 0, .int .i64 0, .int .i64 0] 27 22 (by decide)
 have K3 := K2.alloc (by omega) (.cells (hdC (qz1h h c k v)).toArray 27)
 have R3 := qzd w2 (hdC (qz1h h c k v)) 27
 have F3 := World.there_alloc F2 (.cells (hdC (qz1h h c k v)).toArray 27)
 have fin : ∀ ws : World, ws = w2.alloc (.cells (hdC (qz1h h c k v)).toArray 27) -> ws.there (w.heap.size + 1 + 1) 0 22 /\ ws.rangeAt w2.heap.size 0 (hdC (qz1h h c k v)) /\ Below w.heap.size w ws := by
  rintro ws rfl
  exact ⟨F3, R3, K3⟩
 rcases qz44 hfit with rfl | rfl | rfl | rfl | rfl | rfl | rfl | rfl
 ·go_wp2_with (first | (refine wpList_store_mid rfl 27 (.tmp 13) (.tmp 29) rfl w2.heap.size 0 _ rfl rfl FA (qza (qzb h 0 0 0)) (qzf _) ?_; rw [hset]) | (refine wpList_load_mid rfl 27 (.tmp 13) rfl w2.heap.size 0 rfl (hdC (qz1h h 1 k v)) _ ?hc Try.underlying27 rfl (qz1 _) ?_) | (refine wpList_store_mid rfl 27 (.tmp 10) (.tmp 56) rfl (w.heap.size + 1 + 1) 0 _ rfl rfl ?ht ?hi ?h1 ?_))
  case hc => exact R3
  case ht => exact F3
  case hi => exact qza _
  case h1 => exact qzf _
  refine bodyPost_ret (v := .tuple #[.agg (hdC (qz1h h 1 k v)).toArray, .int .i64 0]) ?_ rfl ⟨by rw [hq.out.1, hq.out.2], ?_⟩
  ·exact qzi Try.results9 _ _ (w.heap.size + 1 + 1) 0 rfl (hdC (qz1h h 1 k v)) _ (World.rangeAt_setCells_same _ _ _ _ F3) Try.underlying27 rfl (qz1 _)
  ·exact Below.setCells (by omega) _ _ _ K3
 ·go_wp2_with (first | (refine wpList_store_mid rfl 27 (.tmp 13) (.tmp 29) rfl w2.heap.size 0 _ rfl rfl FA (qza (qzb h 0 0 0)) (qzf _) ?_; rw [hset]) | (refine wpList_load_mid rfl 27 (.tmp 13) rfl w2.heap.size 0 rfl (hdC (qz1h h 2 k v)) _ ?hc Try.underlying27 rfl (qz1 _) ?_) | (refine wpList_store_mid rfl 27 (.tmp 10) (.tmp 56) rfl (w.heap.size + 1 + 1) 0 _ rfl rfl ?ht ?hi ?h1 ?_))
  case hc => exact R3
  case ht => exact F3
  case hi => exact qza _
  case h1 => exact qzf _
  refine bodyPost_ret (v := .tuple #[.agg (hdC (qz1h h 2 k v)).toArray, .int .i64 0]) ?_ rfl ⟨by rw [hq.out.1, hq.out.2], ?_⟩
  ·exact qzi Try.results9 _ _ (w.heap.size + 1 + 1) 0 rfl (hdC (qz1h h 2 k v)) _ (World.rangeAt_setCells_same _ _ _ _ F3) Try.underlying27 rfl (qz1 _)
  ·exact Below.setCells (by omega) _ _ _ K3
 ·go_wp2_with (first | (refine wpList_store_mid rfl 27 (.tmp 13) (.tmp 29) rfl w2.heap.size 0 _ rfl rfl FA (qza (qzb h 0 0 0)) (qzf _) ?_; rw [hset]) | (refine wpList_load_mid rfl 27 (.tmp 13) rfl w2.heap.size 0 rfl (hdC (qz1h h 3 k v)) _ ?hc Try.underlying27 rfl (qz1 _) ?_) | (refine wpList_store_mid rfl 27 (.tmp 10) (.tmp 56) rfl (w.heap.size + 1 + 1) 0 _ rfl rfl ?ht ?hi ?h1 ?_))
  case hc => exact R3
  case ht => exact F3
  case hi => exact qza _
  case h1 => exact qzf _
  refine bodyPost_ret (v := .tuple #[.agg (hdC (qz1h h 3 k v)).toArray, .int .i64 0]) ?_ rfl ⟨by rw [hq.out.1, hq.out.2], ?_⟩
  ·exact qzi Try.results9 _ _ (w.heap.size + 1 + 1) 0 rfl (hdC (qz1h h 3 k v)) _ (World.rangeAt_setCells_same _ _ _ _ F3) Try.underlying27 rfl (qz1 _)
  ·exact Below.setCells (by omega) _ _ _ K3
 ·go_wp2_with (first | (refine wpList_store_mid rfl 27 (.tmp 13) (.tmp 29) rfl w2.heap.size 0 _ rfl rfl FA (qza (qzb h 0 0 0)) (qzf _) ?_; rw [hset]) | (refine wpList_load_mid rfl 27 (.tmp 13) rfl w2.heap.size 0 rfl (hdC (qz1h h 4 k v)) _ ?hc Try.underlying27 rfl (qz1 _) ?_) | (refine wpList_store_mid rfl 27 (.tmp 10) (.tmp 56) rfl (w.heap.size + 1 + 1) 0 _ rfl rfl ?ht ?hi ?h1 ?_))
  case hc => exact R3
  case ht => exact F3
  case hi => exact qza _
  case h1 => exact qzf _
  refine bodyPost_ret (v := .tuple #[.agg (hdC (qz1h h 4 k v)).toArray, .int .i64 0]) ?_ rfl ⟨by rw [hq.out.1, hq.out.2], ?_⟩
  ·exact qzi Try.results9 _ _ (w.heap.size + 1 + 1) 0 rfl (hdC (qz1h h 4 k v)) _ (World.rangeAt_setCells_same _ _ _ _ F3) Try.underlying27 rfl (qz1 _)
  ·exact Below.setCells (by omega) _ _ _ K3
 ·go_wp2_with (first | (refine wpList_store_mid rfl 27 (.tmp 13) (.tmp 29) rfl w2.heap.size 0 _ rfl rfl FA (qza (qzb h 0 0 0)) (qzf _) ?_; rw [hset]) | (refine wpList_load_mid rfl 27 (.tmp 13) rfl w2.heap.size 0 rfl (hdC (qz1h h 5 k v)) _ ?hc Try.underlying27 rfl (qz1 _) ?_) | (refine wpList_store_mid rfl 27 (.tmp 10) (.tmp 56) rfl (w.heap.size + 1 + 1) 0 _ rfl rfl ?ht ?hi ?h1 ?_))
  case hc => exact R3
  case ht => exact F3
  case hi => exact qza _
  case h1 => exact qzf _
  refine bodyPost_ret (v := .tuple #[.agg (hdC (qz1h h 5 k v)).toArray, .int .i64 0]) ?_ rfl ⟨by rw [hq.out.1, hq.out.2], ?_⟩
  ·exact qzi Try.results9 _ _ (w.heap.size + 1 + 1) 0 rfl (hdC (qz1h h 5 k v)) _ (World.rangeAt_setCells_same _ _ _ _ F3) Try.underlying27 rfl (qz1 _)
  ·exact Below.setCells (by omega) _ _ _ K3
 ·go_wp2_with (first | (refine wpList_store_mid rfl 27 (.tmp 13) (.tmp 29) rfl w2.heap.size 0 _ rfl rfl FA (qza (qzb h 0 0 0)) (qzf _) ?_; rw [hset]) | (refine wpList_load_mid rfl 27 (.tmp 13) rfl w2.heap.size 0 rfl (hdC (qz1h h 6 k v)) _ ?hc Try.underlying27 rfl (qz1 _) ?_) | (refine wpList_store_mid rfl 27 (.tmp 10) (.tmp 56) rfl (w.heap.size + 1 + 1) 0 _ rfl rfl ?ht ?hi ?h1 ?_))
  case hc => exact R3
  case ht => exact F3
  case hi => exact qza _
  case h1 => exact qzf _
  refine bodyPost_ret (v := .tuple #[.agg (hdC (qz1h h 6 k v)).toArray, .int .i64 0]) ?_ rfl ⟨by rw [hq.out.1, hq.out.2], ?_⟩
  ·exact qzi Try.results9 _ _ (w.heap.size + 1 + 1) 0 rfl (hdC (qz1h h 6 k v)) _ (World.rangeAt_setCells_same _ _ _ _ F3) Try.underlying27 rfl (qz1 _)
  ·exact Below.setCells (by omega) _ _ _ K3
 ·go_wp2_with (first | (refine wpList_store_mid rfl 27 (.tmp 13) (.tmp 29) rfl w2.heap.size 0 _ rfl rfl FA (qza (qzb h 0 0 0)) (qzf _) ?_; rw [hset]) | (refine wpList_load_mid rfl 27 (.tmp 13) rfl w2.heap.size 0 rfl (hdC (qz1h h 7 k v)) _ ?hc Try.underlying27 rfl (qz1 _) ?_) | (refine wpList_store_mid rfl 27 (.tmp 10) (.tmp 56) rfl (w.heap.size + 1 + 1) 0 _ rfl rfl ?ht ?hi ?h1 ?_))
  case hc => exact R3
  case ht => exact F3
  case hi => exact qza _
  case h1 => exact qzf _
  refine bodyPost_ret (v := .tuple #[.agg (hdC (qz1h h 7 k v)).toArray, .int .i64 0]) ?_ rfl ⟨by rw [hq.out.1, hq.out.2], ?_⟩
  ·exact qzi Try.results9 _ _ (w.heap.size + 1 + 1) 0 rfl (hdC (qz1h h 7 k v)) _ (World.rangeAt_setCells_same _ _ _ _ F3) Try.underlying27 rfl (qz1 _)
  ·exact Below.setCells (by omega) _ _ _ K3
 ·go_wp2_with (first | (refine wpList_store_mid rfl 27 (.tmp 13) (.tmp 29) rfl w2.heap.size 0 _ rfl rfl FA (qza (qzb h 0 0 0)) (qzf _) ?_; rw [hset]) | (refine wpList_load_mid rfl 27 (.tmp 13) rfl w2.heap.size 0 rfl (hdC (qz1h h 8 k v)) _ ?hc Try.underlying27 rfl (qz1 _) ?_) | (refine wpList_store_mid rfl 27 (.tmp 10) (.tmp 56) rfl (w.heap.size + 1 + 1) 0 _ rfl rfl ?ht ?hi ?h1 ?_))
  case hc => exact R3
  case ht => exact F3
  case hi => exact qza _
  case h1 => exact qzf _
  refine bodyPost_ret (v := .tuple #[.agg (hdC (qz1h h 8 k v)).toArray, .int .i64 0]) ?_ rfl ⟨by rw [hq.out.1, hq.out.2], ?_⟩
  ·exact qzi Try.results9 _ _ (w.heap.size + 1 + 1) 0 rfl (hdC (qz1h h 8 k v)) _ (World.rangeAt_setCells_same _ _ _ _ F3) Try.underlying27 rfl (qz1 _)
  ·exact Below.setCells (by omega) _ _ _ K3
end
section
attribute [local go_sem ↓] Go.wp_at_zero Go.wp_at_succ
def qz27 (A : Ar) (h : Hd) : Hd :=
 if h.code = 3 then (if 0 <= h.curr /\ (ndOf A h.curr).key = h.key then qzb h 2 (ndOf A h.curr).value 0 else qzb h 3 0 0)
 else if h.code = 1 then (if 0 <= h.curr /\ (ndOf A h.curr).key = h.key then qzb h 2 (ndOf A h.curr).value 0 else { h with at_ := if 0 <= h.new_ then 8 else 7 })
 else if h.code = 2 then (if 0 <= h.curr /\ (ndOf A h.curr).key = h.key then { h with at_ := 11 } else qzb h 3 0 0)
 else { h with at_ := 0 }
def qz53 (A : Ar) (h : Hd) (n : Int) : Hd :=
 if n = -1 then qz27 A { h with curr := n } else { h with curr := n, x_ := n, then_ := 2, at_ := 2 }
theorem qzv (h : Hd) (rp ot sm : Int) (w : World) :
  Calls Try.prog 119 #[.agg (hdC h).toArray, .int .i64 rp, .int .i64 ot, .int .i64 sm] w fun e w' => e = .returned (.agg (hdC (qzb h rp ot sm)).toArray) /\ Below w.heap.size w w' := by
 have X0 := World.rangeAt_alloc (qzd w (hdC h) 27) (.cells #[.int .i64 0, .int .i64 0, .int .i64 0, .int .i64 0, .int .i64 0, .int .i64 0, .int .i64 0, .int .i64 0, .int .i64 0, .int .i64 0, .int .i64 0, .int .i64 0, .int .i64 0, .int .i64 0, .int .i64 0, .int .i64 0, .int .i64 0, .int .i64 0, .int .i64 0, .int .i64 0, .int .i64 0, .int .i64 0] 27)
 have F0 := qzh (w.alloc (.cells (hdC h).toArray 27)) #[.int .i64 0, .int .i64 0, .int .i64 0, .int .i64 0, .int .i64 0, .int .i64 0, .int .i64 0, .int .i64 0, .int .i64 0, .int .i64 0, .int .i64 0, .int .i64 0, .int .i64 0, .int .i64 0, .int .i64 0, .int .i64 0, .int .i64 0, .int .i64 0, .int .i64 0, .int .i64 0, .int .i64 0, .int .i64 0] 27 22 (by decide)
 have K0 := ((Below.refl w.heap.size w).alloc (Nat.le_refl _) (.cells (hdC h).toArray 27)).alloc (by simp) (.cells #[.int .i64 0, .int .i64 0, .int .i64 0, .int .i64 0, .int .i64 0, .int .i64 0, .int .i64 0, .int .i64 0, .int .i64 0, .int .i64 0, .int .i64 0, .int .i64 0, .int .i64 0, .int .i64 0, .int .i64 0, .int .i64 0, .int .i64 0, .int .i64 0, .int .i64 0, .int .i64 0, .int .i64 0, .int .i64 0] 27)
 have hz0 : w.heap.size + 1 < ((w.alloc (.cells (hdC h).toArray 27)).alloc (.cells #[.int .i64 0, .int .i64 0, .int .i64 0, .int .i64 0, .int .i64 0, .int .i64 0, .int .i64 0, .int .i64 0, .int .i64 0, .int .i64 0, .int .i64 0, .int .i64 0, .int .i64 0, .int .i64 0, .int .i64 0, .int .i64 0, .int .i64 0, .int .i64 0, .int .i64 0, .int .i64 0, .int .i64 0, .int .i64 0] 27)).heap.size := by simp
 simp only [World.size_alloc] at F0
 go_enter Try.func119, Try.ntmps119
 go_wp2_with (refine wpList_load_mid rfl 27 (.tmp 4) rfl w.heap.size 0 rfl (hdC h) _ ?hc Try.underlying27 rfl (qz1 h) ?_)
 case hc => exact X0
 generalize hw0 : (w.alloc (.cells (hdC h).toArray 27)).alloc (.cells #[.int .i64 0, .int .i64 0, .int .i64 0, .int .i64 0, .int .i64 0, .int .i64 0, .int .i64 0, .int .i64 0, .int .i64 0, .int .i64 0, .int .i64 0, .int .i64 0, .int .i64 0, .int .i64 0, .int .i64 0, .int .i64 0, .int .i64 0, .int .i64 0, .int .i64 0, .int .i64 0, .int .i64 0, .int .i64 0] 27) = w0 at *
 clear hw0
 refine (qz42 h rp ot sm _).mono ?_
 rintro e w1 ⟨rfl, b1⟩
 have F1 := qz6 F0 b1 (by omega)
 have K1 := K0.trans (b1.mono (by omega))
 clear X0 F0 K0
 go_wp2_with (refine wpList_store_mid rfl 27 (.tmp 8) _ rfl (w.heap.size + 1) 0 _ rfl rfl ?ht ?hi ?h1 ?_)
 case ht => exact F1
 case hi => exact qza _
 case h1 => exact qzf _
 refine bodyPost_ret (v := .agg (hdC (qzb h rp ot sm)).toArray) ?_ rfl ⟨rfl, ?_⟩
 ·exact qz5 Try.results119 _ _ (w.heap.size + 1) 0 rfl (hdC (qzb h rp ot sm)) _ (World.rangeAt_setCells_same _ _ _ _ F1) Try.underlying27 rfl (qz1 _)
 ·exact Below.setCells (by omega) _ _ _ K1
theorem qz6x (B : Nat) (A : Ar) (h : Hd) (a0 a1 a2 a3 : Option Addr) (c0 c1 c2 c3 : Nat) (w : World) (hB : B <= w.heap.size) (hA : A.size <= 1048576) (I : qz25 B w (.slice a0 A.slots.length c0) (.slice a1 A.guides.length c1) (.slice a2 A.nodes.length c2) (.slice a3 A.vers.length c3) A) (hcu : h.curr < (A.nodes.length : Int)) :
  Calls Try.prog 132 #[.agg #[.int .i64 A.camera, .slice a0 A.slots.length c0, .slice a1 A.guides.length c1, .slice a2 A.nodes.length c2, .slice a3 A.vers.length c3], .agg (hdC h).toArray] w fun e w' => e = .returned (.agg (hdC (qz27 A h)).toArray) /\ Below w.heap.size w w' := by
 have hA' := hA
 unfold Ar.size at hA
 have X0 := World.rangeAt_alloc (World.rangeAt_alloc (qzd w [.int .i64 A.camera, .slice a0 A.slots.length c0, .slice a1 A.guides.length c1, .slice a2 A.nodes.length c2, .slice a3 A.vers.length c3] 38) (.cells (hdC h).toArray 27)) (.cells #[.int .i64 0, .int .i64 0, .int .i64 0, .int .i64 0, .int .i64 0, .int .i64 0, .int .i64 0, .int .i64 0, .int .i64 0, .int .i64 0, .int .i64 0, .int .i64 0, .int .i64 0, .int .i64 0, .int .i64 0, .int .i64 0, .int .i64 0, .int .i64 0, .int .i64 0, .int .i64 0, .int .i64 0, .int .i64 0] 27)
 have H0 := World.rangeAt_alloc (qzd (w.alloc (.cells #[.int .i64 A.camera, .slice a0 A.slots.length c0, .slice a1 A.guides.length c1, .slice a2 A.nodes.length c2, .slice a3 A.vers.length c3] 38)) (hdC h) 27) (.cells #[.int .i64 0, .int .i64 0, .int .i64 0, .int .i64 0, .int .i64 0, .int .i64 0, .int .i64 0, .int .i64 0, .int .i64 0, .int .i64 0, .int .i64 0, .int .i64 0, .int .i64 0, .int .i64 0, .int .i64 0, .int .i64 0, .int .i64 0, .int .i64 0, .int .i64 0, .int .i64 0, .int .i64 0, .int .i64 0] 27)
 have G0 := World.there_alloc (qzh (w.alloc (.cells #[.int .i64 A.camera, .slice a0 A.slots.length c0, .slice a1 A.guides.length c1, .slice a2 A.nodes.length c2, .slice a3 A.vers.length c3] 38)) (hdC h).toArray 27 22 (by simp [hdC])) (.cells #[.int .i64 0, .int .i64 0, .int .i64 0, .int .i64 0, .int .i64 0, .int .i64 0, .int .i64 0, .int .i64 0, .int .i64 0, .int .i64 0, .int .i64 0, .int .i64 0, .int .i64 0, .int .i64 0, .int .i64 0, .int .i64 0, .int .i64 0, .int .i64 0, .int .i64 0, .int .i64 0, .int .i64 0, .int .i64 0] 27)
 have F0 := qzh ((w.alloc (.cells #[.int .i64 A.camera, .slice a0 A.slots.length c0, .slice a1 A.guides.length c1, .slice a2 A.nodes.length c2, .slice a3 A.vers.length c3] 38)).alloc (.cells (hdC h).toArray 27)) #[.int .i64 0, .int .i64 0, .int .i64 0, .int .i64 0, .int .i64 0, .int .i64 0, .int .i64 0, .int .i64 0, .int .i64 0, .int .i64 0, .int .i64 0, .int .i64 0, .int .i64 0, .int .i64 0, .int .i64 0, .int .i64 0, .int .i64 0, .int .i64 0, .int .i64 0, .int .i64 0, .int .i64 0, .int .i64 0] 27 22 (by decide)
 have K0 := (((Below.refl w.heap.size w).alloc (Nat.le_refl _) (.cells #[.int .i64 A.camera, .slice a0 A.slots.length c0, .slice a1 A.guides.length c1, .slice a2 A.nodes.length c2, .slice a3 A.vers.length c3] 38)).alloc (by simp) (.cells (hdC h).toArray 27)).alloc (by simp; omega) (.cells #[.int .i64 0, .int .i64 0, .int .i64 0, .int .i64 0, .int .i64 0, .int .i64 0, .int .i64 0, .int .i64 0, .int .i64 0, .int .i64 0, .int .i64 0, .int .i64 0, .int .i64 0, .int .i64 0, .int .i64 0, .int .i64 0, .int .i64 0, .int .i64 0, .int .i64 0, .int .i64 0, .int .i64 0, .int .i64 0] 27)
 have hz0 : w.heap.size + 1 + 1 < (((w.alloc (.cells #[.int .i64 A.camera, .slice a0 A.slots.length c0, .slice a1 A.guides.length c1, .slice a2 A.nodes.length c2, .slice a3 A.vers.length c3] 38)).alloc (.cells (hdC h).toArray 27)).alloc (.cells #[.int .i64 0, .int .i64 0, .int .i64 0, .int .i64 0, .int .i64 0, .int .i64 0, .int .i64 0, .int .i64 0, .int .i64 0, .int .i64 0, .int .i64 0, .int .i64 0, .int .i64 0, .int .i64 0, .int .i64 0, .int .i64 0, .int .i64 0, .int .i64 0, .int .i64 0, .int .i64 0, .int .i64 0, .int .i64 0] 27)).heap.size := by simp
 simp only [World.size_alloc] at H0 G0 F0
 have I0 := I.below (K0.mono hB)
 go_enter Try.func132, Try.ntmps132
 go_wp2_with fail
 generalize hw0 : ((w.alloc (.cells #[.int .i64 A.camera, .slice a0 A.slots.length c0, .slice a1 A.guides.length c1, .slice a2 A.nodes.length c2, .slice a3 A.vers.length c3] 38)).alloc (.cells (hdC h).toArray 27)).alloc (.cells #[.int .i64 0, .int .i64 0, .int .i64 0, .int .i64 0, .int .i64 0, .int .i64 0, .int .i64 0, .int .i64 0, .int .i64 0, .int .i64 0, .int .i64 0, .int .i64 0, .int .i64 0, .int .i64 0, .int .i64 0, .int .i64 0, .int .i64 0, .int .i64 0, .int .i64 0, .int .i64 0, .int .i64 0, .int .i64 0] 27) = w0 at *
 clear hw0 I
 obtain ⟨x0, x1, x2, x3, x4⟩ := row5 X0
 have q2 : w0.cell? ⟨w.heap.size + 1, 2, none⟩ = some (.int .i64 h.code) := by simpa using H0 2 (.int .i64 h.code) rfl
 have q3 : w0.cell? ⟨w.heap.size + 1, 3, none⟩ = some (.int .i64 h.key) := by simpa using H0 3 (.int .i64 h.key) rfl
 have q16 : w0.cell? ⟨w.heap.size + 1, 16, none⟩ = some (.int .i64 h.curr) := by simpa using H0 16 (.int .i64 h.curr) rfl
 have q18 : w0.cell? ⟨w.heap.size + 1, 18, none⟩ = some (.int .i64 h.new_) := by simpa using H0 18 (.int .i64 h.new_) rfl
 have f0 : w0.frozen? ⟨w.heap.size + 1, 0, none⟩ = false := by simpa using (G0 0 (by decide)).2
 by_cases hc0 : 0 <= h.curr
 case neg =>
  go_quiet (fail)
  have X1 : (w0.drewN nq).rangeAt w.heap.size 0 [.int .i64 A.camera, .slice a0 A.slots.length c0, .slice a1 A.guides.length c1, .slice a2 A.nodes.length c2, .slice a3 A.vers.length c3] := X0
  have H1 : (w0.drewN nq).rangeAt (w.heap.size + 1) 0 (hdC h) := H0
  have F1 : (w0.drewN nq).there (w.heap.size + 1 + 1) 0 22 := F0
  have K1 : Below w.heap.size w (w0.drewN nq) := ⟨K0.os, K0.tape, K0.output, K0.size, K0.block⟩
  have hz1 : w.heap.size + 1 + 1 < (w0.drewN nq).heap.size := hz0
  have I1 : qz25 B (w0.drewN nq) (.slice a0 A.slots.length c0) (.slice a1 A.guides.length c1) (.slice a2 A.nodes.length c2) (.slice a3 A.vers.length c3) A := I0.below ⟨rfl, rfl, rfl, Nat.le_refl _, fun _ _ => rfl⟩
  have y3 : (w0.drewN nq).cell? ⟨w.heap.size, 3, none⟩ = some (.slice a2 A.nodes.length c2) := x3
  have y2 : (w0.drewN nq).cell? ⟨w.heap.size + 1, 2, none⟩ = some (.int .i64 h.code) := q2
  have y16 : (w0.drewN nq).cell? ⟨w.heap.size + 1, 16, none⟩ = some (.int .i64 h.curr) := q16
  have y18 : (w0.drewN nq).cell? ⟨w.heap.size + 1, 18, none⟩ = some (.int .i64 h.new_) := q18
  have g0 : (w0.drewN nq).frozen? ⟨w.heap.size + 1, 0, none⟩ = false := f0
  have y0 : (w0.drewN nq).cell? ⟨w.heap.size + 1, 0, none⟩ = some (.int .i64 h.at_) := by simpa using H1 0 (.int .i64 h.at_) rfl
  generalize hw1 : w0.drewN nq = w1 at *
  clear hw1 X0 H0 F0 K0 I0 hz0 x0 x1 x2 x3 x4 q2 q3 q16 q18 f0 G0
  by_cases k3 : h.code = 3
  ·have hv : Hid (qz27 A h = (qzb h 3 0 0)) := by show _ = _; simp [qz27, hc0, k3]
   go_wp2_with (first | (refine wpList_load_mid rfl 27 (.tmp 3) rfl (w.heap.size + 1) 0 ?hxln1 (hdC h) _ ?hcn1 Try.underlying27 rfl (qz1 _) ?_))
   try (case hxln1 => rfl)
   try (case hcn1 => exact H1)
   refine (qzv h 3 0 0 _).mono ?_
   rintro e w2 ⟨rfl, b2⟩
   have F2 := qz6 F1 b2 (by omega)
   have K2 := K1.trans (b2.mono (by omega))
   go_wp2_with (refine wpList_store_mid rfl 27 (.tmp 4) _ rfl (w.heap.size + 1 + 1) 0 (hdC (qzb h 3 0 0)).toArray ?hxn1 ?hyn1 ?htn1 (qza (qzb h 3 0 0)) (qzf (qzb h 3 0 0)) ?_)
   try (case hxn1 => rfl)
   try (case hyn1 => rfl)
   case htn1 => exact F2
   refine bodyPost_ret (v := .agg (hdC (qzb h 3 0 0)).toArray) ?_ rfl ⟨by rw [hv.out], ?_⟩
   ·exact qz5 Try.results132 _ _ (w.heap.size + 1 + 1) 0 rfl (hdC (qzb h 3 0 0)) _ (World.rangeAt_setCells_same _ _ _ _ F2) Try.underlying27 rfl (qz1 _)
   ·exact Below.setCells (by omega) _ _ _ K2
  have b3 : (h.code == 3) = false := by simp [k3]
  by_cases k1 : h.code = 1
  ·by_cases kn : 0 <= h.new_
   ·obtain ⟨H', hH⟩ : ∃ H' : Hd, Hid (H' = { h with at_ := 8 }) := ⟨_, rfl⟩
    have hv : Hid (qz27 A h = H') := by show _ = _; rw [hH.out]; simp [qz27, hc0, k1, kn]
    go_wp2_with (first | (refine wpList_load_mid rfl 27 (.tmp 3) rfl (w.heap.size + 1) 0 ?hxln2 (hdC H') _ ?hcn2 Try.underlying27 rfl (qz1 H') ?_) | (refine wpList_store_mid rfl 27 (.tmp 4) _ rfl (w.heap.size + 1 + 1) 0 (hdC H').toArray ?hxn2 ?hyn2 ?htn2 (qza H') (qzf H') ?_))
    try (case hxln2 => rfl)
    case hcn2 => rw [hH.out]; exact (qzc (qzc H1 0 (by simp [hdC]) _) 0 (by simp [hdC]) _)
    try (case hxn2 => rfl)
    try (case hyn2 => rfl)
    case htn2 => exact (qz4 (qz4 F1 _ _) _ _)
    refine bodyPost_ret (v := .agg (hdC H').toArray) ?_ rfl ⟨by rw [hv.out], ?_⟩
    ·exact qz5 Try.results132 _ _ (w.heap.size + 1 + 1) 0 rfl (hdC H') _ (World.rangeAt_setCells_same _ _ _ _ (qz4 (qz4 F1 _ _) _ _)) Try.underlying27 rfl (qz1 _)
    ·exact Below.setCells (by omega) _ _ _ (Below.setCell (Below.setCell K1 (p := ⟨w.heap.size + 1, 0, none⟩) (by show w.heap.size <= w.heap.size + 1; omega) _) (p := ⟨w.heap.size + 1, 0, none⟩) (by show w.heap.size <= w.heap.size + 1; omega) _)
   ·obtain ⟨H', hH⟩ : ∃ H' : Hd, Hid (H' = { h with at_ := 7 }) := ⟨_, rfl⟩
    have hv : Hid (qz27 A h = H') := by show _ = _; rw [hH.out]; simp [qz27, hc0, k1, kn]
    go_wp2_with (first | (refine wpList_load_mid rfl 27 (.tmp 3) rfl (w.heap.size + 1) 0 ?hxln3 (hdC H') _ ?hcn3 Try.underlying27 rfl (qz1 H') ?_) | (refine wpList_store_mid rfl 27 (.tmp 4) _ rfl (w.heap.size + 1 + 1) 0 (hdC H').toArray ?hxn3 ?hyn3 ?htn3 (qza H') (qzf H') ?_))
    try (case hxln3 => rfl)
    case hcn3 => rw [hH.out]; exact (qzc H1 0 (by simp [hdC]) _)
    try (case hxn3 => rfl)
    try (case hyn3 => rfl)
    case htn3 => exact (qz4 F1 _ _)
    refine bodyPost_ret (v := .agg (hdC H').toArray) ?_ rfl ⟨by rw [hv.out], ?_⟩
    ·exact qz5 Try.results132 _ _ (w.heap.size + 1 + 1) 0 rfl (hdC H') _ (World.rangeAt_setCells_same _ _ _ _ (qz4 F1 _ _)) Try.underlying27 rfl (qz1 _)
    ·exact Below.setCells (by omega) _ _ _ (Below.setCell K1 (p := ⟨w.heap.size + 1, 0, none⟩) (by show w.heap.size <= w.heap.size + 1; omega) _)
  have b1 : (h.code == 1) = false := by simp [k1]
  by_cases k2 : h.code = 2
  ·have hv : Hid (qz27 A h = (qzb h 3 0 0)) := by show _ = _; simp [qz27, hc0, k2]
   go_wp2_with (first | (refine wpList_load_mid rfl 27 (.tmp 3) rfl (w.heap.size + 1) 0 ?hxln4 (hdC h) _ ?hcn4 Try.underlying27 rfl (qz1 _) ?_))
   try (case hxln4 => rfl)
   try (case hcn4 => exact H1)
   refine (qzv h 3 0 0 _).mono ?_
   rintro e w2 ⟨rfl, b2⟩
   have F2 := qz6 F1 b2 (by omega)
   have K2 := K1.trans (b2.mono (by omega))
   go_wp2_with (refine wpList_store_mid rfl 27 (.tmp 4) _ rfl (w.heap.size + 1 + 1) 0 (hdC (qzb h 3 0 0)).toArray ?hxn4 ?hyn4 ?htn4 (qza (qzb h 3 0 0)) (qzf (qzb h 3 0 0)) ?_)
   try (case hxn4 => rfl)
   try (case hyn4 => rfl)
   case htn4 => exact F2
   refine bodyPost_ret (v := .agg (hdC (qzb h 3 0 0)).toArray) ?_ rfl ⟨by rw [hv.out], ?_⟩
   ·exact qz5 Try.results132 _ _ (w.heap.size + 1 + 1) 0 rfl (hdC (qzb h 3 0 0)) _ (World.rangeAt_setCells_same _ _ _ _ F2) Try.underlying27 rfl (qz1 _)
   ·exact Below.setCells (by omega) _ _ _ K2
  have b2 : (h.code == 2) = false := by simp [k2]
  obtain ⟨H', hH⟩ : ∃ H' : Hd, Hid (H' = { h with at_ := 0 }) := ⟨_, rfl⟩
  have hv : Hid (qz27 A h = H') := by show _ = _; rw [hH.out]; simp [qz27, k1, k2, k3]
  go_wp2_with (first | (refine wpList_load_mid rfl 27 (.tmp 3) rfl (w.heap.size + 1) 0 ?hxln5 (hdC H') _ ?hcn5 Try.underlying27 rfl (qz1 H') ?_) | (refine wpList_store_mid rfl 27 (.tmp 4) _ rfl (w.heap.size + 1 + 1) 0 (hdC H').toArray ?hxn5 ?hyn5 ?htn5 (qza H') (qzf H') ?_))
  try (case hxln5 => rfl)
  case hcn5 => rw [hH.out]; exact (qzc H1 0 (by simp [hdC]) _)
  try (case hxn5 => rfl)
  try (case hyn5 => rfl)
  case htn5 => exact (qz4 F1 _ _)
  refine bodyPost_ret (v := .agg (hdC H').toArray) ?_ rfl ⟨by rw [hv.out], ?_⟩
  ·exact qz5 Try.results132 _ _ (w.heap.size + 1 + 1) 0 rfl (hdC H') _ (World.rangeAt_setCells_same _ _ _ _ (qz4 F1 _ _)) Try.underlying27 rfl (qz1 _)
  ·exact Below.setCells (by omega) _ _ _ (Below.setCell K1 (p := ⟨w.heap.size + 1, 0, none⟩) (by show w.heap.size <= w.heap.size + 1; omega) _)
 obtain ⟨m, hcm⟩ : ∃ m : Nat, h.curr = m := ⟨h.curr.toNat, by omega⟩
 have hm : m < A.nodes.length := by omega
 have hm' : (m : Int) < (A.nodes.length : Int) := by omega
 have hm0 : (0 : Int) <= (m : Int) := by omega
 rw [hcm] at q16
 obtain ⟨bb, off, rfl, hbb, R⟩ := qz14.at I0.n (by omega)
 have z0 : w0.cell? ⟨bb, off + m * 3 + 0, none⟩ = some (.int .i64 A.nodes[m].key) := (qzu (sz := 3) (fun _ => rfl) R m hm) 0 _ rfl
 have z1 : w0.cell? ⟨bb, off + m * 3 + 1, none⟩ = some (.int .i64 A.nodes[m].value) := (qzu (sz := 3) (fun _ => rfl) R m hm) 1 _ rfl
 simp only [Nat.add_zero] at z0
 clear R
 by_cases hkey : A.nodes[m].key = h.key
 case neg =>
  have bk : (A.nodes[m].key == h.key) = false := by simp [hkey]
  go_quiet (fail)
  have X1 : (w0.drewN nq).rangeAt w.heap.size 0 [.int .i64 A.camera, .slice a0 A.slots.length c0, .slice a1 A.guides.length c1, .slice (some ⟨bb, off, none⟩) A.nodes.length c2, .slice a3 A.vers.length c3] := X0
  have H1 : (w0.drewN nq).rangeAt (w.heap.size + 1) 0 (hdC h) := H0
  have F1 : (w0.drewN nq).there (w.heap.size + 1 + 1) 0 22 := F0
  have K1 : Below w.heap.size w (w0.drewN nq) := ⟨K0.os, K0.tape, K0.output, K0.size, K0.block⟩
  have hz1 : w.heap.size + 1 + 1 < (w0.drewN nq).heap.size := hz0
  have I1 : qz25 B (w0.drewN nq) (.slice a0 A.slots.length c0) (.slice a1 A.guides.length c1) (.slice (some ⟨bb, off, none⟩) A.nodes.length c2) (.slice a3 A.vers.length c3) A := I0.below ⟨rfl, rfl, rfl, Nat.le_refl _, fun _ _ => rfl⟩
  have y3 : (w0.drewN nq).cell? ⟨w.heap.size, 3, none⟩ = some (.slice (some ⟨bb, off, none⟩) A.nodes.length c2) := x3
  have y2 : (w0.drewN nq).cell? ⟨w.heap.size + 1, 2, none⟩ = some (.int .i64 h.code) := q2
  have y16 : (w0.drewN nq).cell? ⟨w.heap.size + 1, 16, none⟩ = some (.int .i64 m) := q16
  have y18 : (w0.drewN nq).cell? ⟨w.heap.size + 1, 18, none⟩ = some (.int .i64 h.new_) := q18
  have g0 : (w0.drewN nq).frozen? ⟨w.heap.size + 1, 0, none⟩ = false := f0
  have y0 : (w0.drewN nq).cell? ⟨w.heap.size + 1, 0, none⟩ = some (.int .i64 h.at_) := by simpa using H1 0 (.int .i64 h.at_) rfl
  generalize hw1 : w0.drewN nq = w1 at *
  clear hw1 X0 H0 F0 K0 I0 hz0 x0 x1 x2 x3 x4 q2 q3 q16 q18 f0 G0 z0 z1 bk
  by_cases k3 : h.code = 3
  ·have hv : Hid (qz27 A h = (qzb h 3 0 0)) := by show _ = _; simp [qz27, hcm, qz24 A m hm, hkey, k3]
   go_wp2_with (first | (refine wpList_load_mid rfl 27 (.tmp 3) rfl (w.heap.size + 1) 0 ?hxln6 (hdC h) _ ?hcn6 Try.underlying27 rfl (qz1 _) ?_))
   try (case hxln6 => rfl)
   try (case hcn6 => exact H1)
   refine (qzv h 3 0 0 _).mono ?_
   rintro e w2 ⟨rfl, b2⟩
   have F2 := qz6 F1 b2 (by omega)
   have K2 := K1.trans (b2.mono (by omega))
   go_wp2_with (refine wpList_store_mid rfl 27 (.tmp 4) _ rfl (w.heap.size + 1 + 1) 0 (hdC (qzb h 3 0 0)).toArray ?hxn6 ?hyn6 ?htn6 (qza (qzb h 3 0 0)) (qzf (qzb h 3 0 0)) ?_)
   try (case hxn6 => rfl)
   try (case hyn6 => rfl)
   case htn6 => exact F2
   refine bodyPost_ret (v := .agg (hdC (qzb h 3 0 0)).toArray) ?_ rfl ⟨by rw [hv.out], ?_⟩
   ·exact qz5 Try.results132 _ _ (w.heap.size + 1 + 1) 0 rfl (hdC (qzb h 3 0 0)) _ (World.rangeAt_setCells_same _ _ _ _ F2) Try.underlying27 rfl (qz1 _)
   ·exact Below.setCells (by omega) _ _ _ K2
  have b3 : (h.code == 3) = false := by simp [k3]
  by_cases k1 : h.code = 1
  ·by_cases kn : 0 <= h.new_
   ·obtain ⟨H', hH⟩ : ∃ H' : Hd, Hid (H' = { h with at_ := 8 }) := ⟨_, rfl⟩
    have hv : Hid (qz27 A h = H') := by show _ = _; rw [hH.out]; simp [qz27, hcm, qz24 A m hm, hkey, k1, kn]
    go_wp2_with (first | (refine wpList_load_mid rfl 27 (.tmp 3) rfl (w.heap.size + 1) 0 ?hxln7 (hdC H') _ ?hcn7 Try.underlying27 rfl (qz1 H') ?_) | (refine wpList_store_mid rfl 27 (.tmp 4) _ rfl (w.heap.size + 1 + 1) 0 (hdC H').toArray ?hxn7 ?hyn7 ?htn7 (qza H') (qzf H') ?_))
    try (case hxln7 => rfl)
    case hcn7 => rw [hH.out]; exact (qzc (qzc H1 0 (by simp [hdC]) _) 0 (by simp [hdC]) _)
    try (case hxn7 => rfl)
    try (case hyn7 => rfl)
    case htn7 => exact (qz4 (qz4 F1 _ _) _ _)
    refine bodyPost_ret (v := .agg (hdC H').toArray) ?_ rfl ⟨by rw [hv.out], ?_⟩
    ·exact qz5 Try.results132 _ _ (w.heap.size + 1 + 1) 0 rfl (hdC H') _ (World.rangeAt_setCells_same _ _ _ _ (qz4 (qz4 F1 _ _) _ _)) Try.underlying27 rfl (qz1 _)
    ·exact Below.setCells (by omega) _ _ _ (Below.setCell (Below.setCell K1 (p := ⟨w.heap.size + 1, 0, none⟩) (by show w.heap.size <= w.heap.size + 1; omega) _) (p := ⟨w.heap.size + 1, 0, none⟩) (by show w.heap.size <= w.heap.size + 1; omega) _)
   ·obtain ⟨H', hH⟩ : ∃ H' : Hd, Hid (H' = { h with at_ := 7 }) := ⟨_, rfl⟩
    have hv : Hid (qz27 A h = H') := by show _ = _; rw [hH.out]; simp [qz27, hcm, qz24 A m hm, hkey, k1, kn]
    go_wp2_with (first | (refine wpList_load_mid rfl 27 (.tmp 3) rfl (w.heap.size + 1) 0 ?hxln8 (hdC H') _ ?hcn8 Try.underlying27 rfl (qz1 H') ?_) | (refine wpList_store_mid rfl 27 (.tmp 4) _ rfl (w.heap.size + 1 + 1) 0 (hdC H').toArray ?hxn8 ?hyn8 ?htn8 (qza H') (qzf H') ?_))
    try (case hxln8 => rfl)
    case hcn8 => rw [hH.out]; exact (qzc H1 0 (by simp [hdC]) _)
    try (case hxn8 => rfl)
    try (case hyn8 => rfl)
    case htn8 => exact (qz4 F1 _ _)
    refine bodyPost_ret (v := .agg (hdC H').toArray) ?_ rfl ⟨by rw [hv.out], ?_⟩
    ·exact qz5 Try.results132 _ _ (w.heap.size + 1 + 1) 0 rfl (hdC H') _ (World.rangeAt_setCells_same _ _ _ _ (qz4 F1 _ _)) Try.underlying27 rfl (qz1 _)
    ·exact Below.setCells (by omega) _ _ _ (Below.setCell K1 (p := ⟨w.heap.size + 1, 0, none⟩) (by show w.heap.size <= w.heap.size + 1; omega) _)
  have b1 : (h.code == 1) = false := by simp [k1]
  by_cases k2 : h.code = 2
  ·have hv : Hid (qz27 A h = (qzb h 3 0 0)) := by show _ = _; simp [qz27, hcm, qz24 A m hm, hkey, k2]
   go_wp2_with (first | (refine wpList_load_mid rfl 27 (.tmp 3) rfl (w.heap.size + 1) 0 ?hxln9 (hdC h) _ ?hcn9 Try.underlying27 rfl (qz1 _) ?_))
   try (case hxln9 => rfl)
   try (case hcn9 => exact H1)
   refine (qzv h 3 0 0 _).mono ?_
   rintro e w2 ⟨rfl, b2⟩
   have F2 := qz6 F1 b2 (by omega)
   have K2 := K1.trans (b2.mono (by omega))
   go_wp2_with (refine wpList_store_mid rfl 27 (.tmp 4) _ rfl (w.heap.size + 1 + 1) 0 (hdC (qzb h 3 0 0)).toArray ?hxn9 ?hyn9 ?htn9 (qza (qzb h 3 0 0)) (qzf (qzb h 3 0 0)) ?_)
   try (case hxn9 => rfl)
   try (case hyn9 => rfl)
   case htn9 => exact F2
   refine bodyPost_ret (v := .agg (hdC (qzb h 3 0 0)).toArray) ?_ rfl ⟨by rw [hv.out], ?_⟩
   ·exact qz5 Try.results132 _ _ (w.heap.size + 1 + 1) 0 rfl (hdC (qzb h 3 0 0)) _ (World.rangeAt_setCells_same _ _ _ _ F2) Try.underlying27 rfl (qz1 _)
   ·exact Below.setCells (by omega) _ _ _ K2
  have b2 : (h.code == 2) = false := by simp [k2]
  obtain ⟨H', hH⟩ : ∃ H' : Hd, Hid (H' = { h with at_ := 0 }) := ⟨_, rfl⟩
  have hv : Hid (qz27 A h = H') := by show _ = _; rw [hH.out]; simp [qz27, k1, k2, k3]
  go_wp2_with (first | (refine wpList_load_mid rfl 27 (.tmp 3) rfl (w.heap.size + 1) 0 ?hxln10 (hdC H') _ ?hcn10 Try.underlying27 rfl (qz1 H') ?_) | (refine wpList_store_mid rfl 27 (.tmp 4) _ rfl (w.heap.size + 1 + 1) 0 (hdC H').toArray ?hxn10 ?hyn10 ?htn10 (qza H') (qzf H') ?_))
  try (case hxln10 => rfl)
  case hcn10 => rw [hH.out]; exact (qzc H1 0 (by simp [hdC]) _)
  try (case hxn10 => rfl)
  try (case hyn10 => rfl)
  case htn10 => exact (qz4 F1 _ _)
  refine bodyPost_ret (v := .agg (hdC H').toArray) ?_ rfl ⟨by rw [hv.out], ?_⟩
  ·exact qz5 Try.results132 _ _ (w.heap.size + 1 + 1) 0 rfl (hdC H') _ (World.rangeAt_setCells_same _ _ _ _ (qz4 F1 _ _)) Try.underlying27 rfl (qz1 _)
  ·exact Below.setCells (by omega) _ _ _ (Below.setCell K1 (p := ⟨w.heap.size + 1, 0, none⟩) (by show w.heap.size <= w.heap.size + 1; omega) _)
 go_quiet (fail)
 have X1 : (w0.drewN nq).rangeAt w.heap.size 0 [.int .i64 A.camera, .slice a0 A.slots.length c0, .slice a1 A.guides.length c1, .slice (some ⟨bb, off, none⟩) A.nodes.length c2, .slice a3 A.vers.length c3] := X0
 have H1 : (w0.drewN nq).rangeAt (w.heap.size + 1) 0 (hdC h) := H0
 have F1 : (w0.drewN nq).there (w.heap.size + 1 + 1) 0 22 := F0
 have K1 : Below w.heap.size w (w0.drewN nq) := ⟨K0.os, K0.tape, K0.output, K0.size, K0.block⟩
 have hz1 : w.heap.size + 1 + 1 < (w0.drewN nq).heap.size := hz0
 have I1 : qz25 B (w0.drewN nq) (.slice a0 A.slots.length c0) (.slice a1 A.guides.length c1) (.slice (some ⟨bb, off, none⟩) A.nodes.length c2) (.slice a3 A.vers.length c3) A := I0.below ⟨rfl, rfl, rfl, Nat.le_refl _, fun _ _ => rfl⟩
 have y3 : (w0.drewN nq).cell? ⟨w.heap.size, 3, none⟩ = some (.slice (some ⟨bb, off, none⟩) A.nodes.length c2) := x3
 have y2 : (w0.drewN nq).cell? ⟨w.heap.size + 1, 2, none⟩ = some (.int .i64 h.code) := q2
 have y16 : (w0.drewN nq).cell? ⟨w.heap.size + 1, 16, none⟩ = some (.int .i64 m) := q16
 have y18 : (w0.drewN nq).cell? ⟨w.heap.size + 1, 18, none⟩ = some (.int .i64 h.new_) := q18
 have g0 : (w0.drewN nq).frozen? ⟨w.heap.size + 1, 0, none⟩ = false := f0
 have y0 : (w0.drewN nq).cell? ⟨w.heap.size + 1, 0, none⟩ = some (.int .i64 h.at_) := by simpa using H1 0 (.int .i64 h.at_) rfl
 have y1 : (w0.drewN nq).cell? ⟨bb, off + m * 3 + 1, none⟩ = some (.int .i64 A.nodes[m].value) := z1
 generalize hw1 : w0.drewN nq = w1 at *
 clear hw1 X0 H0 F0 K0 I0 hz0 x0 x1 x2 x3 x4 q2 q3 q16 q18 f0 G0 z0 z1
 by_cases k3 : h.code = 3
 ·have hv : Hid (qz27 A h = (qzb h 2 A.nodes[m].value 0)) := by show _ = _; simp [qz27, hcm, k3, qz24 A m hm, hkey]
  go_wp2_with fail
  refine qz3i 8 (by kernel_rfl) (by kernel_rfl) ?_
  simp only [List.take_succ_cons, List.take_zero, List.drop_succ_cons, List.drop_zero]
  repeat (first | (refine qz1m rfl 27 (.tmp 3) rfl (w.heap.size + 1) 0 ?s11x0 (hdC h) _ ?s11c0 Try.underlying27 rfl (qz1 _) ?_; (case s11x0 => rfl); (case s11c0 => rintro _ ⟨m, rfl⟩; exact H1)) | (quiet_step (fail)))
  refine wpQuiet_nil ?_
  rintro _ ⟨nr, rfl⟩
  go_wp2_with fail
  refine (qzv h 2 A.nodes[m].value 0 _).mono ?_
  rintro e w2 ⟨rfl, b2⟩
  have F2 := qz6 F1 (b := w.heap.size + 1 + 1) (B := w1.heap.size) (w' := w2) ⟨b2.os, b2.tape, b2.output, b2.size, b2.block⟩ (by omega)
  have K2 : Below w.heap.size w w2 := K1.trans (b := w1) ⟨b2.os, b2.tape, b2.output, b2.size, fun k hk => b2.block k (by show k < w1.heap.size; omega)⟩
  go_wp2_with (refine wpList_store_mid rfl 27 (.tmp 4) _ rfl (w.heap.size + 1 + 1) 0 (hdC (qzb h 2 A.nodes[m].value 0)).toArray ?hxn12 ?hyn12 ?htn12 (qza (qzb h 2 A.nodes[m].value 0)) (qzf (qzb h 2 A.nodes[m].value 0)) ?_)
  try (case hxn12 => rfl)
  try (case hyn12 => rfl)
  case htn12 => exact F2
  refine bodyPost_ret (v := .agg (hdC (qzb h 2 A.nodes[m].value 0)).toArray) ?_ rfl ⟨by rw [hv.out], ?_⟩
  ·exact qz5 Try.results132 _ _ (w.heap.size + 1 + 1) 0 rfl (hdC (qzb h 2 A.nodes[m].value 0)) _ (World.rangeAt_setCells_same _ _ _ _ F2) Try.underlying27 rfl (qz1 _)
  ·exact Below.setCells (by omega) _ _ _ K2
 have b3 : (h.code == 3) = false := by simp [k3]
 by_cases k1 : h.code = 1
 ·have hv : Hid (qz27 A h = (qzb h 2 A.nodes[m].value 0)) := by show _ = _; simp [qz27, hcm, k1, qz24 A m hm, hkey]
  go_wp2_with fail
  refine qz3i 8 (by kernel_rfl) (by kernel_rfl) ?_
  simp only [List.take_succ_cons, List.take_zero, List.drop_succ_cons, List.drop_zero]
  repeat (first | (refine qz1m rfl 27 (.tmp 3) rfl (w.heap.size + 1) 0 ?s13x0 (hdC h) _ ?s13c0 Try.underlying27 rfl (qz1 _) ?_; (case s13x0 => rfl); (case s13c0 => rintro _ ⟨m, rfl⟩; exact H1)) | (quiet_step (fail)))
  refine wpQuiet_nil ?_
  rintro _ ⟨nr, rfl⟩
  go_wp2_with fail
  refine (qzv h 2 A.nodes[m].value 0 _).mono ?_
  rintro e w2 ⟨rfl, b2⟩
  have F2 := qz6 F1 (b := w.heap.size + 1 + 1) (B := w1.heap.size) (w' := w2) ⟨b2.os, b2.tape, b2.output, b2.size, b2.block⟩ (by omega)
  have K2 : Below w.heap.size w w2 := K1.trans (b := w1) ⟨b2.os, b2.tape, b2.output, b2.size, fun k hk => b2.block k (by show k < w1.heap.size; omega)⟩
  go_wp2_with (refine wpList_store_mid rfl 27 (.tmp 4) _ rfl (w.heap.size + 1 + 1) 0 (hdC (qzb h 2 A.nodes[m].value 0)).toArray ?hxn14 ?hyn14 ?htn14 (qza (qzb h 2 A.nodes[m].value 0)) (qzf (qzb h 2 A.nodes[m].value 0)) ?_)
  try (case hxn14 => rfl)
  try (case hyn14 => rfl)
  case htn14 => exact F2
  refine bodyPost_ret (v := .agg (hdC (qzb h 2 A.nodes[m].value 0)).toArray) ?_ rfl ⟨by rw [hv.out], ?_⟩
  ·exact qz5 Try.results132 _ _ (w.heap.size + 1 + 1) 0 rfl (hdC (qzb h 2 A.nodes[m].value 0)) _ (World.rangeAt_setCells_same _ _ _ _ F2) Try.underlying27 rfl (qz1 _)
  ·exact Below.setCells (by omega) _ _ _ K2
 have b1 : (h.code == 1) = false := by simp [k1]
 by_cases k2 : h.code = 2
 ·obtain ⟨H', hH⟩ : ∃ H' : Hd, Hid (H' = { h with at_ := 11 }) := ⟨_, rfl⟩
  have hv : Hid (qz27 A h = H') := by show _ = _; rw [hH.out]; simp [qz27, hcm, k2, qz24 A m hm, hkey]
  go_wp2_with (first | (refine wpList_load_mid rfl 27 (.tmp 3) rfl (w.heap.size + 1) 0 ?hxln15 (hdC H') _ ?hcn15 Try.underlying27 rfl (qz1 H') ?_) | (refine wpList_store_mid rfl 27 (.tmp 4) _ rfl (w.heap.size + 1 + 1) 0 (hdC H').toArray ?hxn15 ?hyn15 ?htn15 (qza H') (qzf H') ?_))
  try (case hxln15 => rfl)
  case hcn15 => rw [hH.out]; exact (qzc H1 0 (by simp [hdC]) _)
  try (case hxn15 => rfl)
  try (case hyn15 => rfl)
  case htn15 => exact (qz4 F1 _ _)
  refine bodyPost_ret (v := .agg (hdC H').toArray) ?_ rfl ⟨by rw [hv.out], ?_⟩
  ·exact qz5 Try.results132 _ _ (w.heap.size + 1 + 1) 0 rfl (hdC H') _ (World.rangeAt_setCells_same _ _ _ _ (qz4 F1 _ _)) Try.underlying27 rfl (qz1 _)
  ·exact Below.setCells (by omega) _ _ _ (Below.setCell K1 (p := ⟨w.heap.size + 1, 0, none⟩) (by show w.heap.size <= w.heap.size + 1; omega) _)
 have b2 : (h.code == 2) = false := by simp [k2]
 obtain ⟨H', hH⟩ : ∃ H' : Hd, Hid (H' = { h with at_ := 0 }) := ⟨_, rfl⟩
 have hv : Hid (qz27 A h = H') := by show _ = _; rw [hH.out]; simp [qz27, k1, k2, k3]
 go_wp2_with (first | (refine wpList_load_mid rfl 27 (.tmp 3) rfl (w.heap.size + 1) 0 ?hxln16 (hdC H') _ ?hcn16 Try.underlying27 rfl (qz1 H') ?_) | (refine wpList_store_mid rfl 27 (.tmp 4) _ rfl (w.heap.size + 1 + 1) 0 (hdC H').toArray ?hxn16 ?hyn16 ?htn16 (qza H') (qzf H') ?_))
 try (case hxln16 => rfl)
 case hcn16 => rw [hH.out]; exact (qzc H1 0 (by simp [hdC]) _)
 try (case hxn16 => rfl)
 try (case hyn16 => rfl)
 case htn16 => exact (qz4 F1 _ _)
 refine bodyPost_ret (v := .agg (hdC H').toArray) ?_ rfl ⟨by rw [hv.out], ?_⟩
 ·exact qz5 Try.results132 _ _ (w.heap.size + 1 + 1) 0 rfl (hdC H') _ (World.rangeAt_setCells_same _ _ _ _ (qz4 F1 _ _)) Try.underlying27 rfl (qz1 _)
 ·exact Below.setCells (by omega) _ _ _ (Below.setCell K1 (p := ⟨w.heap.size + 1, 0, none⟩) (by show w.heap.size <= w.heap.size + 1; omega) _)
theorem qz56 (B : Nat) (A : Ar) (h : Hd) (n : Int) (a0 a1 a2 a3 : Option Addr) (c0 c1 c2 c3 : Nat) (w : World) (hB : B <= w.heap.size) (hA : A.size <= 1048576) (I : qz25 B w (.slice a0 A.slots.length c0) (.slice a1 A.guides.length c1) (.slice a2 A.nodes.length c2) (.slice a3 A.vers.length c3) A)  :
  Calls Try.prog 131 #[.agg #[.int .i64 A.camera, .slice a0 A.slots.length c0, .slice a1 A.guides.length c1, .slice a2 A.nodes.length c2, .slice a3 A.vers.length c3], .agg (hdC h).toArray, .int .i64 n] w fun e w' => e = .returned (.agg (hdC (qz53 A h n)).toArray) /\ Below w.heap.size w w' := by
 have hA' := hA
 unfold Ar.size at hA
 have X0 := World.rangeAt_alloc (World.rangeAt_alloc (qzd w [.int .i64 A.camera, .slice a0 A.slots.length c0, .slice a1 A.guides.length c1, .slice a2 A.nodes.length c2, .slice a3 A.vers.length c3] 38) (.cells (hdC h).toArray 27)) (.cells #[.int .i64 0, .int .i64 0, .int .i64 0, .int .i64 0, .int .i64 0, .int .i64 0, .int .i64 0, .int .i64 0, .int .i64 0, .int .i64 0, .int .i64 0, .int .i64 0, .int .i64 0, .int .i64 0, .int .i64 0, .int .i64 0, .int .i64 0, .int .i64 0, .int .i64 0, .int .i64 0, .int .i64 0, .int .i64 0] 27)
 have H0 := World.rangeAt_alloc (qzd (w.alloc (.cells #[.int .i64 A.camera, .slice a0 A.slots.length c0, .slice a1 A.guides.length c1, .slice a2 A.nodes.length c2, .slice a3 A.vers.length c3] 38)) (hdC h) 27) (.cells #[.int .i64 0, .int .i64 0, .int .i64 0, .int .i64 0, .int .i64 0, .int .i64 0, .int .i64 0, .int .i64 0, .int .i64 0, .int .i64 0, .int .i64 0, .int .i64 0, .int .i64 0, .int .i64 0, .int .i64 0, .int .i64 0, .int .i64 0, .int .i64 0, .int .i64 0, .int .i64 0, .int .i64 0, .int .i64 0] 27)
 have G0 := World.there_alloc (qzh (w.alloc (.cells #[.int .i64 A.camera, .slice a0 A.slots.length c0, .slice a1 A.guides.length c1, .slice a2 A.nodes.length c2, .slice a3 A.vers.length c3] 38)) (hdC h).toArray 27 22 (by simp [hdC])) (.cells #[.int .i64 0, .int .i64 0, .int .i64 0, .int .i64 0, .int .i64 0, .int .i64 0, .int .i64 0, .int .i64 0, .int .i64 0, .int .i64 0, .int .i64 0, .int .i64 0, .int .i64 0, .int .i64 0, .int .i64 0, .int .i64 0, .int .i64 0, .int .i64 0, .int .i64 0, .int .i64 0, .int .i64 0, .int .i64 0] 27)
 have F0 := qzh ((w.alloc (.cells #[.int .i64 A.camera, .slice a0 A.slots.length c0, .slice a1 A.guides.length c1, .slice a2 A.nodes.length c2, .slice a3 A.vers.length c3] 38)).alloc (.cells (hdC h).toArray 27)) #[.int .i64 0, .int .i64 0, .int .i64 0, .int .i64 0, .int .i64 0, .int .i64 0, .int .i64 0, .int .i64 0, .int .i64 0, .int .i64 0, .int .i64 0, .int .i64 0, .int .i64 0, .int .i64 0, .int .i64 0, .int .i64 0, .int .i64 0, .int .i64 0, .int .i64 0, .int .i64 0, .int .i64 0, .int .i64 0] 27 22 (by decide)
 have K0 := (((Below.refl w.heap.size w).alloc (Nat.le_refl _) (.cells #[.int .i64 A.camera, .slice a0 A.slots.length c0, .slice a1 A.guides.length c1, .slice a2 A.nodes.length c2, .slice a3 A.vers.length c3] 38)).alloc (by simp) (.cells (hdC h).toArray 27)).alloc (by simp; omega) (.cells #[.int .i64 0, .int .i64 0, .int .i64 0, .int .i64 0, .int .i64 0, .int .i64 0, .int .i64 0, .int .i64 0, .int .i64 0, .int .i64 0, .int .i64 0, .int .i64 0, .int .i64 0, .int .i64 0, .int .i64 0, .int .i64 0, .int .i64 0, .int .i64 0, .int .i64 0, .int .i64 0, .int .i64 0, .int .i64 0] 27)
 have hz0 : w.heap.size + 1 + 1 < (((w.alloc (.cells #[.int .i64 A.camera, .slice a0 A.slots.length c0, .slice a1 A.guides.length c1, .slice a2 A.nodes.length c2, .slice a3 A.vers.length c3] 38)).alloc (.cells (hdC h).toArray 27)).alloc (.cells #[.int .i64 0, .int .i64 0, .int .i64 0, .int .i64 0, .int .i64 0, .int .i64 0, .int .i64 0, .int .i64 0, .int .i64 0, .int .i64 0, .int .i64 0, .int .i64 0, .int .i64 0, .int .i64 0, .int .i64 0, .int .i64 0, .int .i64 0, .int .i64 0, .int .i64 0, .int .i64 0, .int .i64 0, .int .i64 0] 27)).heap.size := by simp
 simp only [World.size_alloc] at H0 G0 F0
 have I0 := I.below (K0.mono hB)
 go_enter Try.func131, Try.ntmps131
 have tok : True := trivial
 go_wp2_with (clear tok; refine qz2e (((w.alloc (.cells #[.int .i64 A.camera, .slice a0 A.slots.length c0, .slice a1 A.guides.length c1, .slice a2 A.nodes.length c2, .slice a3 A.vers.length c3] 38)).alloc (.cells (hdC h).toArray 27)).alloc (.cells #[.int .i64 0, .int .i64 0, .int .i64 0, .int .i64 0, .int .i64 0, .int .i64 0, .int .i64 0, .int .i64 0, .int .i64 0, .int .i64 0, .int .i64 0, .int .i64 0, .int .i64 0, .int .i64 0, .int .i64 0, .int .i64 0, .int .i64 0, .int .i64 0, .int .i64 0, .int .i64 0, .int .i64 0, .int .i64 0] 27)) ?_)
 generalize hw0 : ((w.alloc (.cells #[.int .i64 A.camera, .slice a0 A.slots.length c0, .slice a1 A.guides.length c1, .slice a2 A.nodes.length c2, .slice a3 A.vers.length c3] 38)).alloc (.cells (hdC h).toArray 27)).alloc (.cells #[.int .i64 0, .int .i64 0, .int .i64 0, .int .i64 0, .int .i64 0, .int .i64 0, .int .i64 0, .int .i64 0, .int .i64 0, .int .i64 0, .int .i64 0, .int .i64 0, .int .i64 0, .int .i64 0, .int .i64 0, .int .i64 0, .int .i64 0, .int .i64 0, .int .i64 0, .int .i64 0, .int .i64 0, .int .i64 0] 27) = w0 at *
 clear hw0 I
 show wpList _ _ _ _ _ w0
 obtain ⟨x0, x1, x2, x3, x4⟩ := row5 X0
 have q0 : w0.cell? ⟨w.heap.size + 1, 0, none⟩ = some (.int .i64 h.at_) := by simpa using H0 0 (.int .i64 h.at_) rfl
 have q1 : w0.cell? ⟨w.heap.size + 1, 1, none⟩ = some (.int .i64 h.then_) := by simpa using H0 1 (.int .i64 h.then_) rfl
 have q10 : w0.cell? ⟨w.heap.size + 1, 10, none⟩ = some (.int .i64 h.x_) := by simpa using H0 10 (.int .i64 h.x_) rfl
 have q16 : w0.cell? ⟨w.heap.size + 1, 16, none⟩ = some (.int .i64 h.curr) := by simpa using H0 16 (.int .i64 h.curr) rfl
 have f0 : w0.frozen? ⟨w.heap.size + 1, 0, none⟩ = false := by simpa using (G0 0 (by decide)).2
 have f1 : w0.frozen? ⟨w.heap.size + 1, 1, none⟩ = false := by simpa using (G0 1 (by decide)).2
 have f10 : w0.frozen? ⟨w.heap.size + 1, 10, none⟩ = false := by simpa using (G0 10 (by decide)).2
 have f16 : w0.frozen? ⟨w.heap.size + 1, 16, none⟩ = false := by simpa using (G0 16 (by decide)).2
 by_cases hn : n = -1
 ·subst hn
  obtain ⟨H', hH⟩ : ∃ H' : Hd, Hid (H' = { h with curr := -1 }) := by exact ⟨_, rfl⟩
  have hv : Hid (qz53 A h (-1) = qz27 A H') := by show _ = _; rw [hH.out]; simp [qz53]
  go_wp2_with (first | (refine wpList_load_mid rfl 27 (.tmp 4) rfl (w.heap.size + 1) 0 ?hxln17 (hdC H') _ ?hcn17 Try.underlying27 rfl (qz1 H') ?_))
  try (case hxln17 => rfl)
  case hcn17 => rw [hH.out]; exact (qzc H0 16 (by simp [hdC]) _)
  refine (qz6x B A H' _ _ _ _ _ _ _ _ _ (by first | omega | (simp; omega)) hA' (I0.below (Below.setCell (Below.refl B w0) (p := ⟨w.heap.size + 1, 16, none⟩) (by show B <= w.heap.size + 1; omega) _)) (by rw [hH.out]; show (-1 : Int) < _; omega)).mono ?_
  rintro e w2 ⟨rfl, b2⟩
  have F2 := qz6 (qz4 F0 _ _) b2 (by first | omega | (simp; omega))
  have K2 := (Below.setCell K0 (p := ⟨w.heap.size + 1, 16, none⟩) (by show w.heap.size <= w.heap.size + 1; omega) _).trans (b2.mono (by first | omega | (simp; omega)))
  go_wp2_with (refine wpList_store_mid rfl 27 (.tmp 6) _ rfl (w.heap.size + 1 + 1) 0 (hdC (qz27 A H')).toArray ?hxn17 ?hyn17 ?htn17 (qza _) (qzf _) ?_)
  try (case hxn17 => rfl)
  try (case hyn17 => rfl)
  case htn17 => exact F2
  refine bodyPost_ret (v := .agg (hdC (qz27 A H')).toArray) ?_ rfl ⟨by rw [hv.out], ?_⟩
  ·exact qz5 Try.results131 _ _ (w.heap.size + 1 + 1) 0 rfl (hdC (qz27 A H')) _ (World.rangeAt_setCells_same _ _ _ _ F2) Try.underlying27 rfl (qz1 _)
  ·exact Below.setCells (by omega) _ _ _ K2
 have bn : (n == -1) = false := by simp [hn]
 obtain ⟨H', hH⟩ : ∃ H' : Hd, Hid (H' = { h with curr := n, x_ := n, then_ := 2, at_ := 2 }) := by exact ⟨_, rfl⟩
 have hv : Hid (qz53 A h n = H') := by show _ = _; rw [hH.out]; simp [qz53, hn]
 go_wp2_with (first | (refine wpList_load_mid rfl 27 (.tmp 4) rfl (w.heap.size + 1) 0 ?hxln18 (hdC H') _ ?hcn18 Try.underlying27 rfl (qz1 H') ?_) | (refine wpList_store_mid rfl 27 (.tmp 6) _ rfl (w.heap.size + 1 + 1) 0 (hdC H').toArray ?hxn18 ?hyn18 ?htn18 (qza _) (qzf _) ?_))
 try (case hxln18 => rfl)
 case hcn18 => rw [hH.out]; exact (qzc (qzc (qzc (qzc H0 16 (by simp [hdC]) _) 10 (by simp [hdC]) _) 1 (by simp [hdC]) _) 0 (by simp [hdC]) _)
 try (case hxn18 => rfl)
 try (case hyn18 => rfl)
 case htn18 => exact (qz4 (qz4 (qz4 (qz4 F0 _ _) _ _) _ _) _ _)
 refine bodyPost_ret (v := .agg (hdC H').toArray) ?_ rfl ⟨by rw [hv.out], ?_⟩
 ·exact qz5 Try.results131 _ _ (w.heap.size + 1 + 1) 0 rfl (hdC H') _ (World.rangeAt_setCells_same _ _ _ _ (qz4 (qz4 (qz4 (qz4 F0 _ _) _ _) _ _) _ _)) Try.underlying27 rfl (qz1 _)
 ·exact Below.setCells (by omega) _ _ _ (Below.setCell (Below.setCell (Below.setCell (Below.setCell K0 (p := ⟨w.heap.size + 1, 16, none⟩) (by show w.heap.size <= w.heap.size + 1; omega) _) (p := ⟨w.heap.size + 1, 10, none⟩) (by show w.heap.size <= w.heap.size + 1; omega) _) (p := ⟨w.heap.size + 1, 1, none⟩) (by show w.heap.size <= w.heap.size + 1; omega) _) (p := ⟨w.heap.size + 1, 0, none⟩) (by show w.heap.size <= w.heap.size + 1; omega) _)
end
section
attribute [local go_sem ↓] Go.wp_at_zero Go.wp_at_succ
theorem qzr (x y : Int) (w : World) : Calls Try.prog 97 #[.int .i64 x, .int .i64 y] w fun e w' => e = .returned (.int .i64 (min x y)) /\ w' = w := by
 by_cases h : x < y
 ·go_enter Try.func97, Try.ntmps97
  go_wp2
  go_ret
  exact ⟨by rw [show min x y = x by omega]; rfl, rfl⟩
 ·go_enter Try.func97, Try.ntmps97
  go_wp2
  go_ret
  exact ⟨by rw [show min x y = y by omega]; rfl, rfl⟩
theorem qz1a (x y : Int) (w : World) : Calls Try.prog 110 #[.int .i64 x, .int .i64 y] w fun e w' => e = .returned (.int .i64 (max x y)) /\ w' = w := by
 by_cases h : y < x
 ·go_enter Try.func110, Try.ntmps110
  go_wp2
  go_ret
  exact ⟨by rw [show max x y = x by omega]; rfl, rfl⟩
 ·go_enter Try.func110, Try.ntmps110
  go_wp2
  go_ret
  exact ⟨by rw [show max x y = y by omega]; rfl, rfl⟩
theorem qz8i {x y z u : Int} {A : Ar} (h : qz1o x y z u A = true) (n : Nat) (hn : n < A.nodes.length) : 0 <= A.nodes[n].value /\ A.nodes[n].value <= 9999 := by
 have := (qz2o _ _).1 (qz2a h).2.2.2.1 n hn
 unfold qz5n at this
 split at this <;> (simp only [Bool.and_eq_true, qz1b, beq_iff_eq] at this; omega)
theorem qz4l {x y z u : Int} {A : Ar} (h : qz1o x y z u A = true) (n : Nat) (hn : n < A.vers.length) : (A.vers[n].next = -1 ∨ 1 <= A.vers[n].next /\ A.vers[n].next < (A.nodes.length : Int)) /\ (-1 <= A.vers[n].stamp /\ A.vers[n].stamp <= A.camera) /\ (-1 <= A.vers[n].prev /\ A.vers[n].prev < (n : Int)) /\ (0 <= A.vers[n].kind /\ A.vers[n].kind <= 2) := by
 have := (qz2o _ _).1 (qz2a h).2.2.2.2 n hn
 simp only [verB, Bool.and_eq_true, Bool.or_eq_true, qz1b, beq_iff_eq] at this
 omega
def qz4e (A : Ar) (h : Hd) : Hd := if h.x_ + 1 < (A.nodes.length : Int) then { h with x_ := h.x_ + 1, then_ := 7, at_ := 2 } else qzb h 4 h.out 0
def qz5p (A : Ar) (h : Hd) : Hd := { h with out := min (h.out + 1) 1000000, sum := min (h.sum + (ndOf A h.x_).value) 1000000 }
def qz4f (A : Ar) (h : Hd) : Bool := decide (h.x_ ≠ 0) && (h.code == 7) && inB (ndOf A h.x_).key h.key h.value && !(vrOf A h.ver).gone
def qz5m (A : Ar) (h : Hd) : Bool := decide ((vrOf A h.ver).next < 0) || decide ((if h.code = 7 then h.value else h.key) < (ndOf A (vrOf A h.ver).next).key)
def useH (A : Ar) (h : Hd) : Hd :=
 if h.code ≠ 6 /\ h.code ≠ 7 then { h with at_ := 0 }
 else if h.x_ ≠ 0 /\ h.code = 6 /\ (ndOf A h.x_).key = h.key then (if (vrOf A h.ver).gone then qzb h 3 0 0 else qzb h 2 (ndOf A h.x_).value 0)
 else if qz5m A h then (if h.code = 6 then qzb h 3 0 0 else qzb h 4 (if qz4f A h then qz5p A h else h).out (if qz4f A h then qz5p A h else h).sum)
 else { (if qz4f A h then qz5p A h else h) with x_ := (vrOf A h.ver).next, at_ := 2 }
theorem qz6o (B : Nat) (A : Ar) (h : Hd) (a0 a1 a2 a3 : Option Addr) (c0 c1 c2 c3 : Nat) (w : World) (hB : B <= w.heap.size) (hA : A.size <= 1048576) (I : qz25 B w (.slice a0 A.slots.length c0) (.slice a1 A.guides.length c1) (.slice a2 A.nodes.length c2) (.slice a3 A.vers.length c3) A) (hx0 : 0 <= h.x_) (hx1 : h.x_ < (A.nodes.length : Int)) :
  Calls Try.prog 129 #[.agg #[.int .i64 A.camera, .slice a0 A.slots.length c0, .slice a1 A.guides.length c1, .slice a2 A.nodes.length c2, .slice a3 A.vers.length c3], .agg (hdC h).toArray] w fun e w' => e = .returned (.agg (hdC (qz4e A h)).toArray) /\ Below w.heap.size w w' := by
 have hA' := hA
 unfold Ar.size at hA
 have X0 := World.rangeAt_alloc (World.rangeAt_alloc (qzd w [.int .i64 A.camera, .slice a0 A.slots.length c0, .slice a1 A.guides.length c1, .slice a2 A.nodes.length c2, .slice a3 A.vers.length c3] 38) (.cells (hdC h).toArray 27)) (.cells #[.int .i64 0, .int .i64 0, .int .i64 0, .int .i64 0, .int .i64 0, .int .i64 0, .int .i64 0, .int .i64 0, .int .i64 0, .int .i64 0, .int .i64 0, .int .i64 0, .int .i64 0, .int .i64 0, .int .i64 0, .int .i64 0, .int .i64 0, .int .i64 0, .int .i64 0, .int .i64 0, .int .i64 0, .int .i64 0] 27)
 have H0 := World.rangeAt_alloc (qzd (w.alloc (.cells #[.int .i64 A.camera, .slice a0 A.slots.length c0, .slice a1 A.guides.length c1, .slice a2 A.nodes.length c2, .slice a3 A.vers.length c3] 38)) (hdC h) 27) (.cells #[.int .i64 0, .int .i64 0, .int .i64 0, .int .i64 0, .int .i64 0, .int .i64 0, .int .i64 0, .int .i64 0, .int .i64 0, .int .i64 0, .int .i64 0, .int .i64 0, .int .i64 0, .int .i64 0, .int .i64 0, .int .i64 0, .int .i64 0, .int .i64 0, .int .i64 0, .int .i64 0, .int .i64 0, .int .i64 0] 27)
 have G0 := World.there_alloc (qzh (w.alloc (.cells #[.int .i64 A.camera, .slice a0 A.slots.length c0, .slice a1 A.guides.length c1, .slice a2 A.nodes.length c2, .slice a3 A.vers.length c3] 38)) (hdC h).toArray 27 22 (by simp [hdC])) (.cells #[.int .i64 0, .int .i64 0, .int .i64 0, .int .i64 0, .int .i64 0, .int .i64 0, .int .i64 0, .int .i64 0, .int .i64 0, .int .i64 0, .int .i64 0, .int .i64 0, .int .i64 0, .int .i64 0, .int .i64 0, .int .i64 0, .int .i64 0, .int .i64 0, .int .i64 0, .int .i64 0, .int .i64 0, .int .i64 0] 27)
 have F0 := qzh ((w.alloc (.cells #[.int .i64 A.camera, .slice a0 A.slots.length c0, .slice a1 A.guides.length c1, .slice a2 A.nodes.length c2, .slice a3 A.vers.length c3] 38)).alloc (.cells (hdC h).toArray 27)) #[.int .i64 0, .int .i64 0, .int .i64 0, .int .i64 0, .int .i64 0, .int .i64 0, .int .i64 0, .int .i64 0, .int .i64 0, .int .i64 0, .int .i64 0, .int .i64 0, .int .i64 0, .int .i64 0, .int .i64 0, .int .i64 0, .int .i64 0, .int .i64 0, .int .i64 0, .int .i64 0, .int .i64 0, .int .i64 0] 27 22 (by decide)
 have K0 := (((Below.refl w.heap.size w).alloc (Nat.le_refl _) (.cells #[.int .i64 A.camera, .slice a0 A.slots.length c0, .slice a1 A.guides.length c1, .slice a2 A.nodes.length c2, .slice a3 A.vers.length c3] 38)).alloc (by simp) (.cells (hdC h).toArray 27)).alloc (by simp; omega) (.cells #[.int .i64 0, .int .i64 0, .int .i64 0, .int .i64 0, .int .i64 0, .int .i64 0, .int .i64 0, .int .i64 0, .int .i64 0, .int .i64 0, .int .i64 0, .int .i64 0, .int .i64 0, .int .i64 0, .int .i64 0, .int .i64 0, .int .i64 0, .int .i64 0, .int .i64 0, .int .i64 0, .int .i64 0, .int .i64 0] 27)
 have hz0 : w.heap.size + 1 + 1 < (((w.alloc (.cells #[.int .i64 A.camera, .slice a0 A.slots.length c0, .slice a1 A.guides.length c1, .slice a2 A.nodes.length c2, .slice a3 A.vers.length c3] 38)).alloc (.cells (hdC h).toArray 27)).alloc (.cells #[.int .i64 0, .int .i64 0, .int .i64 0, .int .i64 0, .int .i64 0, .int .i64 0, .int .i64 0, .int .i64 0, .int .i64 0, .int .i64 0, .int .i64 0, .int .i64 0, .int .i64 0, .int .i64 0, .int .i64 0, .int .i64 0, .int .i64 0, .int .i64 0, .int .i64 0, .int .i64 0, .int .i64 0, .int .i64 0] 27)).heap.size := by simp
 simp only [World.size_alloc] at H0 G0 F0
 have I0 := I.below (K0.mono hB)
 go_enter Try.func129, Try.ntmps129
 have tok : True := trivial
 go_wp2_with (clear tok; refine qz2e (((w.alloc (.cells #[.int .i64 A.camera, .slice a0 A.slots.length c0, .slice a1 A.guides.length c1, .slice a2 A.nodes.length c2, .slice a3 A.vers.length c3] 38)).alloc (.cells (hdC h).toArray 27)).alloc (.cells #[.int .i64 0, .int .i64 0, .int .i64 0, .int .i64 0, .int .i64 0, .int .i64 0, .int .i64 0, .int .i64 0, .int .i64 0, .int .i64 0, .int .i64 0, .int .i64 0, .int .i64 0, .int .i64 0, .int .i64 0, .int .i64 0, .int .i64 0, .int .i64 0, .int .i64 0, .int .i64 0, .int .i64 0, .int .i64 0] 27)) ?_)
 generalize hw0 : ((w.alloc (.cells #[.int .i64 A.camera, .slice a0 A.slots.length c0, .slice a1 A.guides.length c1, .slice a2 A.nodes.length c2, .slice a3 A.vers.length c3] 38)).alloc (.cells (hdC h).toArray 27)).alloc (.cells #[.int .i64 0, .int .i64 0, .int .i64 0, .int .i64 0, .int .i64 0, .int .i64 0, .int .i64 0, .int .i64 0, .int .i64 0, .int .i64 0, .int .i64 0, .int .i64 0, .int .i64 0, .int .i64 0, .int .i64 0, .int .i64 0, .int .i64 0, .int .i64 0, .int .i64 0, .int .i64 0, .int .i64 0, .int .i64 0] 27) = w0 at *
 clear hw0 I
 show wpList _ _ _ _ _ w0
 obtain ⟨x0, x1, x2, x3, x4⟩ := row5 X0
 have q0 : w0.cell? ⟨w.heap.size + 1, 0, none⟩ = some (.int .i64 h.at_) := by simpa using H0 0 (.int .i64 h.at_) rfl
 have q1 : w0.cell? ⟨w.heap.size + 1, 1, none⟩ = some (.int .i64 h.then_) := by simpa using H0 1 (.int .i64 h.then_) rfl
 have q10 : w0.cell? ⟨w.heap.size + 1, 10, none⟩ = some (.int .i64 h.x_) := by simpa using H0 10 (.int .i64 h.x_) rfl
 have q7 : w0.cell? ⟨w.heap.size + 1, 7, none⟩ = some (.int .i64 h.out) := by simpa using H0 7 (.int .i64 h.out) rfl
 have f0 : w0.frozen? ⟨w.heap.size + 1, 0, none⟩ = false := by simpa using (G0 0 (by decide)).2
 have f1 : w0.frozen? ⟨w.heap.size + 1, 1, none⟩ = false := by simpa using (G0 1 (by decide)).2
 have f10 : w0.frozen? ⟨w.heap.size + 1, 10, none⟩ = false := by simpa using (G0 10 (by decide)).2
 by_cases hn : h.x_ + 1 < (A.nodes.length : Int)
 ·obtain ⟨H', hH⟩ : ∃ H' : Hd, Hid (H' = { h with x_ := h.x_ + 1, then_ := 7, at_ := 2 }) := by exact ⟨_, rfl⟩
  have hv : Hid (qz4e A h = H') := by show _ = _; rw [hH.out]; simp [qz4e, hn]
  go_wp2_with (first | (refine wpList_load_mid rfl 27 (.tmp 3) rfl (w.heap.size + 1) 0 ?hxln19 (hdC H') _ ?hcn19 Try.underlying27 rfl (qz1 H') ?_) | (refine wpList_store_mid rfl 27 (.tmp 4) _ rfl (w.heap.size + 1 + 1) 0 (hdC H').toArray ?hxn19 ?hyn19 ?htn19 (qza _) (qzf _) ?_))
  try (case hxln19 => rfl)
  case hcn19 => rw [hH.out]; exact (qzc (qzc (qzc H0 10 (by simp [hdC]) _) 1 (by simp [hdC]) _) 0 (by simp [hdC]) _)
  try (case hxn19 => rfl)
  try (case hyn19 => rfl)
  case htn19 => exact (qz4 (qz4 (qz4 F0 _ _) _ _) _ _)
  refine bodyPost_ret (v := .agg (hdC H').toArray) ?_ rfl ⟨by rw [hv.out], ?_⟩
  ·exact qz5 Try.results129 _ _ (w.heap.size + 1 + 1) 0 rfl (hdC H') _ (World.rangeAt_setCells_same _ _ _ _ (qz4 (qz4 (qz4 F0 _ _) _ _) _ _)) Try.underlying27 rfl (qz1 _)
  ·exact Below.setCells (by omega) _ _ _ (Below.setCell (Below.setCell (Below.setCell K0 (p := ⟨w.heap.size + 1, 10, none⟩) (by show w.heap.size <= w.heap.size + 1; omega) _) (p := ⟨w.heap.size + 1, 1, none⟩) (by show w.heap.size <= w.heap.size + 1; omega) _) (p := ⟨w.heap.size + 1, 0, none⟩) (by show w.heap.size <= w.heap.size + 1; omega) _)
 obtain ⟨H', hH⟩ : ∃ H' : Hd, Hid (H' = h) := by exact ⟨_, rfl⟩
 have hv : Hid (qz4e A h = qzb H' 4 h.out 0) := by show _ = _; rw [hH.out]; simp [qz4e, hn]
 go_wp2_with (first | (refine wpList_load_mid rfl 27 (.tmp 3) rfl (w.heap.size + 1) 0 ?hxln20 (hdC H') _ ?hcn20 Try.underlying27 rfl (qz1 H') ?_))
 try (case hxln20 => rfl)
 case hcn20 => rw [hH.out]; exact H0
 refine (qzv H' 4 h.out 0 _).mono ?_
 rintro e w2 ⟨rfl, b2⟩
 have F2 := qz6 F0 b2 (by first | omega | (simp; omega))
 have K2 := K0.trans (b2.mono (by first | omega | (simp; omega)))
 go_wp2_with (refine wpList_store_mid rfl 27 (.tmp 4) _ rfl (w.heap.size + 1 + 1) 0 (hdC (qzb H' 4 h.out 0)).toArray ?hxn20 ?hyn20 ?htn20 (qza _) (qzf _) ?_)
 try (case hxn20 => rfl)
 try (case hyn20 => rfl)
 case htn20 => exact F2
 refine bodyPost_ret (v := .agg (hdC (qzb H' 4 h.out 0)).toArray) ?_ rfl ⟨by rw [hv.out], ?_⟩
 ·exact qz5 Try.results129 _ _ (w.heap.size + 1 + 1) 0 rfl (hdC (qzb H' 4 h.out 0)) _ (World.rangeAt_setCells_same _ _ _ _ F2) Try.underlying27 rfl (qz1 _)
 ·exact Below.setCells (by omega) _ _ _ K2
end
end Go.Proofs.Ytclkglkhhnapiaa
