/-
  What the program says of calls (chapter 6), as contracts: whether a call fits, why it is refused, and what it makes of a hand. For every plan, hand and numbers.
-/
import Derived.Test.YtcgjkodpmloccaaImplHand
import Derived.Test.YtcgjkodpmloccaaSpecCall
namespace Go.Proofs.Ytcgjkodpmloccaa
open Go.ChangeShapes Go.WideShapes Go.ChangeAt Go.RowKit
set_option linter.unusedVariables false
set_option linter.unusedSimpArgs false
attribute [local go_sem ↓] Go.wp_at_zero Go.wp_at_succ

set_option maxRecDepth 100000 in
set_option maxHeartbeats 2000000 in
theorem callFits_is (c k v : Int) (w : World) :
    Calls Try.prog 84 #[.int .i64 c, .int .i64 k, .int .i64 v] w fun e w' => e = .returned (.bool (callB c k v)) ∧ w' = w := by
  by_cases c1 : c = 1
  · subst c1
    cases e1 : inB k 0 63
    · have hv : callB 1 k v = false := by simp [callB, e1]
      go_enter Try.func84, Try.ntmps84
      go_wp2_with (first | (go_at_call 80; refine (keyOk_any _ _).mono ?_; rintro e w' ⟨rfl, hw⟩; obtain rfl := hw.symm) | (go_at_call 64; refine (within_any _ _ _ _).mono ?_; rintro e w' ⟨rfl, hw⟩; obtain rfl := hw.symm))
      go_ret
      exact ⟨by first | rfl | (rw [hv]; rfl), rfl⟩
    have hv : callB 1 k v = inB v 0 9999 := by simp [callB, e1]
    go_enter Try.func84, Try.ntmps84
    go_wp2_with (first | (go_at_call 80; refine (keyOk_any _ _).mono ?_; rintro e w' ⟨rfl, hw⟩; obtain rfl := hw.symm) | (go_at_call 64; refine (within_any _ _ _ _).mono ?_; rintro e w' ⟨rfl, hw⟩; obtain rfl := hw.symm))
    go_ret
    exact ⟨by first | rfl | (rw [hv]; rfl), rfl⟩
  by_cases c7 : c = 7
  · subst c7
    cases e0 : inB v 0 63
    · have hv : callB 7 k v = false := by simp [callB, e0]
      go_enter Try.func84, Try.ntmps84
      go_wp2_with (first | (go_at_call 80; refine (keyOk_any _ _).mono ?_; rintro e w' ⟨rfl, hw⟩; obtain rfl := hw.symm) | (go_at_call 64; refine (within_any _ _ _ _).mono ?_; rintro e w' ⟨rfl, hw⟩; obtain rfl := hw.symm))
      go_ret
      exact ⟨by first | rfl | (rw [hv]; rfl), rfl⟩
    have e9 : inB v 0 9999 = true := (inB_iff _ _ _).2 (by have := (inB_iff _ _ _).1 e0; omega)
    cases e1 : inB k 0 63
    · have hv : callB 7 k v = false := by simp [callB, e1, e0]
      go_enter Try.func84, Try.ntmps84
      go_wp2_with (first | (go_at_call 80; refine (keyOk_any _ _).mono ?_; rintro e w' ⟨rfl, hw⟩; obtain rfl := hw.symm) | (go_at_call 64; refine (within_any _ _ _ _).mono ?_; rintro e w' ⟨rfl, hw⟩; obtain rfl := hw.symm))
      go_ret
      exact ⟨by first | rfl | (rw [hv]; rfl), rfl⟩
    have hv : callB 7 k v = true := by simp [callB, e1, e0]
    go_enter Try.func84, Try.ntmps84
    go_wp2_with (first | (go_at_call 80; refine (keyOk_any _ _).mono ?_; rintro e w' ⟨rfl, hw⟩; obtain rfl := hw.symm) | (go_at_call 64; refine (within_any _ _ _ _).mono ?_; rintro e w' ⟨rfl, hw⟩; obtain rfl := hw.symm))
    go_ret
    exact ⟨by first | rfl | (rw [hv]; rfl), rfl⟩
  by_cases c2 : c = 2
  · subst c2
    cases e1 : inB k 0 63
    · have hv : callB 2 k v = false := by simp [callB, e1]
      go_enter Try.func84, Try.ntmps84
      go_wp2_with (first | (go_at_call 80; refine (keyOk_any _ _).mono ?_; rintro e w' ⟨rfl, hw⟩; obtain rfl := hw.symm) | (go_at_call 64; refine (within_any _ _ _ _).mono ?_; rintro e w' ⟨rfl, hw⟩; obtain rfl := hw.symm))
      go_ret
      exact ⟨by first | rfl | (rw [hv]; rfl), rfl⟩
    have hv : callB 2 k v = (v == 0) := by simp [callB, e1]
    go_enter Try.func84, Try.ntmps84
    go_wp2_with (first | (go_at_call 80; refine (keyOk_any _ _).mono ?_; rintro e w' ⟨rfl, hw⟩; obtain rfl := hw.symm) | (go_at_call 64; refine (within_any _ _ _ _).mono ?_; rintro e w' ⟨rfl, hw⟩; obtain rfl := hw.symm))
    go_ret
    exact ⟨by first | rfl | (rw [hv]; rfl), rfl⟩
  by_cases c3 : c = 3
  · subst c3
    cases e1 : inB k 0 63
    · have hv : callB 3 k v = false := by simp [callB, e1]
      go_enter Try.func84, Try.ntmps84
      go_wp2_with (first | (go_at_call 80; refine (keyOk_any _ _).mono ?_; rintro e w' ⟨rfl, hw⟩; obtain rfl := hw.symm) | (go_at_call 64; refine (within_any _ _ _ _).mono ?_; rintro e w' ⟨rfl, hw⟩; obtain rfl := hw.symm))
      go_ret
      exact ⟨by first | rfl | (rw [hv]; rfl), rfl⟩
    have hv : callB 3 k v = (v == 0) := by simp [callB, e1]
    go_enter Try.func84, Try.ntmps84
    go_wp2_with (first | (go_at_call 80; refine (keyOk_any _ _).mono ?_; rintro e w' ⟨rfl, hw⟩; obtain rfl := hw.symm) | (go_at_call 64; refine (within_any _ _ _ _).mono ?_; rintro e w' ⟨rfl, hw⟩; obtain rfl := hw.symm))
    go_ret
    exact ⟨by first | rfl | (rw [hv]; rfl), rfl⟩
  by_cases c6 : c = 6
  · subst c6
    cases e1 : inB k 0 63
    · have hv : callB 6 k v = false := by simp [callB, e1]
      go_enter Try.func84, Try.ntmps84
      go_wp2_with (first | (go_at_call 80; refine (keyOk_any _ _).mono ?_; rintro e w' ⟨rfl, hw⟩; obtain rfl := hw.symm) | (go_at_call 64; refine (within_any _ _ _ _).mono ?_; rintro e w' ⟨rfl, hw⟩; obtain rfl := hw.symm))
      go_ret
      exact ⟨by first | rfl | (rw [hv]; rfl), rfl⟩
    have hv : callB 6 k v = (v == 0) := by simp [callB, e1]
    go_enter Try.func84, Try.ntmps84
    go_wp2_with (first | (go_at_call 80; refine (keyOk_any _ _).mono ?_; rintro e w' ⟨rfl, hw⟩; obtain rfl := hw.symm) | (go_at_call 64; refine (within_any _ _ _ _).mono ?_; rintro e w' ⟨rfl, hw⟩; obtain rfl := hw.symm))
    go_ret
    exact ⟨by first | rfl | (rw [hv]; rfl), rfl⟩
  by_cases c4 : c = 4
  · subst c4
    cases e1 : (k == -1)
    · have hv : callB 4 k v = false := by simp [callB, e1]
      go_enter Try.func84, Try.ntmps84
      go_wp2_with (first | (go_at_call 80; refine (keyOk_any _ _).mono ?_; rintro e w' ⟨rfl, hw⟩; obtain rfl := hw.symm) | (go_at_call 64; refine (within_any _ _ _ _).mono ?_; rintro e w' ⟨rfl, hw⟩; obtain rfl := hw.symm))
      go_ret
      exact ⟨by first | rfl | (rw [hv]; rfl), rfl⟩
    have hv : callB 4 k v = (v == 0) := by simp [callB, e1]
    go_enter Try.func84, Try.ntmps84
    go_wp2_with (first | (go_at_call 80; refine (keyOk_any _ _).mono ?_; rintro e w' ⟨rfl, hw⟩; obtain rfl := hw.symm) | (go_at_call 64; refine (within_any _ _ _ _).mono ?_; rintro e w' ⟨rfl, hw⟩; obtain rfl := hw.symm))
    go_ret
    exact ⟨by first | rfl | (rw [hv]; rfl), rfl⟩
  by_cases c5 : c = 5
  · subst c5
    cases e1 : (k == -1)
    · have hv : callB 5 k v = false := by simp [callB, e1]
      go_enter Try.func84, Try.ntmps84
      go_wp2_with (first | (go_at_call 80; refine (keyOk_any _ _).mono ?_; rintro e w' ⟨rfl, hw⟩; obtain rfl := hw.symm) | (go_at_call 64; refine (within_any _ _ _ _).mono ?_; rintro e w' ⟨rfl, hw⟩; obtain rfl := hw.symm))
      go_ret
      exact ⟨by first | rfl | (rw [hv]; rfl), rfl⟩
    have hv : callB 5 k v = (v == 0) := by simp [callB, e1]
    go_enter Try.func84, Try.ntmps84
    go_wp2_with (first | (go_at_call 80; refine (keyOk_any _ _).mono ?_; rintro e w' ⟨rfl, hw⟩; obtain rfl := hw.symm) | (go_at_call 64; refine (within_any _ _ _ _).mono ?_; rintro e w' ⟨rfl, hw⟩; obtain rfl := hw.symm))
    go_ret
    exact ⟨by first | rfl | (rw [hv]; rfl), rfl⟩
  by_cases c8 : c = 8
  · subst c8
    cases e1 : (k == -1)
    · have hv : callB 8 k v = false := by simp [callB, e1]
      go_enter Try.func84, Try.ntmps84
      go_wp2_with (first | (go_at_call 80; refine (keyOk_any _ _).mono ?_; rintro e w' ⟨rfl, hw⟩; obtain rfl := hw.symm) | (go_at_call 64; refine (within_any _ _ _ _).mono ?_; rintro e w' ⟨rfl, hw⟩; obtain rfl := hw.symm))
      go_ret
      exact ⟨by first | rfl | (rw [hv]; rfl), rfl⟩
    have hv : callB 8 k v = (v == 0) := by simp [callB, e1]
    go_enter Try.func84, Try.ntmps84
    go_wp2_with (first | (go_at_call 80; refine (keyOk_any _ _).mono ?_; rintro e w' ⟨rfl, hw⟩; obtain rfl := hw.symm) | (go_at_call 64; refine (within_any _ _ _ _).mono ?_; rintro e w' ⟨rfl, hw⟩; obtain rfl := hw.symm))
    go_ret
    exact ⟨by first | rfl | (rw [hv]; rfl), rfl⟩
  have b1 : (c == 1) = false := by simp [c1]
  have b2 : (c == 2) = false := by simp [c2]
  have b3 : (c == 3) = false := by simp [c3]
  have b4 : (c == 4) = false := by simp [c4]
  have b5 : (c == 5) = false := by simp [c5]
  have b6 : (c == 6) = false := by simp [c6]
  have b7 : (c == 7) = false := by simp [c7]
  have b8 : (c == 8) = false := by simp [c8]
  have hv : callB c k v = false := by simp [callB, c1, c2, c3, c4, c5, c6, c7, c8]
  go_enter Try.func84, Try.ntmps84
  go_wp2_with (first | (go_at_call 80; refine (keyOk_any _ _).mono ?_; rintro e w' ⟨rfl, hw⟩; obtain rfl := hw.symm) | (go_at_call 64; refine (within_any _ _ _ _).mono ?_; rintro e w' ⟨rfl, hw⟩; obtain rfl := hw.symm))
  go_ret
  exact ⟨by first | rfl | (rw [hv]; rfl), rfl⟩

theorem callFits_any (c k v : Int) (w : World) :
    Calls Try.prog 84 #[.int .i64 c, .int .i64 k, .int .i64 v] w fun e w' => e = .returned (.bool (callB c k v)) ∧ Below w.heap.size w w' :=
  (callFits_is c k v w).mono fun e w' h => ⟨h.1, by rw [h.2]; exact Below.refl _ _⟩

/-- Does a call ask of a picture? -/
def asksB (c : Int) : Bool := (c == 5) || (c == 6) || (c == 7)
theorem asks_any (c : Int) (w : World) : Calls Try.prog 85 #[.int .i64 c] w fun e w' => e = .returned (.bool (asksB c)) ∧ w' = w := by
  by_cases c5 : c = 5
  · subst c5
    go_enter Try.func85, Try.ntmps85
    go_wp2
    go_ret
    exact ⟨by first | rfl | (rw [hv]; rfl), rfl⟩
  by_cases c6 : c = 6
  · subst c6
    go_enter Try.func85, Try.ntmps85
    go_wp2
    go_ret
    exact ⟨by first | rfl | (rw [hv]; rfl), rfl⟩
  by_cases c7 : c = 7
  · subst c7
    go_enter Try.func85, Try.ntmps85
    go_wp2
    go_ret
    exact ⟨by first | rfl | (rw [hv]; rfl), rfl⟩
  have b5 : (c == 5) = false := by simp [c5]
  have b6 : (c == 6) = false := by simp [c6]
  have b7 : (c == 7) = false := by simp [c7]
  have hv : asksB c = false := by simp [asksB, b5, b6, b7]
  go_enter Try.func85, Try.ntmps85
  go_wp2
  go_ret
  exact ⟨by first | rfl | (rw [hv]; rfl), rfl⟩

theorem begin_any (c : Int) (hc : c = 1 ∨ c = 2 ∨ c = 3 ∨ c = 4 ∨ c = 5 ∨ c = 6 ∨ c = 7 ∨ c = 8) (w : World) : Calls Try.prog 55 #[.int .i64 c] w fun e w' => e = .returned (.tuple #[.int .i64 (atFor c), .int .i64 (thenFor c)]) ∧ w' = w := by
  rcases hc with rfl | rfl | rfl | rfl | rfl | rfl | rfl | rfl
  · go_enter Try.func55, Try.ntmps55
    go_wp2
    go_ret2
    exact ⟨rfl, rfl⟩
  · go_enter Try.func55, Try.ntmps55
    go_wp2
    go_ret2
    exact ⟨rfl, rfl⟩
  · go_enter Try.func55, Try.ntmps55
    go_wp2
    go_ret2
    exact ⟨rfl, rfl⟩
  · go_enter Try.func55, Try.ntmps55
    go_wp2
    go_ret2
    exact ⟨rfl, rfl⟩
  · go_enter Try.func55, Try.ntmps55
    go_wp2
    go_ret2
    exact ⟨rfl, rfl⟩
  · go_enter Try.func55, Try.ntmps55
    go_wp2
    go_ret2
    exact ⟨rfl, rfl⟩
  · go_enter Try.func55, Try.ntmps55
    go_wp2
    go_ret2
    exact ⟨rfl, rfl⟩
  · go_enter Try.func55, Try.ntmps55
    go_wp2
    go_ret2
    exact ⟨rfl, rfl⟩

set_option maxRecDepth 100000 in
set_option maxHeartbeats 4000000 in
theorem refusal_any (x y z u : Int) (h : Hd) (c k v : Int) (w : World) :
    Calls Try.prog 53 #[.agg (hdC h).toArray, .agg #[.int .i64 x, .int .i64 y, .int .i64 z, .int .i64 u], .int .i64 c, .int .i64 k, .int .i64 v] w fun e w' => e = .returned (.int .i64 (codeOf x y z u h c k v)) ∧ Below w.heap.size w w' := by
  show Calls Try.prog 53 #[.agg #[.int .i64 h.at_, .int .i64 h.then_, .int .i64 h.code, .int .i64 h.key, .int .i64 h.value, .int .i64 h.begin, .int .i64 h.reply, .int .i64 h.out, .int .i64 h.sum, .int .i64 h.held, .int .i64 h.x_, .int .i64 h.ver, .int .i64 h.cam, .int .i64 h.camAt, .int .i64 h.pred, .int .i64 h.predVer, .int .i64 h.curr, .int .i64 h.currVer, .int .i64 h.new_, .int .i64 h.least, .int .i64 h.index, .int .i64 h.round], .agg #[.int .i64 x, .int .i64 y, .int .i64 z, .int .i64 u], .int .i64 c, .int .i64 k, .int .i64 v] w fun e w' => e = .returned (.int .i64 (codeOf x y z u h c k v)) ∧ Below w.heap.size w w'
  have P0 := planAt_alloc (w.alloc (.cells (hdC h).toArray 38)) x y z u 30
  have X0 := World.rangeAt_alloc (rangeAt_new w (hdC h) 38) (.cells #[.int .i64 x, .int .i64 y, .int .i64 z, .int .i64 u] 30)
  have K0 := ((Below.refl w.heap.size w).alloc (Nat.le_refl _) (.cells (hdC h).toArray 38)).alloc (by simp) (.cells #[.int .i64 x, .int .i64 y, .int .i64 z, .int .i64 u] 30)
  have hz0 : w.heap.size < ((w.alloc (.cells (hdC h).toArray 38)).alloc (.cells #[.int .i64 x, .int .i64 y, .int .i64 z, .int .i64 u] 30)).heap.size := by simp; omega
  simp only [World.size_alloc] at X0 P0
  obtain ⟨p0, p1, p2, p3⟩ := id P0
  go_enter Try.func53, Try.ntmps53
  go_wp2_with (refine wpList_load_mid rfl 38 (.tmp 5) rfl w.heap.size 0 rfl (hdC h) _ ?hc Try.underlying38 rfl (sizeHandL h) ?_)
  case hc => exact X0
  change Calls Try.prog _ _ ((w.alloc (.cells (hdC h).toArray 38)).alloc (.cells #[.int .i64 x, .int .i64 y, .int .i64 z, .int .i64 u] 30)) _
  generalize hw0 : (w.alloc (.cells (hdC h).toArray 38)).alloc (.cells #[.int .i64 x, .int .i64 y, .int .i64 z, .int .i64 u] 30) = w0 at *
  clear hw0 p0 p1 p2 p3 P0
  refine (handOk_any x y z u h _).mono ?_
  rintro e w1 ⟨rfl, b1⟩
  have X1 := rangeAt_below X0 b1 hz0
  have K1 := K0.trans (b1.mono (by omega))
  clear X0 K0 b1 hz0
  have q0 : w1.cell? ⟨w.heap.size, 0, none⟩ = some (.int .i64 h.at_) := by simpa using X1 0 (.int .i64 h.at_) rfl
  have q9 : w1.cell? ⟨w.heap.size, 9, none⟩ = some (.int .i64 h.held) := by simpa using X1 9 (.int .i64 h.held) rfl
  clear X1
  cases e1 : handB x y z u h
  · have hv : codeOf x y z u h c k v = 5 := by simp [codeOf, e1]
    go_wp2
    go_ret
    exact ⟨by first | rfl | (rw [hv]; rfl), K1⟩
  have hheld : -1 ≤ h.held := by
    have e1' := e1
    simp only [handB, handFB, Bool.and_eq_true, inB_iff] at e1'
    omega
  by_cases e2 : h.at_ = 0
  case neg =>
    have hv : codeOf x y z u h c k v = 1 := by simp [codeOf, e1, e2]
    go_wp2
    go_ret
    exact ⟨by first | rfl | (rw [hv]; rfl), K1⟩
  cases e3 : callB c k v
  · have hv : codeOf x y z u h c k v = 2 := by simp [codeOf, e1, e2, e3]
    go_wp2_with (go_at_call 84; refine (callFits_is _ _ _ _).mono ?_; rintro e w' ⟨rfl, hw⟩; obtain rfl := hw.symm)
    go_ret
    exact ⟨by first | rfl | (rw [hv]; rfl), K1⟩
  by_cases e4 : h.held = -1
  · have e4' : h.held < 0 := by omega
    have e5 : ¬ (0 ≤ h.held) := by omega
    by_cases c5 : c = 5
    · subst c5
      have ha : asksB 5 = true := rfl
      have hv : codeOf x y z u h 5 k v = 3 := by simp [codeOf, e1, e2, e3, e4]
      clear e4' hheld
      go_wp2_with (first | (go_at_call 84; refine (callFits_is _ _ _ _).mono ?_; rintro e w' ⟨rfl, hw⟩; obtain rfl := hw.symm) | (go_at_call 85; refine (asks_any _ _).mono ?_; rintro e w' ⟨rfl, hw⟩; obtain rfl := hw.symm))
      go_ret
      exact ⟨by first | rfl | (rw [hv]; rfl), K1⟩
    by_cases c6 : c = 6
    · subst c6
      have ha : asksB 6 = true := rfl
      have hv : codeOf x y z u h 6 k v = 3 := by simp [codeOf, e1, e2, e3, e4]
      clear e4' hheld
      go_wp2_with (first | (go_at_call 84; refine (callFits_is _ _ _ _).mono ?_; rintro e w' ⟨rfl, hw⟩; obtain rfl := hw.symm) | (go_at_call 85; refine (asks_any _ _).mono ?_; rintro e w' ⟨rfl, hw⟩; obtain rfl := hw.symm))
      go_ret
      exact ⟨by first | rfl | (rw [hv]; rfl), K1⟩
    by_cases c7 : c = 7
    · subst c7
      have ha : asksB 7 = true := rfl
      have hv : codeOf x y z u h 7 k v = 3 := by simp [codeOf, e1, e2, e3, e4]
      clear e4' hheld
      go_wp2_with (first | (go_at_call 84; refine (callFits_is _ _ _ _).mono ?_; rintro e w' ⟨rfl, hw⟩; obtain rfl := hw.symm) | (go_at_call 85; refine (asks_any _ _).mono ?_; rintro e w' ⟨rfl, hw⟩; obtain rfl := hw.symm))
      go_ret
      exact ⟨by first | rfl | (rw [hv]; rfl), K1⟩
    have ha : asksB c = false := by simp [asksB, c5, c6, c7]
    by_cases c4 : c = 4
    · subst c4
      have hv : codeOf x y z u h 4 k v = 0 := by simp [codeOf, e1, e2, e3, e4]
      clear e4' hheld
      go_wp2_with (first | (go_at_call 84; refine (callFits_is _ _ _ _).mono ?_; rintro e w' ⟨rfl, hw⟩; obtain rfl := hw.symm) | (go_at_call 85; refine (asks_any _ _).mono ?_; rintro e w' ⟨rfl, hw⟩; obtain rfl := hw.symm))
      go_ret
      exact ⟨by first | rfl | (rw [hv]; rfl), K1⟩
    have b4 : (c == 4) = false := by simp [c4]
    have hv : codeOf x y z u h c k v = 0 := by simp [codeOf, e1, e2, e3, e5, c5, c6, c7]
    clear e4' hheld
    go_wp2_with (first | (go_at_call 84; refine (callFits_is _ _ _ _).mono ?_; rintro e w' ⟨rfl, hw⟩; obtain rfl := hw.symm) | (go_at_call 85; refine (asks_any _ _).mono ?_; rintro e w' ⟨rfl, hw⟩; obtain rfl := hw.symm))
    go_ret
    exact ⟨by first | rfl | (rw [hv]; rfl), K1⟩
  have e4' : ¬ h.held < 0 := by omega
  have e5 : 0 ≤ h.held := by omega
  have b9 : (h.held == -1) = false := by simp [e4]
  have b9' : (h.held != -1) = true := by simp [e4]
  by_cases c4 : c = 4
  · subst c4
    have ha : asksB 4 = false := rfl
    have hv : codeOf x y z u h 4 k v = 4 := by simp [codeOf, e1, e2, e3, e4', e5]
    clear e4' hheld
    go_wp2_with (first | (go_at_call 84; refine (callFits_is _ _ _ _).mono ?_; rintro e w' ⟨rfl, hw⟩; obtain rfl := hw.symm) | (go_at_call 85; refine (asks_any _ _).mono ?_; rintro e w' ⟨rfl, hw⟩; obtain rfl := hw.symm))
    go_ret
    exact ⟨by first | rfl | (rw [hv]; rfl), K1⟩
  have b4 : (c == 4) = false := by simp [c4]
  cases ha : asksB c
  · have hv : codeOf x y z u h c k v = 0 := by simp [codeOf, e1, e2, e3, e4', c4]
    clear e4' hheld
    go_wp2_with (first | (go_at_call 84; refine (callFits_is _ _ _ _).mono ?_; rintro e w' ⟨rfl, hw⟩; obtain rfl := hw.symm) | (go_at_call 85; refine (asks_any _ _).mono ?_; rintro e w' ⟨rfl, hw⟩; obtain rfl := hw.symm))
    go_ret
    exact ⟨by first | rfl | (rw [hv]; rfl), K1⟩
  have hv : codeOf x y z u h c k v = 0 := by simp [codeOf, e1, e2, e3, e4', c4]
  clear e4' hheld
  go_wp2_with (first | (go_at_call 84; refine (callFits_is _ _ _ _).mono ?_; rintro e w' ⟨rfl, hw⟩; obtain rfl := hw.symm) | (go_at_call 85; refine (asks_any _ _).mono ?_; rintro e w' ⟨rfl, hw⟩; obtain rfl := hw.symm))
  go_ret
  exact ⟨by first | rfl | (rw [hv]; rfl), K1⟩

set_option maxRecDepth 100000 in
set_option maxHeartbeats 4000000 in
theorem called_any (x y z u : Int) (h : Hd) (c k v : Int) (w : World) :
    Calls Try.prog 19 #[.agg #[.int .i64 x, .int .i64 y, .int .i64 z, .int .i64 u], .agg (hdC h).toArray, .int .i64 c, .int .i64 k, .int .i64 v] w fun e w' => e = .returned (.tuple #[.agg (hdC (calledOf x y z u h c k v)).toArray, .int .i64 (codeOf x y z u h c k v)]) ∧ Below w.heap.size w w' := by
  show Calls Try.prog 19 #[.agg #[.int .i64 x, .int .i64 y, .int .i64 z, .int .i64 u], .agg #[.int .i64 h.at_, .int .i64 h.then_, .int .i64 h.code, .int .i64 h.key, .int .i64 h.value, .int .i64 h.begin, .int .i64 h.reply, .int .i64 h.out, .int .i64 h.sum, .int .i64 h.held, .int .i64 h.x_, .int .i64 h.ver, .int .i64 h.cam, .int .i64 h.camAt, .int .i64 h.pred, .int .i64 h.predVer, .int .i64 h.curr, .int .i64 h.currVer, .int .i64 h.new_, .int .i64 h.least, .int .i64 h.index, .int .i64 h.round], .int .i64 c, .int .i64 k, .int .i64 v] w fun e w' => e = .returned (.tuple #[.agg (hdC (calledOf x y z u h c k v)).toArray, .int .i64 (codeOf x y z u h c k v)]) ∧ Below w.heap.size w w'
  have P0 := ((planAt_alloc w x y z u 30).below ((Below.refl _ _).alloc (Nat.le_refl _) (.cells (hdC h).toArray 38)) (by simp)).below ((Below.refl _ _).alloc (Nat.le_refl _) (.cells #[.int .i64 0, .int .i64 0, .int .i64 0, .int .i64 0, .int .i64 0, .int .i64 0, .int .i64 0, .int .i64 0, .int .i64 0, .int .i64 0, .int .i64 0, .int .i64 0, .int .i64 0, .int .i64 0, .int .i64 0, .int .i64 0, .int .i64 0, .int .i64 0, .int .i64 0, .int .i64 0, .int .i64 0, .int .i64 0] 38)) (by simp; omega)
  have X0 := World.rangeAt_alloc (rangeAt_new (w.alloc (.cells #[.int .i64 x, .int .i64 y, .int .i64 z, .int .i64 u] 30)) (hdC h) 38) (.cells #[.int .i64 0, .int .i64 0, .int .i64 0, .int .i64 0, .int .i64 0, .int .i64 0, .int .i64 0, .int .i64 0, .int .i64 0, .int .i64 0, .int .i64 0, .int .i64 0, .int .i64 0, .int .i64 0, .int .i64 0, .int .i64 0, .int .i64 0, .int .i64 0, .int .i64 0, .int .i64 0, .int .i64 0, .int .i64 0] 38)
  have F0 := there_new ((w.alloc (.cells #[.int .i64 x, .int .i64 y, .int .i64 z, .int .i64 u] 30)).alloc (.cells (hdC h).toArray 38)) #[.int .i64 0, .int .i64 0, .int .i64 0, .int .i64 0, .int .i64 0, .int .i64 0, .int .i64 0, .int .i64 0, .int .i64 0, .int .i64 0, .int .i64 0, .int .i64 0, .int .i64 0, .int .i64 0, .int .i64 0, .int .i64 0, .int .i64 0, .int .i64 0, .int .i64 0, .int .i64 0, .int .i64 0, .int .i64 0] 38 22 (by decide)
  have K0 := (((Below.refl w.heap.size w).alloc (Nat.le_refl _) (.cells #[.int .i64 x, .int .i64 y, .int .i64 z, .int .i64 u] 30)).alloc (by simp) (.cells (hdC h).toArray 38)).alloc (by simp; omega) (.cells #[.int .i64 0, .int .i64 0, .int .i64 0, .int .i64 0, .int .i64 0, .int .i64 0, .int .i64 0, .int .i64 0, .int .i64 0, .int .i64 0, .int .i64 0, .int .i64 0, .int .i64 0, .int .i64 0, .int .i64 0, .int .i64 0, .int .i64 0, .int .i64 0, .int .i64 0, .int .i64 0, .int .i64 0, .int .i64 0] 38)
  have hz0 : w.heap.size + 1 + 1 < (((w.alloc (.cells #[.int .i64 x, .int .i64 y, .int .i64 z, .int .i64 u] 30)).alloc (.cells (hdC h).toArray 38)).alloc (.cells #[.int .i64 0, .int .i64 0, .int .i64 0, .int .i64 0, .int .i64 0, .int .i64 0, .int .i64 0, .int .i64 0, .int .i64 0, .int .i64 0, .int .i64 0, .int .i64 0, .int .i64 0, .int .i64 0, .int .i64 0, .int .i64 0, .int .i64 0, .int .i64 0, .int .i64 0, .int .i64 0, .int .i64 0, .int .i64 0] 38)).heap.size := by simp
  simp only [World.size_alloc] at X0 F0
  obtain ⟨p0, p1, p2, p3⟩ := id P0
  go_enter Try.func19, Try.ntmps19
  go_wp2_with (refine wpList_load_mid rfl 38 (.tmp 6) rfl (w.heap.size + 1) 0 rfl (hdC h) _ ?hc Try.underlying38 rfl (sizeHandL h) ?_)
  case hc => exact X0
  change Calls Try.prog _ _ (((w.alloc (.cells #[.int .i64 x, .int .i64 y, .int .i64 z, .int .i64 u] 30)).alloc (.cells (hdC h).toArray 38)).alloc (.cells #[.int .i64 0, .int .i64 0, .int .i64 0, .int .i64 0, .int .i64 0, .int .i64 0, .int .i64 0, .int .i64 0, .int .i64 0, .int .i64 0, .int .i64 0, .int .i64 0, .int .i64 0, .int .i64 0, .int .i64 0, .int .i64 0, .int .i64 0, .int .i64 0, .int .i64 0, .int .i64 0, .int .i64 0, .int .i64 0] 38)) _
  generalize hw0 : ((w.alloc (.cells #[.int .i64 x, .int .i64 y, .int .i64 z, .int .i64 u] 30)).alloc (.cells (hdC h).toArray 38)).alloc (.cells #[.int .i64 0, .int .i64 0, .int .i64 0, .int .i64 0, .int .i64 0, .int .i64 0, .int .i64 0, .int .i64 0, .int .i64 0, .int .i64 0, .int .i64 0, .int .i64 0, .int .i64 0, .int .i64 0, .int .i64 0, .int .i64 0, .int .i64 0, .int .i64 0, .int .i64 0, .int .i64 0, .int .i64 0, .int .i64 0] 38) = w0 at *
  clear hw0 p0 p1 p2 p3 P0
  refine (refusal_any x y z u h c k v _).mono ?_
  rintro e w1 ⟨rfl, b1⟩
  have X1 := rangeAt_below X0 b1 (by omega)
  have F1 := there_below F0 b1 (by omega)
  have K1 := K0.trans (b1.mono (by omega))
  have hz1 := Nat.lt_of_lt_of_le hz0 b1.size
  clear X0 F0 K0 b1 hz0
  by_cases e5 : codeOf x y z u h c k v = 5
  · have hv : calledOf x y z u h c k v = zeroH := by simp [calledOf, e5]
    rw [e5]
    have hq : Hid (calledOf x y z u h c k v = zeroH ∧ codeOf x y z u h c k v = 5) := ⟨hv, e5⟩
    clear hv e5
    go_wp2_with (refine wpList_store_mid rfl 38 (.tmp 10) (.tmp 43) rfl (w.heap.size + 1 + 1) 0 _ rfl rfl ?ht ?hi ?h1 ?_)
    case ht => exact F1
    case hi => exact sizeHand zeroH
    case h1 => exact oneHand zeroH
    refine bodyPost_ret (v := .tuple #[.agg (hdC zeroH).toArray, .int .i64 5]) ?_ rfl ⟨by rw [hq.out.1, hq.out.2], ?_⟩
    · exact results_row_tmp Try.results19 _ _ (w.heap.size + 1 + 1) 0 rfl (hdC zeroH) _ (World.rangeAt_setCells_same _ _ _ _ F1) Try.underlying38 rfl (sizeHandL zeroH)
    · exact Below.setCells (by omega) _ _ _ K1
  by_cases e0 : codeOf x y z u h c k v = 0
  case neg =>
    have hv : calledOf x y z u h c k v = h := by simp [calledOf, e5, e0]
    have hq : Hid (calledOf x y z u h c k v = h) := hv
    have b0 : (codeOf x y z u h c k v == 0) = false := by simp [e0]
    have b5 : (codeOf x y z u h c k v == 5) = false := by simp [e5]
    clear hv e0 e5
    go_wp2_with (first | (refine wpList_load_mid rfl 38 (.tmp 6) rfl (w.heap.size + 1) 0 rfl (hdC h) _ ?hc Try.underlying38 rfl (sizeHandL h) ?_) | (refine wpList_store_mid rfl 38 (.tmp 10) (.tmp 21) rfl (w.heap.size + 1 + 1) 0 _ rfl rfl ?ht ?hi ?h1 ?_))
    case hc => exact X1
    case ht => exact F1
    case hi => exact sizeHand h
    case h1 => exact oneHand h
    refine bodyPost_ret (v := .tuple #[.agg (hdC h).toArray, .int .i64 (codeOf x y z u h c k v)]) ?_ rfl ⟨by rw [hq.out], ?_⟩
    · exact results_row_tmp Try.results19 _ _ (w.heap.size + 1 + 1) 0 rfl (hdC h) _ (World.rangeAt_setCells_same _ _ _ _ F1) Try.underlying38 rfl (sizeHandL h)
    · exact Below.setCells (by omega) _ _ _ K1
  have hv : calledOf x y z u h c k v = askedH h c k v := by simp [calledOf, e0]
  obtain ⟨_, _, hfit, _, _⟩ := codeOf_zero e0
  rw [e0]
  have hq : Hid (calledOf x y z u h c k v = askedH h c k v ∧ codeOf x y z u h c k v = 0) := ⟨hv, e0⟩
  clear hv e0 e5
  go_wp2_with (refine wpList_load_mid rfl 38 (.tmp 6) rfl (w.heap.size + 1) 0 rfl (hdC h) _ ?hc Try.underlying38 rfl (sizeHandL h) ?_)
  case hc => exact X1
  refine (resting_any h 0 0 0 _).mono ?_
  rintro e w2 ⟨rfl, b2⟩
  have F2 := there_below F1 b2 (by omega)
  have K2 := K1.trans (b2.mono (by omega))
  have hz2 := Nat.lt_of_lt_of_le hz1 b2.size
  clear X1 F1 K1 b2 hz1
  have hset : (w2.alloc (.cells #[.int .i64 0, .int .i64 0, .int .i64 0, .int .i64 0, .int .i64 0, .int .i64 0, .int .i64 0, .int .i64 0, .int .i64 0, .int .i64 0, .int .i64 0, .int .i64 0, .int .i64 0, .int .i64 0, .int .i64 0, .int .i64 0, .int .i64 0, .int .i64 0, .int .i64 0, .int .i64 0, .int .i64 0, .int .i64 0] 38)).setCells w2.heap.size 0 (hdC (restOf h 0 0 0)).toArray.toList = w2.alloc (.cells #[.int .i64 0, .int .i64 0, .int .i64 0, .int .i64 (-1), .int .i64 0, .int .i64 0, .int .i64 0, .int .i64 0, .int .i64 0, .int .i64 h.held, .int .i64 0, .int .i64 0, .int .i64 0, .int .i64 0, .int .i64 0, .int .i64 0, .int .i64 (-1), .int .i64 0, .int .i64 (-1), .int .i64 0, .int .i64 0, .int .i64 0] 38) := alloc_setCells w2 38 (hdC (restOf h 0 0 0)) [] [.int .i64 0, .int .i64 0, .int .i64 0, .int .i64 0, .int .i64 0, .int .i64 0, .int .i64 0, .int .i64 0, .int .i64 0, .int .i64 0, .int .i64 0, .int .i64 0, .int .i64 0, .int .i64 0, .int .i64 0, .int .i64 0, .int .i64 0, .int .i64 0, .int .i64 0, .int .i64 0, .int .i64 0, .int .i64 0] rfl
  have FA := there_new w2 #[.int .i64 0, .int .i64 0, .int .i64 0, .int .i64 0, .int .i64 0, .int .i64 0, .int .i64 0, .int .i64 0, .int .i64 0, .int .i64 0, .int .i64 0, .int .i64 0, .int .i64 0, .int .i64 0, .int .i64 0, .int .i64 0, .int .i64 0, .int .i64 0, .int .i64 0, .int .i64 0, .int .i64 0, .int .i64 0] 38 22 (by decide)
  have K3 := K2.alloc (by omega) (.cells (hdC (askedH h c k v)).toArray 38)
  have R3 := rangeAt_new w2 (hdC (askedH h c k v)) 38
  have F3 := World.there_alloc F2 (.cells (hdC (askedH h c k v)).toArray 38)
  rcases callB_codes hfit with rfl | rfl | rfl | rfl | rfl | rfl | rfl | rfl
  · go_wp2_with (first | (go_at_call 55; refine (begin_any 1 (by decide) _).mono ?_; rintro e w' ⟨rfl, hw⟩; obtain rfl := hw.symm) | (refine wpList_store_mid rfl 38 (.tmp 13) (.tmp 26) rfl w2.heap.size 0 _ rfl rfl FA (sizeHand (restOf h 0 0 0)) (oneHand _) ?_; rw [hset]) | (refine wpList_load_mid rfl 38 (.tmp 13) rfl w2.heap.size 0 rfl (hdC (askedH h 1 k v)) _ ?hc1 Try.underlying38 rfl (sizeHandL _) ?_) | (refine wpList_store_mid rfl 38 (.tmp 10) (.tmp 40) rfl (w.heap.size + 1 + 1) 0 _ rfl rfl ?ht1 ?hi1 ?h11 ?_))
    case hc1 => exact R3
    case ht1 => exact F3
    case hi1 => exact sizeHand _
    case h11 => exact oneHand _
    refine bodyPost_ret (v := .tuple #[.agg (hdC (askedH h 1 k v)).toArray, .int .i64 0]) ?_ rfl ⟨by rw [hq.out.1, hq.out.2], ?_⟩
    · exact results_row_tmp Try.results19 _ _ (w.heap.size + 1 + 1) 0 rfl (hdC (askedH h 1 k v)) _ (World.rangeAt_setCells_same _ _ _ _ F3) Try.underlying38 rfl (sizeHandL _)
    · exact Below.setCells (by omega) _ _ _ K3
  · go_wp2_with (first | (go_at_call 55; refine (begin_any 2 (by decide) _).mono ?_; rintro e w' ⟨rfl, hw⟩; obtain rfl := hw.symm) | (refine wpList_store_mid rfl 38 (.tmp 13) (.tmp 26) rfl w2.heap.size 0 _ rfl rfl FA (sizeHand (restOf h 0 0 0)) (oneHand _) ?_; rw [hset]) | (refine wpList_load_mid rfl 38 (.tmp 13) rfl w2.heap.size 0 rfl (hdC (askedH h 2 k v)) _ ?hc2 Try.underlying38 rfl (sizeHandL _) ?_) | (refine wpList_store_mid rfl 38 (.tmp 10) (.tmp 40) rfl (w.heap.size + 1 + 1) 0 _ rfl rfl ?ht2 ?hi2 ?h12 ?_))
    case hc2 => exact R3
    case ht2 => exact F3
    case hi2 => exact sizeHand _
    case h12 => exact oneHand _
    refine bodyPost_ret (v := .tuple #[.agg (hdC (askedH h 2 k v)).toArray, .int .i64 0]) ?_ rfl ⟨by rw [hq.out.1, hq.out.2], ?_⟩
    · exact results_row_tmp Try.results19 _ _ (w.heap.size + 1 + 1) 0 rfl (hdC (askedH h 2 k v)) _ (World.rangeAt_setCells_same _ _ _ _ F3) Try.underlying38 rfl (sizeHandL _)
    · exact Below.setCells (by omega) _ _ _ K3
  · go_wp2_with (first | (go_at_call 55; refine (begin_any 3 (by decide) _).mono ?_; rintro e w' ⟨rfl, hw⟩; obtain rfl := hw.symm) | (refine wpList_store_mid rfl 38 (.tmp 13) (.tmp 26) rfl w2.heap.size 0 _ rfl rfl FA (sizeHand (restOf h 0 0 0)) (oneHand _) ?_; rw [hset]) | (refine wpList_load_mid rfl 38 (.tmp 13) rfl w2.heap.size 0 rfl (hdC (askedH h 3 k v)) _ ?hc3 Try.underlying38 rfl (sizeHandL _) ?_) | (refine wpList_store_mid rfl 38 (.tmp 10) (.tmp 40) rfl (w.heap.size + 1 + 1) 0 _ rfl rfl ?ht3 ?hi3 ?h13 ?_))
    case hc3 => exact R3
    case ht3 => exact F3
    case hi3 => exact sizeHand _
    case h13 => exact oneHand _
    refine bodyPost_ret (v := .tuple #[.agg (hdC (askedH h 3 k v)).toArray, .int .i64 0]) ?_ rfl ⟨by rw [hq.out.1, hq.out.2], ?_⟩
    · exact results_row_tmp Try.results19 _ _ (w.heap.size + 1 + 1) 0 rfl (hdC (askedH h 3 k v)) _ (World.rangeAt_setCells_same _ _ _ _ F3) Try.underlying38 rfl (sizeHandL _)
    · exact Below.setCells (by omega) _ _ _ K3
  · go_wp2_with (first | (go_at_call 55; refine (begin_any 4 (by decide) _).mono ?_; rintro e w' ⟨rfl, hw⟩; obtain rfl := hw.symm) | (refine wpList_store_mid rfl 38 (.tmp 13) (.tmp 26) rfl w2.heap.size 0 _ rfl rfl FA (sizeHand (restOf h 0 0 0)) (oneHand _) ?_; rw [hset]) | (refine wpList_load_mid rfl 38 (.tmp 13) rfl w2.heap.size 0 rfl (hdC (askedH h 4 k v)) _ ?hc4 Try.underlying38 rfl (sizeHandL _) ?_) | (refine wpList_store_mid rfl 38 (.tmp 10) (.tmp 40) rfl (w.heap.size + 1 + 1) 0 _ rfl rfl ?ht4 ?hi4 ?h14 ?_))
    case hc4 => exact R3
    case ht4 => exact F3
    case hi4 => exact sizeHand _
    case h14 => exact oneHand _
    refine bodyPost_ret (v := .tuple #[.agg (hdC (askedH h 4 k v)).toArray, .int .i64 0]) ?_ rfl ⟨by rw [hq.out.1, hq.out.2], ?_⟩
    · exact results_row_tmp Try.results19 _ _ (w.heap.size + 1 + 1) 0 rfl (hdC (askedH h 4 k v)) _ (World.rangeAt_setCells_same _ _ _ _ F3) Try.underlying38 rfl (sizeHandL _)
    · exact Below.setCells (by omega) _ _ _ K3
  · go_wp2_with (first | (go_at_call 55; refine (begin_any 5 (by decide) _).mono ?_; rintro e w' ⟨rfl, hw⟩; obtain rfl := hw.symm) | (refine wpList_store_mid rfl 38 (.tmp 13) (.tmp 26) rfl w2.heap.size 0 _ rfl rfl FA (sizeHand (restOf h 0 0 0)) (oneHand _) ?_; rw [hset]) | (refine wpList_load_mid rfl 38 (.tmp 13) rfl w2.heap.size 0 rfl (hdC (askedH h 5 k v)) _ ?hc5 Try.underlying38 rfl (sizeHandL _) ?_) | (refine wpList_store_mid rfl 38 (.tmp 10) (.tmp 40) rfl (w.heap.size + 1 + 1) 0 _ rfl rfl ?ht5 ?hi5 ?h15 ?_))
    case hc5 => exact R3
    case ht5 => exact F3
    case hi5 => exact sizeHand _
    case h15 => exact oneHand _
    refine bodyPost_ret (v := .tuple #[.agg (hdC (askedH h 5 k v)).toArray, .int .i64 0]) ?_ rfl ⟨by rw [hq.out.1, hq.out.2], ?_⟩
    · exact results_row_tmp Try.results19 _ _ (w.heap.size + 1 + 1) 0 rfl (hdC (askedH h 5 k v)) _ (World.rangeAt_setCells_same _ _ _ _ F3) Try.underlying38 rfl (sizeHandL _)
    · exact Below.setCells (by omega) _ _ _ K3
  · go_wp2_with (first | (go_at_call 55; refine (begin_any 6 (by decide) _).mono ?_; rintro e w' ⟨rfl, hw⟩; obtain rfl := hw.symm) | (refine wpList_store_mid rfl 38 (.tmp 13) (.tmp 26) rfl w2.heap.size 0 _ rfl rfl FA (sizeHand (restOf h 0 0 0)) (oneHand _) ?_; rw [hset]) | (refine wpList_load_mid rfl 38 (.tmp 13) rfl w2.heap.size 0 rfl (hdC (askedH h 6 k v)) _ ?hc6 Try.underlying38 rfl (sizeHandL _) ?_) | (refine wpList_store_mid rfl 38 (.tmp 10) (.tmp 40) rfl (w.heap.size + 1 + 1) 0 _ rfl rfl ?ht6 ?hi6 ?h16 ?_))
    case hc6 => exact R3
    case ht6 => exact F3
    case hi6 => exact sizeHand _
    case h16 => exact oneHand _
    refine bodyPost_ret (v := .tuple #[.agg (hdC (askedH h 6 k v)).toArray, .int .i64 0]) ?_ rfl ⟨by rw [hq.out.1, hq.out.2], ?_⟩
    · exact results_row_tmp Try.results19 _ _ (w.heap.size + 1 + 1) 0 rfl (hdC (askedH h 6 k v)) _ (World.rangeAt_setCells_same _ _ _ _ F3) Try.underlying38 rfl (sizeHandL _)
    · exact Below.setCells (by omega) _ _ _ K3
  · go_wp2_with (first | (go_at_call 55; refine (begin_any 7 (by decide) _).mono ?_; rintro e w' ⟨rfl, hw⟩; obtain rfl := hw.symm) | (refine wpList_store_mid rfl 38 (.tmp 13) (.tmp 26) rfl w2.heap.size 0 _ rfl rfl FA (sizeHand (restOf h 0 0 0)) (oneHand _) ?_; rw [hset]) | (refine wpList_load_mid rfl 38 (.tmp 13) rfl w2.heap.size 0 rfl (hdC (askedH h 7 k v)) _ ?hc7 Try.underlying38 rfl (sizeHandL _) ?_) | (refine wpList_store_mid rfl 38 (.tmp 10) (.tmp 40) rfl (w.heap.size + 1 + 1) 0 _ rfl rfl ?ht7 ?hi7 ?h17 ?_))
    case hc7 => exact R3
    case ht7 => exact F3
    case hi7 => exact sizeHand _
    case h17 => exact oneHand _
    refine bodyPost_ret (v := .tuple #[.agg (hdC (askedH h 7 k v)).toArray, .int .i64 0]) ?_ rfl ⟨by rw [hq.out.1, hq.out.2], ?_⟩
    · exact results_row_tmp Try.results19 _ _ (w.heap.size + 1 + 1) 0 rfl (hdC (askedH h 7 k v)) _ (World.rangeAt_setCells_same _ _ _ _ F3) Try.underlying38 rfl (sizeHandL _)
    · exact Below.setCells (by omega) _ _ _ K3
  · go_wp2_with (first | (go_at_call 55; refine (begin_any 8 (by decide) _).mono ?_; rintro e w' ⟨rfl, hw⟩; obtain rfl := hw.symm) | (refine wpList_store_mid rfl 38 (.tmp 13) (.tmp 26) rfl w2.heap.size 0 _ rfl rfl FA (sizeHand (restOf h 0 0 0)) (oneHand _) ?_; rw [hset]) | (refine wpList_load_mid rfl 38 (.tmp 13) rfl w2.heap.size 0 rfl (hdC (askedH h 8 k v)) _ ?hc8 Try.underlying38 rfl (sizeHandL _) ?_) | (refine wpList_store_mid rfl 38 (.tmp 10) (.tmp 40) rfl (w.heap.size + 1 + 1) 0 _ rfl rfl ?ht8 ?hi8 ?h18 ?_))
    case hc8 => exact R3
    case ht8 => exact F3
    case hi8 => exact sizeHand _
    case h18 => exact oneHand _
    refine bodyPost_ret (v := .tuple #[.agg (hdC (askedH h 8 k v)).toArray, .int .i64 0]) ?_ rfl ⟨by rw [hq.out.1, hq.out.2], ?_⟩
    · exact results_row_tmp Try.results19 _ _ (w.heap.size + 1 + 1) 0 rfl (hdC (askedH h 8 k v)) _ (World.rangeAt_setCells_same _ _ _ _ F3) Try.underlying38 rfl (sizeHandL _)
    · exact Below.setCells (by omega) _ _ _ K3

end Go.Proofs.Ytcgjkodpmloccaa
