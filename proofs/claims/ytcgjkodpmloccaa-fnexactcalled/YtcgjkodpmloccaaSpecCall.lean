/-
  What the model says of calls (chapter 6), as contracts: whether a call fits, its code, and what it makes of a hand. For every plan, hand and numbers.
-/
import Derived.Test.YtcgjkodpmloccaaHands2
namespace Go.Proofs.Ytcgjkodpmloccaa
open Go.ChangeShapes Go.WideShapes Go.ChangeAt Go.RowKit
set_option linter.unusedVariables false
attribute [local go_sem ↓] Go.wp_at_zero Go.wp_at_succ

/-- Does a call fit? -/
def callB (c k v : Int) : Bool :=
  if c = 1 then inB k 0 63 && inB v 0 9999 else if c = 7 then inB k 0 63 && inB v 0 63 else if c = 2 ∨ c = 3 ∨ c = 6 then inB k 0 63 && (v == 0) else if c = 4 ∨ c = 5 ∨ c = 8 then (k == -1) && (v == 0) else false
/-- The code of a call. -/
def codeOf (x y z u : Int) (h : Hd) (c k v : Int) : Int :=
  if handB x y z u h = false then 5 else if h.at_ ≠ 0 then 1 else if callB c k v = false then 2 else if h.held < 0 ∧ (c = 5 ∨ c = 6 ∨ c = 7) then 3 else if 0 ≤ h.held ∧ c = 4 then 4 else 0
def zeroH : Hd := ⟨0, 0, 0, 0, 0, 0, 0, 0, 0, 0, 0, 0, 0, 0, 0, 0, 0, 0, 0, 0, 0, 0⟩
/-- Where a call begins. -/
def atFor (c : Int) : Int := if c = 1 ∨ c = 2 ∨ c = 3 then 1 else if c = 4 then 13 else if c = 5 then 18 else if c = 6 ∨ c = 7 then 2 else if c = 8 then 20 else 0
def thenFor (c : Int) : Int := if c = 6 ∨ c = 7 then 6 else 0
/-- A hand that has been asked. -/
def askedH (h : Hd) (c k v : Int) : Hd := ⟨atFor c, thenFor c, c, k, v, 0, 0, 0, 0, h.held, 0, 0, 0, 0, 0, 0, -1, 0, -1, 0, 0, 0⟩
def calledOf (x y z u : Int) (h : Hd) (c k v : Int) : Hd :=
  if codeOf x y z u h c k v = 5 then zeroH else if codeOf x y z u h c k v ≠ 0 then h else askedH h c k v

set_option maxRecDepth 100000 in
set_option maxHeartbeats 2000000 in
theorem specCallFits_any (c k v : Int) (w : World) :
    Calls Try.prog 82 #[.int .i64 c, .int .i64 k, .int .i64 v] w fun e w' => e = .returned (.bool (callB c k v)) ∧ w' = w := by
  by_cases c1 : c = 1
  · subst c1
    cases e1 : inB k 0 63
    · have hv : callB 1 k v = false := by simp [callB, e1]
      go_enter Try.func82, Try.ntmps82
      go_wp2_with (first | (go_at_call 104; refine (specKeyOk_any _ _).mono ?_; rintro e w' ⟨rfl, hw⟩; obtain rfl := hw.symm) | (go_at_call 43; refine (l1In_any _ _ _ _).mono ?_; rintro e w' ⟨rfl, hw⟩; obtain rfl := hw.symm))
      go_ret
      exact ⟨by first | rfl | (rw [hv]; rfl), rfl⟩
    have hv : callB 1 k v = inB v 0 9999 := by simp [callB, e1]
    go_enter Try.func82, Try.ntmps82
    go_wp2_with (first | (go_at_call 104; refine (specKeyOk_any _ _).mono ?_; rintro e w' ⟨rfl, hw⟩; obtain rfl := hw.symm) | (go_at_call 43; refine (l1In_any _ _ _ _).mono ?_; rintro e w' ⟨rfl, hw⟩; obtain rfl := hw.symm))
    go_ret
    exact ⟨by first | rfl | (rw [hv]; rfl), rfl⟩
  by_cases c7 : c = 7
  · subst c7
    cases e1 : inB k 0 63
    · have hv : callB 7 k v = false := by simp [callB, e1]
      go_enter Try.func82, Try.ntmps82
      go_wp2_with (first | (go_at_call 104; refine (specKeyOk_any _ _).mono ?_; rintro e w' ⟨rfl, hw⟩; obtain rfl := hw.symm) | (go_at_call 43; refine (l1In_any _ _ _ _).mono ?_; rintro e w' ⟨rfl, hw⟩; obtain rfl := hw.symm))
      go_ret
      exact ⟨by first | rfl | (rw [hv]; rfl), rfl⟩
    have hv : callB 7 k v = inB v 0 63 := by simp [callB, e1]
    go_enter Try.func82, Try.ntmps82
    go_wp2_with (first | (go_at_call 104; refine (specKeyOk_any _ _).mono ?_; rintro e w' ⟨rfl, hw⟩; obtain rfl := hw.symm) | (go_at_call 43; refine (l1In_any _ _ _ _).mono ?_; rintro e w' ⟨rfl, hw⟩; obtain rfl := hw.symm))
    go_ret
    exact ⟨by first | rfl | (rw [hv]; rfl), rfl⟩
  by_cases c2 : c = 2
  · subst c2
    cases e1 : inB k 0 63
    · have hv : callB 2 k v = false := by simp [callB, e1]
      go_enter Try.func82, Try.ntmps82
      go_wp2_with (first | (go_at_call 104; refine (specKeyOk_any _ _).mono ?_; rintro e w' ⟨rfl, hw⟩; obtain rfl := hw.symm) | (go_at_call 43; refine (l1In_any _ _ _ _).mono ?_; rintro e w' ⟨rfl, hw⟩; obtain rfl := hw.symm))
      go_ret
      exact ⟨by first | rfl | (rw [hv]; rfl), rfl⟩
    have hv : callB 2 k v = (v == 0) := by simp [callB, e1]
    go_enter Try.func82, Try.ntmps82
    go_wp2_with (first | (go_at_call 104; refine (specKeyOk_any _ _).mono ?_; rintro e w' ⟨rfl, hw⟩; obtain rfl := hw.symm) | (go_at_call 43; refine (l1In_any _ _ _ _).mono ?_; rintro e w' ⟨rfl, hw⟩; obtain rfl := hw.symm))
    go_ret
    exact ⟨by first | rfl | (rw [hv]; rfl), rfl⟩
  by_cases c3 : c = 3
  · subst c3
    cases e1 : inB k 0 63
    · have hv : callB 3 k v = false := by simp [callB, e1]
      go_enter Try.func82, Try.ntmps82
      go_wp2_with (first | (go_at_call 104; refine (specKeyOk_any _ _).mono ?_; rintro e w' ⟨rfl, hw⟩; obtain rfl := hw.symm) | (go_at_call 43; refine (l1In_any _ _ _ _).mono ?_; rintro e w' ⟨rfl, hw⟩; obtain rfl := hw.symm))
      go_ret
      exact ⟨by first | rfl | (rw [hv]; rfl), rfl⟩
    have hv : callB 3 k v = (v == 0) := by simp [callB, e1]
    go_enter Try.func82, Try.ntmps82
    go_wp2_with (first | (go_at_call 104; refine (specKeyOk_any _ _).mono ?_; rintro e w' ⟨rfl, hw⟩; obtain rfl := hw.symm) | (go_at_call 43; refine (l1In_any _ _ _ _).mono ?_; rintro e w' ⟨rfl, hw⟩; obtain rfl := hw.symm))
    go_ret
    exact ⟨by first | rfl | (rw [hv]; rfl), rfl⟩
  by_cases c6 : c = 6
  · subst c6
    cases e1 : inB k 0 63
    · have hv : callB 6 k v = false := by simp [callB, e1]
      go_enter Try.func82, Try.ntmps82
      go_wp2_with (first | (go_at_call 104; refine (specKeyOk_any _ _).mono ?_; rintro e w' ⟨rfl, hw⟩; obtain rfl := hw.symm) | (go_at_call 43; refine (l1In_any _ _ _ _).mono ?_; rintro e w' ⟨rfl, hw⟩; obtain rfl := hw.symm))
      go_ret
      exact ⟨by first | rfl | (rw [hv]; rfl), rfl⟩
    have hv : callB 6 k v = (v == 0) := by simp [callB, e1]
    go_enter Try.func82, Try.ntmps82
    go_wp2_with (first | (go_at_call 104; refine (specKeyOk_any _ _).mono ?_; rintro e w' ⟨rfl, hw⟩; obtain rfl := hw.symm) | (go_at_call 43; refine (l1In_any _ _ _ _).mono ?_; rintro e w' ⟨rfl, hw⟩; obtain rfl := hw.symm))
    go_ret
    exact ⟨by first | rfl | (rw [hv]; rfl), rfl⟩
  by_cases c4 : c = 4
  · subst c4
    cases e1 : (k == -1)
    · have hv : callB 4 k v = false := by simp [callB, e1]
      go_enter Try.func82, Try.ntmps82
      go_wp2_with (first | (go_at_call 104; refine (specKeyOk_any _ _).mono ?_; rintro e w' ⟨rfl, hw⟩; obtain rfl := hw.symm) | (go_at_call 43; refine (l1In_any _ _ _ _).mono ?_; rintro e w' ⟨rfl, hw⟩; obtain rfl := hw.symm))
      go_ret
      exact ⟨by first | rfl | (rw [hv]; rfl), rfl⟩
    have hv : callB 4 k v = (v == 0) := by simp [callB, e1]
    go_enter Try.func82, Try.ntmps82
    go_wp2_with (first | (go_at_call 104; refine (specKeyOk_any _ _).mono ?_; rintro e w' ⟨rfl, hw⟩; obtain rfl := hw.symm) | (go_at_call 43; refine (l1In_any _ _ _ _).mono ?_; rintro e w' ⟨rfl, hw⟩; obtain rfl := hw.symm))
    go_ret
    exact ⟨by first | rfl | (rw [hv]; rfl), rfl⟩
  by_cases c5 : c = 5
  · subst c5
    cases e1 : (k == -1)
    · have hv : callB 5 k v = false := by simp [callB, e1]
      go_enter Try.func82, Try.ntmps82
      go_wp2_with (first | (go_at_call 104; refine (specKeyOk_any _ _).mono ?_; rintro e w' ⟨rfl, hw⟩; obtain rfl := hw.symm) | (go_at_call 43; refine (l1In_any _ _ _ _).mono ?_; rintro e w' ⟨rfl, hw⟩; obtain rfl := hw.symm))
      go_ret
      exact ⟨by first | rfl | (rw [hv]; rfl), rfl⟩
    have hv : callB 5 k v = (v == 0) := by simp [callB, e1]
    go_enter Try.func82, Try.ntmps82
    go_wp2_with (first | (go_at_call 104; refine (specKeyOk_any _ _).mono ?_; rintro e w' ⟨rfl, hw⟩; obtain rfl := hw.symm) | (go_at_call 43; refine (l1In_any _ _ _ _).mono ?_; rintro e w' ⟨rfl, hw⟩; obtain rfl := hw.symm))
    go_ret
    exact ⟨by first | rfl | (rw [hv]; rfl), rfl⟩
  by_cases c8 : c = 8
  · subst c8
    cases e1 : (k == -1)
    · have hv : callB 8 k v = false := by simp [callB, e1]
      go_enter Try.func82, Try.ntmps82
      go_wp2_with (first | (go_at_call 104; refine (specKeyOk_any _ _).mono ?_; rintro e w' ⟨rfl, hw⟩; obtain rfl := hw.symm) | (go_at_call 43; refine (l1In_any _ _ _ _).mono ?_; rintro e w' ⟨rfl, hw⟩; obtain rfl := hw.symm))
      go_ret
      exact ⟨by first | rfl | (rw [hv]; rfl), rfl⟩
    have hv : callB 8 k v = (v == 0) := by simp [callB, e1]
    go_enter Try.func82, Try.ntmps82
    go_wp2_with (first | (go_at_call 104; refine (specKeyOk_any _ _).mono ?_; rintro e w' ⟨rfl, hw⟩; obtain rfl := hw.symm) | (go_at_call 43; refine (l1In_any _ _ _ _).mono ?_; rintro e w' ⟨rfl, hw⟩; obtain rfl := hw.symm))
    go_ret
    exact ⟨by first | rfl | (rw [hv]; rfl), rfl⟩
  have hv : callB c k v = false := by simp [callB, c1, c2, c3, c4, c5, c6, c7, c8]
  go_enter Try.func82, Try.ntmps82
  go_wp2_with (first | (go_at_call 104; refine (specKeyOk_any _ _).mono ?_; rintro e w' ⟨rfl, hw⟩; obtain rfl := hw.symm) | (go_at_call 43; refine (l1In_any _ _ _ _).mono ?_; rintro e w' ⟨rfl, hw⟩; obtain rfl := hw.symm))
  go_ret
  exact ⟨by first | rfl | (rw [hv]; rfl), rfl⟩

set_option maxRecDepth 100000 in
set_option maxHeartbeats 4000000 in
theorem l6Code_any (x y z u : Int) (h : Hd) (c k v : Int) (w : World) :
    Calls Try.prog 51 #[.agg #[.int .i64 x, .int .i64 y, .int .i64 z, .int .i64 u], .agg (hdC h).toArray, .int .i64 c, .int .i64 k, .int .i64 v] w fun e w' => e = .returned (.int .i64 (codeOf x y z u h c k v)) ∧ Below w.heap.size w w' := by
  show Calls Try.prog 51 #[.agg #[.int .i64 x, .int .i64 y, .int .i64 z, .int .i64 u], .agg #[.int .i64 h.at_, .int .i64 h.then_, .int .i64 h.code, .int .i64 h.key, .int .i64 h.value, .int .i64 h.begin, .int .i64 h.reply, .int .i64 h.out, .int .i64 h.sum, .int .i64 h.held, .int .i64 h.x_, .int .i64 h.ver, .int .i64 h.cam, .int .i64 h.camAt, .int .i64 h.pred, .int .i64 h.predVer, .int .i64 h.curr, .int .i64 h.currVer, .int .i64 h.new_, .int .i64 h.least, .int .i64 h.index, .int .i64 h.round], .int .i64 c, .int .i64 k, .int .i64 v] w fun e w' => e = .returned (.int .i64 (codeOf x y z u h c k v)) ∧ Below w.heap.size w w'
  have P0 := (planAt_alloc w x y z u 30).below ((Below.refl _ _).alloc (Nat.le_refl _) (.cells (hdC h).toArray 38)) (by simp)
  have X0 := rangeAt_new (w.alloc (.cells #[.int .i64 x, .int .i64 y, .int .i64 z, .int .i64 u] 30)) (hdC h) 38
  have K0 := ((Below.refl w.heap.size w).alloc (Nat.le_refl _) (.cells #[.int .i64 x, .int .i64 y, .int .i64 z, .int .i64 u] 30)).alloc (by simp) (.cells (hdC h).toArray 38)
  have hz0 : w.heap.size + 1 < ((w.alloc (.cells #[.int .i64 x, .int .i64 y, .int .i64 z, .int .i64 u] 30)).alloc (.cells (hdC h).toArray 38)).heap.size := by simp
  simp only [World.size_alloc] at X0
  obtain ⟨p0, p1, p2, p3⟩ := id P0
  go_enter Try.func51, Try.ntmps51
  go_wp2_with (refine wpList_load_mid rfl 38 (.tmp 6) rfl (w.heap.size + 1) 0 rfl (hdC h) _ ?hc Try.underlying38 rfl (sizeHandL h) ?_)
  case hc => exact X0
  change Calls Try.prog _ _ ((w.alloc (.cells #[.int .i64 x, .int .i64 y, .int .i64 z, .int .i64 u] 30)).alloc (.cells (hdC h).toArray 38)) _
  generalize hw0 : (w.alloc (.cells #[.int .i64 x, .int .i64 y, .int .i64 z, .int .i64 u] 30)).alloc (.cells (hdC h).toArray 38) = w0 at *
  clear hw0 p0 p1 p2 p3 P0
  refine (specHandOk_any x y z u h _).mono ?_
  rintro e w1 ⟨rfl, b1⟩
  have X1 := rangeAt_below X0 b1 hz0
  have K1 := K0.trans (b1.mono (by omega))
  clear X0 K0 b1 hz0
  have q0 : w1.cell? ⟨w.heap.size + 1, 0, none⟩ = some (.int .i64 h.at_) := by simpa using X1 0 (.int .i64 h.at_) rfl
  have q9 : w1.cell? ⟨w.heap.size + 1, 9, none⟩ = some (.int .i64 h.held) := by simpa using X1 9 (.int .i64 h.held) rfl
  clear X1
  cases e1 : handB x y z u h
  · have hv : codeOf x y z u h c k v = 5 := by simp [codeOf, e1]
    go_wp2
    go_ret
    exact ⟨by first | rfl | (rw [hv]; rfl), K1⟩
  by_cases e2 : h.at_ = 0
  case neg =>
    have hv : codeOf x y z u h c k v = 1 := by simp [codeOf, e1, e2]
    go_wp2
    go_ret
    exact ⟨by first | rfl | (rw [hv]; rfl), K1⟩
  cases e3 : callB c k v
  · have hv : codeOf x y z u h c k v = 2 := by simp [codeOf, e1, e2, e3]
    go_wp2_with (go_at_call 82; refine (specCallFits_any _ _ _ _).mono ?_; rintro e w' ⟨rfl, hw⟩; obtain rfl := hw.symm)
    go_ret
    exact ⟨by first | rfl | (rw [hv]; rfl), K1⟩
  by_cases e4 : h.held < 0
  · have e5 : ¬ (0 ≤ h.held) := by omega
    by_cases c5 : c = 5
    · subst c5
      have hv : codeOf x y z u h 5 k v = 3 := by simp [codeOf, e1, e2, e3, e4]
      go_wp2_with (go_at_call 82; refine (specCallFits_any _ _ _ _).mono ?_; rintro e w' ⟨rfl, hw⟩; obtain rfl := hw.symm)
      go_ret
      exact ⟨by first | rfl | (rw [hv]; rfl), K1⟩
    by_cases c6 : c = 6
    · subst c6
      have hv : codeOf x y z u h 6 k v = 3 := by simp [codeOf, e1, e2, e3, e4]
      go_wp2_with (go_at_call 82; refine (specCallFits_any _ _ _ _).mono ?_; rintro e w' ⟨rfl, hw⟩; obtain rfl := hw.symm)
      go_ret
      exact ⟨by first | rfl | (rw [hv]; rfl), K1⟩
    by_cases c7 : c = 7
    · subst c7
      have hv : codeOf x y z u h 7 k v = 3 := by simp [codeOf, e1, e2, e3, e4]
      go_wp2_with (go_at_call 82; refine (specCallFits_any _ _ _ _).mono ?_; rintro e w' ⟨rfl, hw⟩; obtain rfl := hw.symm)
      go_ret
      exact ⟨by first | rfl | (rw [hv]; rfl), K1⟩
    have b5 : (c == 5) = false := by simp [c5]
    have b6 : (c == 6) = false := by simp [c6]
    have b7 : (c == 7) = false := by simp [c7]
    have hv : codeOf x y z u h c k v = 0 := by simp [codeOf, e1, e2, e3, e5, c5, c6, c7]
    go_wp2_with (go_at_call 82; refine (specCallFits_any _ _ _ _).mono ?_; rintro e w' ⟨rfl, hw⟩; obtain rfl := hw.symm)
    go_ret
    exact ⟨by first | rfl | (rw [hv]; rfl), K1⟩
  have e5 : 0 ≤ h.held := by omega
  by_cases c4 : c = 4
  · subst c4
    have hv : codeOf x y z u h 4 k v = 4 := by simp [codeOf, e1, e2, e3, e4, e5]
    go_wp2_with (go_at_call 82; refine (specCallFits_any _ _ _ _).mono ?_; rintro e w' ⟨rfl, hw⟩; obtain rfl := hw.symm)
    go_ret
    exact ⟨by first | rfl | (rw [hv]; rfl), K1⟩
  have b4 : (c == 4) = false := by simp [c4]
  have hv : codeOf x y z u h c k v = 0 := by simp [codeOf, e1, e2, e3, e4, c4]
  go_wp2_with (go_at_call 82; refine (specCallFits_any _ _ _ _).mono ?_; rintro e w' ⟨rfl, hw⟩; obtain rfl := hw.symm)
  go_ret
  exact ⟨by first | rfl | (rw [hv]; rfl), K1⟩

theorem codeOf_zero {x y z u : Int} {h : Hd} {c k v : Int} (e : codeOf x y z u h c k v = 0) : handB x y z u h = true ∧ h.at_ = 0 ∧ callB c k v = true ∧ ¬ (h.held < 0 ∧ (c = 5 ∨ c = 6 ∨ c = 7)) ∧ ¬ (0 ≤ h.held ∧ c = 4) := by
  unfold codeOf at e
  split at e
  · cases e
  rename_i h1
  split at e
  · cases e
  rename_i h2
  split at e
  · cases e
  rename_i h3
  split at e
  · cases e
  rename_i h4
  split at e
  · cases e
  rename_i h5
  exact ⟨by simpa using h1, by simpa using h2, by simpa using h3, h4, h5⟩
theorem callB_codes {c k v : Int} (h : callB c k v = true) : c = 1 ∨ c = 2 ∨ c = 3 ∨ c = 4 ∨ c = 5 ∨ c = 6 ∨ c = 7 ∨ c = 8 := by
  unfold callB at h
  split at h
  · omega
  split at h
  · omega
  split at h
  · omega
  split at h
  · omega
  · cases h

set_option maxRecDepth 100000 in
set_option maxHeartbeats 4000000 in
theorem specCalled_any (x y z u : Int) (h : Hd) (c k v : Int) (w : World) :
    Calls Try.prog 18 #[.agg #[.int .i64 x, .int .i64 y, .int .i64 z, .int .i64 u], .agg (hdC h).toArray, .int .i64 c, .int .i64 k, .int .i64 v] w fun e w' => e = .returned (.tuple #[.agg (hdC (calledOf x y z u h c k v)).toArray, .int .i64 (codeOf x y z u h c k v)]) ∧ Below w.heap.size w w' := by
  show Calls Try.prog 18 #[.agg #[.int .i64 x, .int .i64 y, .int .i64 z, .int .i64 u], .agg #[.int .i64 h.at_, .int .i64 h.then_, .int .i64 h.code, .int .i64 h.key, .int .i64 h.value, .int .i64 h.begin, .int .i64 h.reply, .int .i64 h.out, .int .i64 h.sum, .int .i64 h.held, .int .i64 h.x_, .int .i64 h.ver, .int .i64 h.cam, .int .i64 h.camAt, .int .i64 h.pred, .int .i64 h.predVer, .int .i64 h.curr, .int .i64 h.currVer, .int .i64 h.new_, .int .i64 h.least, .int .i64 h.index, .int .i64 h.round], .int .i64 c, .int .i64 k, .int .i64 v] w fun e w' => e = .returned (.tuple #[.agg (hdC (calledOf x y z u h c k v)).toArray, .int .i64 (codeOf x y z u h c k v)]) ∧ Below w.heap.size w w'
  have P0 := ((planAt_alloc w x y z u 30).below ((Below.refl _ _).alloc (Nat.le_refl _) (.cells (hdC h).toArray 38)) (by simp)).below ((Below.refl _ _).alloc (Nat.le_refl _) (.cells #[.int .i64 0, .int .i64 0, .int .i64 0, .int .i64 0, .int .i64 0, .int .i64 0, .int .i64 0, .int .i64 0, .int .i64 0, .int .i64 0, .int .i64 0, .int .i64 0, .int .i64 0, .int .i64 0, .int .i64 0, .int .i64 0, .int .i64 0, .int .i64 0, .int .i64 0, .int .i64 0, .int .i64 0, .int .i64 0] 38)) (by simp; omega)
  have X0 := World.rangeAt_alloc (rangeAt_new (w.alloc (.cells #[.int .i64 x, .int .i64 y, .int .i64 z, .int .i64 u] 30)) (hdC h) 38) (.cells #[.int .i64 0, .int .i64 0, .int .i64 0, .int .i64 0, .int .i64 0, .int .i64 0, .int .i64 0, .int .i64 0, .int .i64 0, .int .i64 0, .int .i64 0, .int .i64 0, .int .i64 0, .int .i64 0, .int .i64 0, .int .i64 0, .int .i64 0, .int .i64 0, .int .i64 0, .int .i64 0, .int .i64 0, .int .i64 0] 38)
  have F0 := there_new ((w.alloc (.cells #[.int .i64 x, .int .i64 y, .int .i64 z, .int .i64 u] 30)).alloc (.cells (hdC h).toArray 38)) #[.int .i64 0, .int .i64 0, .int .i64 0, .int .i64 0, .int .i64 0, .int .i64 0, .int .i64 0, .int .i64 0, .int .i64 0, .int .i64 0, .int .i64 0, .int .i64 0, .int .i64 0, .int .i64 0, .int .i64 0, .int .i64 0, .int .i64 0, .int .i64 0, .int .i64 0, .int .i64 0, .int .i64 0, .int .i64 0] 38 22 (by decide)
  have K0 := (((Below.refl w.heap.size w).alloc (Nat.le_refl _) (.cells #[.int .i64 x, .int .i64 y, .int .i64 z, .int .i64 u] 30)).alloc (by simp) (.cells (hdC h).toArray 38)).alloc (by simp; omega) (.cells #[.int .i64 0, .int .i64 0, .int .i64 0, .int .i64 0, .int .i64 0, .int .i64 0, .int .i64 0, .int .i64 0, .int .i64 0, .int .i64 0, .int .i64 0, .int .i64 0, .int .i64 0, .int .i64 0, .int .i64 0, .int .i64 0, .int .i64 0, .int .i64 0, .int .i64 0, .int .i64 0, .int .i64 0, .int .i64 0] 38)
  have hz0 : w.heap.size + 1 + 1 < (((w.alloc (.cells #[.int .i64 x, .int .i64 y, .int .i64 z, .int .i64 u] 30)).alloc (.cells (hdC h).toArray 38)).alloc (.cells #[.int .i64 0, .int .i64 0, .int .i64 0, .int .i64 0, .int .i64 0, .int .i64 0, .int .i64 0, .int .i64 0, .int .i64 0, .int .i64 0, .int .i64 0, .int .i64 0, .int .i64 0, .int .i64 0, .int .i64 0, .int .i64 0, .int .i64 0, .int .i64 0, .int .i64 0, .int .i64 0, .int .i64 0, .int .i64 0] 38)).heap.size := by simp
  simp only [World.size_alloc] at X0 F0
  obtain ⟨p0, p1, p2, p3⟩ := id P0
  go_enter Try.func18, Try.ntmps18
  go_wp2_with (refine wpList_load_mid rfl 38 (.tmp 6) rfl (w.heap.size + 1) 0 rfl (hdC h) _ ?hc Try.underlying38 rfl (sizeHandL h) ?_)
  case hc => exact X0
  change Calls Try.prog _ _ (((w.alloc (.cells #[.int .i64 x, .int .i64 y, .int .i64 z, .int .i64 u] 30)).alloc (.cells (hdC h).toArray 38)).alloc (.cells #[.int .i64 0, .int .i64 0, .int .i64 0, .int .i64 0, .int .i64 0, .int .i64 0, .int .i64 0, .int .i64 0, .int .i64 0, .int .i64 0, .int .i64 0, .int .i64 0, .int .i64 0, .int .i64 0, .int .i64 0, .int .i64 0, .int .i64 0, .int .i64 0, .int .i64 0, .int .i64 0, .int .i64 0, .int .i64 0] 38)) _
  generalize hw0 : ((w.alloc (.cells #[.int .i64 x, .int .i64 y, .int .i64 z, .int .i64 u] 30)).alloc (.cells (hdC h).toArray 38)).alloc (.cells #[.int .i64 0, .int .i64 0, .int .i64 0, .int .i64 0, .int .i64 0, .int .i64 0, .int .i64 0, .int .i64 0, .int .i64 0, .int .i64 0, .int .i64 0, .int .i64 0, .int .i64 0, .int .i64 0, .int .i64 0, .int .i64 0, .int .i64 0, .int .i64 0, .int .i64 0, .int .i64 0, .int .i64 0, .int .i64 0] 38) = w0 at *
  clear hw0 p0 p1 p2 p3 P0
  refine (l6Code_any x y z u h c k v _).mono ?_
  rintro e w1 ⟨rfl, b1⟩
  have X1 := rangeAt_below X0 b1 (by omega)
  have F1 := there_below F0 b1 (by omega)
  have K1 := K0.trans (b1.mono (by omega))
  have hz1 := Nat.lt_of_lt_of_le hz0 b1.size
  clear X0 F0 K0 b1 hz0
  by_cases e5 : codeOf x y z u h c k v = 5
  · have hv : calledOf x y z u h c k v = zeroH := by simp [calledOf, e5]
    rw [e5]
    have hq : Hid (calledOf x y z u h c k v = zeroH ∧ codeOf x y z u h c k v = 5) := ⟨hv, e5⟩
    clear hv e5
    go_wp2_with (refine wpList_store_mid rfl 38 (.tmp 10) (.tmp 22) rfl (w.heap.size + 1 + 1) 0 _ rfl rfl ?ht ?hi ?h1 ?_)
    case ht => exact F1
    case hi => exact sizeHand zeroH
    case h1 => exact oneHand zeroH
    refine bodyPost_ret (v := .tuple #[.agg (hdC zeroH).toArray, .int .i64 5]) ?_ rfl ⟨by rw [hq.out.1, hq.out.2], ?_⟩
    · exact results_row_tmp Try.results18 _ _ (w.heap.size + 1 + 1) 0 rfl (hdC zeroH) _ (World.rangeAt_setCells_same _ _ _ _ F1) Try.underlying38 rfl (sizeHandL zeroH)
    · exact Below.setCells (by omega) _ _ _ K1
  by_cases e0 : codeOf x y z u h c k v = 0
  case neg =>
    have hv : calledOf x y z u h c k v = h := by simp [calledOf, e5, e0]
    have hq : Hid (calledOf x y z u h c k v = h) := hv
    clear hv
    go_wp2_with (first | (refine wpList_load_mid rfl 38 (.tmp 6) rfl (w.heap.size + 1) 0 rfl (hdC h) _ ?hc Try.underlying38 rfl (sizeHandL h) ?_) | (refine wpList_store_mid rfl 38 (.tmp 10) (.tmp 26) rfl (w.heap.size + 1 + 1) 0 _ rfl rfl ?ht ?hi ?h1 ?_))
    case hc => exact X1
    case ht => exact F1
    case hi => exact sizeHand h
    case h1 => exact oneHand h
    refine bodyPost_ret (v := .tuple #[.agg (hdC h).toArray, .int .i64 (codeOf x y z u h c k v)]) ?_ rfl ⟨by rw [hq.out], ?_⟩
    · exact results_row_tmp Try.results18 _ _ (w.heap.size + 1 + 1) 0 rfl (hdC h) _ (World.rangeAt_setCells_same _ _ _ _ F1) Try.underlying38 rfl (sizeHandL h)
    · exact Below.setCells (by omega) _ _ _ K1
  have hv : calledOf x y z u h c k v = askedH h c k v := by simp [calledOf, e0]
  obtain ⟨_, _, hfit, _, _⟩ := codeOf_zero e0
  rw [e0]
  have hq : Hid (calledOf x y z u h c k v = askedH h c k v ∧ codeOf x y z u h c k v = 0) := ⟨hv, e0⟩
  clear hv e0 e5
  go_wp2_with (refine wpList_load_mid rfl 38 (.tmp 6) rfl (w.heap.size + 1) 0 rfl (hdC h) _ ?hc Try.underlying38 rfl (sizeHandL h) ?_)
  case hc => exact X1
  refine (specResting_any h 0 0 0 _).mono ?_
  rintro e w2 ⟨rfl, b2⟩
  have F2 := there_below F1 b2 (by omega)
  have K2 := K1.trans (b2.mono (by omega))
  have hz2 := Nat.lt_of_lt_of_le hz1 b2.size
  clear X1 F1 K1 b2 hz1
  have hset : (w2.alloc (.cells #[.int .i64 0, .int .i64 0, .int .i64 0, .int .i64 0, .int .i64 0, .int .i64 0, .int .i64 0, .int .i64 0, .int .i64 0, .int .i64 0, .int .i64 0, .int .i64 0, .int .i64 0, .int .i64 0, .int .i64 0, .int .i64 0, .int .i64 0, .int .i64 0, .int .i64 0, .int .i64 0, .int .i64 0, .int .i64 0] 38)).setCells w2.heap.size 0 (hdC (restOf h 0 0 0)).toArray.toList = w2.alloc (.cells #[.int .i64 0, .int .i64 0, .int .i64 0, .int .i64 (-1), .int .i64 0, .int .i64 0, .int .i64 0, .int .i64 0, .int .i64 0, .int .i64 h.held, .int .i64 0, .int .i64 0, .int .i64 0, .int .i64 0, .int .i64 0, .int .i64 0, .int .i64 (-1), .int .i64 0, .int .i64 (-1), .int .i64 0, .int .i64 0, .int .i64 0] 38) := alloc_setCells w2 38 (hdC (restOf h 0 0 0)) [] [.int .i64 0, .int .i64 0, .int .i64 0, .int .i64 0, .int .i64 0, .int .i64 0, .int .i64 0, .int .i64 0, .int .i64 0, .int .i64 0, .int .i64 0, .int .i64 0, .int .i64 0, .int .i64 0, .int .i64 0, .int .i64 0, .int .i64 0, .int .i64 0, .int .i64 0, .int .i64 0, .int .i64 0, .int .i64 0] rfl
  have FA := there_new w2 #[.int .i64 0, .int .i64 0, .int .i64 0, .int .i64 0, .int .i64 0, .int .i64 0, .int .i64 0, .int .i64 0, .int .i64 0, .int .i64 0, .int .i64 0, .int .i64 0, .int .i64 0, .int .i64 0, .int .i64 0, .int .i64 0, .int .i64 0, .int .i64 0, .int .i64 0, .int .i64 0, .int .i64 0, .int .i64 0] 38 22 (by decide)
  have K3 := K2.alloc (by omega) (.cells (hdC (askedH h c k v)).toArray 38)
  have R3 := rangeAt_new w2 (hdC (askedH h c k v)) 38
  have F3 := World.there_alloc F2 (.cells (hdC (askedH h c k v)).toArray 38)
  have fin : ∀ ws : World, ws = w2.alloc (.cells (hdC (askedH h c k v)).toArray 38) → ws.there (w.heap.size + 1 + 1) 0 22 ∧ ws.rangeAt w2.heap.size 0 (hdC (askedH h c k v)) ∧ Below w.heap.size w ws := by
    rintro ws rfl
    exact ⟨F3, R3, K3⟩
  rcases callB_codes hfit with rfl | rfl | rfl | rfl | rfl | rfl | rfl | rfl
  · go_wp2_with (first | (refine wpList_store_mid rfl 38 (.tmp 13) (.tmp 29) rfl w2.heap.size 0 _ rfl rfl FA (sizeHand (restOf h 0 0 0)) (oneHand _) ?_; rw [hset]) | (refine wpList_load_mid rfl 38 (.tmp 13) rfl w2.heap.size 0 rfl (hdC (askedH h 1 k v)) _ ?hc Try.underlying38 rfl (sizeHandL _) ?_) | (refine wpList_store_mid rfl 38 (.tmp 10) (.tmp 56) rfl (w.heap.size + 1 + 1) 0 _ rfl rfl ?ht ?hi ?h1 ?_))
    case hc => exact R3
    case ht => exact F3
    case hi => exact sizeHand _
    case h1 => exact oneHand _
    refine bodyPost_ret (v := .tuple #[.agg (hdC (askedH h 1 k v)).toArray, .int .i64 0]) ?_ rfl ⟨by rw [hq.out.1, hq.out.2], ?_⟩
    · exact results_row_tmp Try.results18 _ _ (w.heap.size + 1 + 1) 0 rfl (hdC (askedH h 1 k v)) _ (World.rangeAt_setCells_same _ _ _ _ F3) Try.underlying38 rfl (sizeHandL _)
    · exact Below.setCells (by omega) _ _ _ K3
  · go_wp2_with (first | (refine wpList_store_mid rfl 38 (.tmp 13) (.tmp 29) rfl w2.heap.size 0 _ rfl rfl FA (sizeHand (restOf h 0 0 0)) (oneHand _) ?_; rw [hset]) | (refine wpList_load_mid rfl 38 (.tmp 13) rfl w2.heap.size 0 rfl (hdC (askedH h 2 k v)) _ ?hc Try.underlying38 rfl (sizeHandL _) ?_) | (refine wpList_store_mid rfl 38 (.tmp 10) (.tmp 56) rfl (w.heap.size + 1 + 1) 0 _ rfl rfl ?ht ?hi ?h1 ?_))
    case hc => exact R3
    case ht => exact F3
    case hi => exact sizeHand _
    case h1 => exact oneHand _
    refine bodyPost_ret (v := .tuple #[.agg (hdC (askedH h 2 k v)).toArray, .int .i64 0]) ?_ rfl ⟨by rw [hq.out.1, hq.out.2], ?_⟩
    · exact results_row_tmp Try.results18 _ _ (w.heap.size + 1 + 1) 0 rfl (hdC (askedH h 2 k v)) _ (World.rangeAt_setCells_same _ _ _ _ F3) Try.underlying38 rfl (sizeHandL _)
    · exact Below.setCells (by omega) _ _ _ K3
  · go_wp2_with (first | (refine wpList_store_mid rfl 38 (.tmp 13) (.tmp 29) rfl w2.heap.size 0 _ rfl rfl FA (sizeHand (restOf h 0 0 0)) (oneHand _) ?_; rw [hset]) | (refine wpList_load_mid rfl 38 (.tmp 13) rfl w2.heap.size 0 rfl (hdC (askedH h 3 k v)) _ ?hc Try.underlying38 rfl (sizeHandL _) ?_) | (refine wpList_store_mid rfl 38 (.tmp 10) (.tmp 56) rfl (w.heap.size + 1 + 1) 0 _ rfl rfl ?ht ?hi ?h1 ?_))
    case hc => exact R3
    case ht => exact F3
    case hi => exact sizeHand _
    case h1 => exact oneHand _
    refine bodyPost_ret (v := .tuple #[.agg (hdC (askedH h 3 k v)).toArray, .int .i64 0]) ?_ rfl ⟨by rw [hq.out.1, hq.out.2], ?_⟩
    · exact results_row_tmp Try.results18 _ _ (w.heap.size + 1 + 1) 0 rfl (hdC (askedH h 3 k v)) _ (World.rangeAt_setCells_same _ _ _ _ F3) Try.underlying38 rfl (sizeHandL _)
    · exact Below.setCells (by omega) _ _ _ K3
  · go_wp2_with (first | (refine wpList_store_mid rfl 38 (.tmp 13) (.tmp 29) rfl w2.heap.size 0 _ rfl rfl FA (sizeHand (restOf h 0 0 0)) (oneHand _) ?_; rw [hset]) | (refine wpList_load_mid rfl 38 (.tmp 13) rfl w2.heap.size 0 rfl (hdC (askedH h 4 k v)) _ ?hc Try.underlying38 rfl (sizeHandL _) ?_) | (refine wpList_store_mid rfl 38 (.tmp 10) (.tmp 56) rfl (w.heap.size + 1 + 1) 0 _ rfl rfl ?ht ?hi ?h1 ?_))
    case hc => exact R3
    case ht => exact F3
    case hi => exact sizeHand _
    case h1 => exact oneHand _
    refine bodyPost_ret (v := .tuple #[.agg (hdC (askedH h 4 k v)).toArray, .int .i64 0]) ?_ rfl ⟨by rw [hq.out.1, hq.out.2], ?_⟩
    · exact results_row_tmp Try.results18 _ _ (w.heap.size + 1 + 1) 0 rfl (hdC (askedH h 4 k v)) _ (World.rangeAt_setCells_same _ _ _ _ F3) Try.underlying38 rfl (sizeHandL _)
    · exact Below.setCells (by omega) _ _ _ K3
  · go_wp2_with (first | (refine wpList_store_mid rfl 38 (.tmp 13) (.tmp 29) rfl w2.heap.size 0 _ rfl rfl FA (sizeHand (restOf h 0 0 0)) (oneHand _) ?_; rw [hset]) | (refine wpList_load_mid rfl 38 (.tmp 13) rfl w2.heap.size 0 rfl (hdC (askedH h 5 k v)) _ ?hc Try.underlying38 rfl (sizeHandL _) ?_) | (refine wpList_store_mid rfl 38 (.tmp 10) (.tmp 56) rfl (w.heap.size + 1 + 1) 0 _ rfl rfl ?ht ?hi ?h1 ?_))
    case hc => exact R3
    case ht => exact F3
    case hi => exact sizeHand _
    case h1 => exact oneHand _
    refine bodyPost_ret (v := .tuple #[.agg (hdC (askedH h 5 k v)).toArray, .int .i64 0]) ?_ rfl ⟨by rw [hq.out.1, hq.out.2], ?_⟩
    · exact results_row_tmp Try.results18 _ _ (w.heap.size + 1 + 1) 0 rfl (hdC (askedH h 5 k v)) _ (World.rangeAt_setCells_same _ _ _ _ F3) Try.underlying38 rfl (sizeHandL _)
    · exact Below.setCells (by omega) _ _ _ K3
  · go_wp2_with (first | (refine wpList_store_mid rfl 38 (.tmp 13) (.tmp 29) rfl w2.heap.size 0 _ rfl rfl FA (sizeHand (restOf h 0 0 0)) (oneHand _) ?_; rw [hset]) | (refine wpList_load_mid rfl 38 (.tmp 13) rfl w2.heap.size 0 rfl (hdC (askedH h 6 k v)) _ ?hc Try.underlying38 rfl (sizeHandL _) ?_) | (refine wpList_store_mid rfl 38 (.tmp 10) (.tmp 56) rfl (w.heap.size + 1 + 1) 0 _ rfl rfl ?ht ?hi ?h1 ?_))
    case hc => exact R3
    case ht => exact F3
    case hi => exact sizeHand _
    case h1 => exact oneHand _
    refine bodyPost_ret (v := .tuple #[.agg (hdC (askedH h 6 k v)).toArray, .int .i64 0]) ?_ rfl ⟨by rw [hq.out.1, hq.out.2], ?_⟩
    · exact results_row_tmp Try.results18 _ _ (w.heap.size + 1 + 1) 0 rfl (hdC (askedH h 6 k v)) _ (World.rangeAt_setCells_same _ _ _ _ F3) Try.underlying38 rfl (sizeHandL _)
    · exact Below.setCells (by omega) _ _ _ K3
  · go_wp2_with (first | (refine wpList_store_mid rfl 38 (.tmp 13) (.tmp 29) rfl w2.heap.size 0 _ rfl rfl FA (sizeHand (restOf h 0 0 0)) (oneHand _) ?_; rw [hset]) | (refine wpList_load_mid rfl 38 (.tmp 13) rfl w2.heap.size 0 rfl (hdC (askedH h 7 k v)) _ ?hc Try.underlying38 rfl (sizeHandL _) ?_) | (refine wpList_store_mid rfl 38 (.tmp 10) (.tmp 56) rfl (w.heap.size + 1 + 1) 0 _ rfl rfl ?ht ?hi ?h1 ?_))
    case hc => exact R3
    case ht => exact F3
    case hi => exact sizeHand _
    case h1 => exact oneHand _
    refine bodyPost_ret (v := .tuple #[.agg (hdC (askedH h 7 k v)).toArray, .int .i64 0]) ?_ rfl ⟨by rw [hq.out.1, hq.out.2], ?_⟩
    · exact results_row_tmp Try.results18 _ _ (w.heap.size + 1 + 1) 0 rfl (hdC (askedH h 7 k v)) _ (World.rangeAt_setCells_same _ _ _ _ F3) Try.underlying38 rfl (sizeHandL _)
    · exact Below.setCells (by omega) _ _ _ K3
  · go_wp2_with (first | (refine wpList_store_mid rfl 38 (.tmp 13) (.tmp 29) rfl w2.heap.size 0 _ rfl rfl FA (sizeHand (restOf h 0 0 0)) (oneHand _) ?_; rw [hset]) | (refine wpList_load_mid rfl 38 (.tmp 13) rfl w2.heap.size 0 rfl (hdC (askedH h 8 k v)) _ ?hc Try.underlying38 rfl (sizeHandL _) ?_) | (refine wpList_store_mid rfl 38 (.tmp 10) (.tmp 56) rfl (w.heap.size + 1 + 1) 0 _ rfl rfl ?ht ?hi ?h1 ?_))
    case hc => exact R3
    case ht => exact F3
    case hi => exact sizeHand _
    case h1 => exact oneHand _
    refine bodyPost_ret (v := .tuple #[.agg (hdC (askedH h 8 k v)).toArray, .int .i64 0]) ?_ rfl ⟨by rw [hq.out.1, hq.out.2], ?_⟩
    · exact results_row_tmp Try.results18 _ _ (w.heap.size + 1 + 1) 0 rfl (hdC (askedH h 8 k v)) _ (World.rangeAt_setCells_same _ _ _ _ F3) Try.underlying38 rfl (sizeHandL _)
    · exact Below.setCells (by omega) _ _ _ K3

end Go.Proofs.Ytcgjkodpmloccaa
