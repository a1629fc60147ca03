/-
  What the model says of using a version (chapter 12) and of going to the next node (chapter 13), as contracts. For every right arena of at most 1048576 elements and every hand whose nodes and versions there are.
-/
import Derived.Test.YtcgjkodpmloccaaSpecSeal
namespace Go.Proofs.Ytcgjkodpmloccaa
open Go.ChangeShapes Go.WideShapes Go.ChangeAt Go.RowKit
set_option linter.unusedVariables false
attribute [local go_sem ↓] Go.wp_at_zero Go.wp_at_succ

theorem specMin_any (x y : Int) (w : World) : Calls Try.prog 106 #[.int .i64 x, .int .i64 y] w fun e w' => e = .returned (.int .i64 (min x y)) ∧ w' = w := by
  by_cases h : x < y
  · go_enter Try.func106, Try.ntmps106
    go_wp2
    go_ret
    exact ⟨by rw [show min x y = x by omega]; rfl, rfl⟩
  · go_enter Try.func106, Try.ntmps106
    go_wp2
    go_ret
    exact ⟨by rw [show min x y = y by omega]; rfl, rfl⟩

theorem specMax_any (x y : Int) (w : World) : Calls Try.prog 93 #[.int .i64 x, .int .i64 y] w fun e w' => e = .returned (.int .i64 (max x y)) ∧ w' = w := by
  by_cases h : y < x
  · go_enter Try.func93, Try.ntmps93
    go_wp2
    go_ret
    exact ⟨by rw [show max x y = x by omega]; rfl, rfl⟩
  · go_enter Try.func93, Try.ntmps93
    go_wp2
    go_ret
    exact ⟨by rw [show max x y = y by omega]; rfl, rfl⟩

theorem arenaB_value {x y z u : Int} {A : Ar} (h : arenaB x y z u A = true) (n : Nat) (hn : n < A.nodes.length) : 0 ≤ A.nodes[n].value ∧ A.nodes[n].value ≤ 9999 := by
  have := (allIdx_iff _ _).1 (arenaB_parts h).2.2.2.1 n hn
  unfold nodeB at this
  split at this <;> (simp only [Bool.and_eq_true, inB_iff, beq_iff_eq] at this; omega)
theorem arenaB_key {x y z u : Int} {A : Ar} (h : arenaB x y z u A = true) (n : Nat) (hn : n < A.nodes.length) : -1 ≤ A.nodes[n].key ∧ A.nodes[n].key ≤ 63 := by
  have := (allIdx_iff _ _).1 (arenaB_parts h).2.2.2.1 n hn
  unfold nodeB at this
  split at this <;> (simp only [Bool.and_eq_true, inB_iff, beq_iff_eq] at this; omega)
theorem arenaB_ver {x y z u : Int} {A : Ar} (h : arenaB x y z u A = true) (n : Nat) (hn : n < A.vers.length) : (A.vers[n].next = -1 ∨ 1 ≤ A.vers[n].next ∧ A.vers[n].next < (A.nodes.length : Int)) ∧ (-1 ≤ A.vers[n].stamp ∧ A.vers[n].stamp ≤ A.camera) ∧ (-1 ≤ A.vers[n].prev ∧ A.vers[n].prev < (n : Int)) ∧ (0 ≤ A.vers[n].kind ∧ A.vers[n].kind ≤ 2) := by
  have := (allIdx_iff _ _).1 (arenaB_parts h).2.2.2.2 n hn
  simp only [verB, Bool.and_eq_true, Bool.or_eq_true, inB_iff, beq_iff_eq] at this
  omega

/-- To the next node. -/
def nextH (A : Ar) (h : Hd) : Hd := if h.x_ + 1 < (A.nodes.length : Int) then { h with x_ := h.x_ + 1, then_ := 7, at_ := 2 } else restOf h 4 h.out 0
/-- A hand that has counted a node's value. -/
def countH (A : Ar) (h : Hd) : Hd := { h with out := min (h.out + 1) 1000000, sum := min (h.sum + (ndOf A h.x_).value) 1000000 }
/-- Is the node counted? -/
def countB (A : Ar) (h : Hd) : Bool := decide (h.x_ ≠ 0) && (h.code == 7) && inB (ndOf A h.x_).key h.key h.value && !(vrOf A h.ver).gone
/-- Is it the last one? -/
def lastB (A : Ar) (h : Hd) : Bool := decide ((vrOf A h.ver).next < 0) || decide ((if h.code = 7 then h.value else h.key) < (ndOf A (vrOf A h.ver).next).key)
/-- To use a version. -/
def useH (A : Ar) (h : Hd) : Hd :=
  if h.code ≠ 6 ∧ h.code ≠ 7 then { h with at_ := 0 }
  else if h.x_ ≠ 0 ∧ h.code = 6 ∧ (ndOf A h.x_).key = h.key then (if (vrOf A h.ver).gone then restOf h 3 0 0 else restOf h 2 (ndOf A h.x_).value 0)
  else if lastB A h then (if h.code = 6 then restOf h 3 0 0 else restOf h 4 (if countB A h then countH A h else h).out (if countB A h then countH A h else h).sum)
  else { (if countB A h then countH A h else h) with x_ := (vrOf A h.ver).next, at_ := 2 }

end Go.Proofs.Ytcgjkodpmloccaa
