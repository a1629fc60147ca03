/-
  What the model says of versions (chapter 3), as contracts, told by plain functions. For every plan and every arena of at most 1048576 elements.
-/
import Derived.Test.YtknncnaikeinbaaSpecArena
namespace Go.Proofs.Ytknncnaikeinbaa
open Go.ChangeShapes Go.WideShapes Go.ChangeAt Go.RowKit
set_option linter.unusedVariables false
attribute [local go_sem ↓] Go.wp_at_zero Go.wp_at_succ

/-- A version by its number. -/
def vrOf (A : Ar) (v : Int) : Vr := A.vers.getD v.toNat ⟨-1, false, -1, -1, 0⟩
/-- A node by its number. -/
def ndOf (A : Ar) (n : Int) : Nd := A.nodes.getD n.toNat ⟨-1, 0, 0⟩
theorem vrOf_nat (A : Ar) (n : Nat) (h : n < A.vers.length) : vrOf A n = A.vers[n] := by simp [vrOf, h]
theorem ndOf_nat (A : Ar) (n : Nat) (h : n < A.nodes.length) : ndOf A n = A.nodes[n] := by simp [ndOf, h]
/-- Is a version there, and stamped? -/
def stampedB (A : Ar) (v : Int) : Bool := inB v 0 ((A.vers.length : Int) - 1) && ((vrOf A v).stamp != -1)
/-- Is the arena right, and the node there? -/
def hasB (x y z u : Int) (A : Ar) (n : Int) : Bool := arenaB x y z u A && inB n 0 ((A.nodes.length : Int) - 1)
def nowOf (x y z u : Int) (A : Ar) (n : Int) : Int := if hasB x y z u A n then (ndOf A n).head else -1

/-- Versions from one on, by their Prev, at most so many. -/
def chainF (A : Ar) : Nat → Int → List Int
  | 0, _ => []
  | f + 1, v => if v < 0 then [] else v :: chainF A f (vrOf A v).prev
def chain (A : Ar) (v : Int) : List Int := chainF A (v.toNat + 1) v
/-- Each Prev is below its own number. -/
def Falls (A : Ar) : Prop := ∀ i (h : i < A.vers.length), -1 ≤ A.vers[i].prev ∧ A.vers[i].prev < (i : Int)

theorem chainF_fuel {A : Ar} (F : Falls A) : ∀ (f : Nat) (v : Int), v < (f : Int) → v < (A.vers.length : Int) → chainF A f v = chain A v := by
  have key : ∀ (f g : Nat) (v : Int), v < (f : Int) → v < (g : Int) → v < (A.vers.length : Int) → chainF A f v = chainF A g v := by
    intro f
    induction f with
    | zero =>
      intro g v h1 h2 h3
      cases g with
      | zero => rfl
      | succ g => simp only [chainF]; rw [if_pos (by omega)]
    | succ f ih =>
      intro g v h1 h2 h3
      by_cases hv : v < 0
      · cases g with
        | zero => simp only [chainF]; rw [if_pos hv]
        | succ g => simp only [chainF]; rw [if_pos hv, if_pos hv]
      · obtain ⟨n, rfl⟩ : ∃ n : Nat, v = n := ⟨v.toNat, by omega⟩
        cases g with
        | zero => omega
        | succ g =>
          have hn : n < A.vers.length := by omega
          have := F n hn
          simp only [chainF]
          rw [if_neg hv, if_neg hv, vrOf_nat A n hn, ih g _ (by omega) (by omega) (by omega)]
  intro f v h1 h2
  exact key _ _ _ h1 (by omega) h2
theorem chain_neg (A : Ar) {v : Int} (h : v < 0) : chain A v = [] := by
  simp only [chain, chainF]
  rw [if_pos h]
theorem chain_nat {A : Ar} (F : Falls A) (n : Nat) (h : n < A.vers.length) : chain A n = (n : Int) :: chain A A.vers[n].prev := by
  have := F n h
  rw [chain, chainF, if_neg (by omega), vrOf_nat A n h, chainF_fuel F _ _ (by omega) (by omega)]

/-- The first version from v on that is stamped with at most st. -/
def seek (A : Ar) (st : Int) (v : Int) : Int := ((chain A v).find? fun k => !(decide ((vrOf A k).stamp < 0) || decide (st < (vrOf A k).stamp))).getD (-1)
theorem seek_neg (A : Ar) (st : Int) {v : Int} (h : v < 0) : seek A st v = -1 := by simp [seek, chain_neg A h]
theorem seek_hit {A : Ar} (F : Falls A) (st : Int) (n : Nat) (h : n < A.vers.length) (hs : (decide (A.vers[n].stamp < 0) || decide (st < A.vers[n].stamp)) = false) : seek A st n = n := by
  simp only [seek, chain_nat F n h]
  rw [List.find?_cons_of_pos (by rw [vrOf_nat A n h, hs]; rfl)]
  rfl
theorem seek_miss {A : Ar} (F : Falls A) (st : Int) (n : Nat) (h : n < A.vers.length) (hs : (decide (A.vers[n].stamp < 0) || decide (st < A.vers[n].stamp)) = true) : seek A st n = seek A st A.vers[n].prev := by
  simp only [seek, chain_nat F n h]
  rw [List.find?_cons_of_neg (by rw [vrOf_nat A n h, hs]; decide)]

def atOf (x y z u : Int) (A : Ar) (n st : Int) : Int := if hasB x y z u A n then seek A st (ndOf A n).head else -1
def versOf (x y z u : Int) (A : Ar) (n : Int) : List Int := if hasB x y z u A n then chain A (ndOf A n).head else []
def depthOf (x y z u : Int) (A : Ar) (n : Int) : Int := if hasB x y z u A n then ((chain A (ndOf A n).head).length : Int) else -1

theorem arenaB_parts {x y z u : Int} {A : Ar} (h : arenaB x y z u A = true) : headB x y z u A = true ∧ allIdx (fun _ v => inB v (-1) 100) A.slots = true ∧ allIdx (fun _ v => inB v 0 ((A.nodes.length : Int) - 1)) A.guides = true ∧ allIdx (nodeB A.vers.length) A.nodes = true ∧ allIdx (verB A.nodes.length A.camera) A.vers = true := by
  simp only [arenaB, Bool.and_eq_true] at h
  exact ⟨h.1.1.1.1, h.1.1.1.2, h.1.1.2, h.1.2, h.2⟩
theorem arenaB_falls {x y z u : Int} {A : Ar} (h : arenaB x y z u A = true) : Falls A := by
  intro i hi
  have := (allIdx_iff _ _).1 (arenaB_parts h).2.2.2.2 i hi
  simp only [verB, Bool.and_eq_true, inB_iff] at this
  omega
theorem arenaB_head {x y z u : Int} {A : Ar} (h : arenaB x y z u A = true) (n : Nat) (hn : n < A.nodes.length) : 0 ≤ A.nodes[n].head ∧ A.nodes[n].head < (A.vers.length : Int) := by
  have := (allIdx_iff _ _).1 (arenaB_parts h).2.2.2.1 n hn
  unfold nodeB at this
  split at this <;> (simp only [Bool.and_eq_true, inB_iff] at this; omega)

end Go.Proofs.Ytknncnaikeinbaa
