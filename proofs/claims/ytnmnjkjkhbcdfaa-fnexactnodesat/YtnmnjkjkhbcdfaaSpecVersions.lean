/-
  The versions of a node as the model lists them (chapter 3), as contracts. For every plan and every arena of at most 1048576 elements.
-/
import Derived.Test.YtnmnjkjkhbcdfaaSpecVersion
import Derived.Test.YtnmnjkjkhbcdfaaOwn
namespace Go.Proofs.Ytnmnjkjkhbcdfaa
open Go.ChangeShapes Go.WideShapes Go.ChangeAt Go.RowKit
set_option linter.unusedVariables false
attribute [local go_sem ↓] Go.wp_at_zero Go.wp_at_succ

theorem chainF_length (A : Ar) : ∀ (f : Nat) (v : Int), (chainF A f v).length ≤ f
  | 0, _ => Nat.le_refl _
  | f + 1, v => by
    simp only [chainF]
    split
    · exact Nat.zero_le _
    · have := chainF_length A f (vrOf A v).prev
      simp only [List.length_cons]
      omega
theorem chain_length {A : Ar} {v : Int} (h : v < (A.vers.length : Int)) : (chain A v).length ≤ A.vers.length := by
  by_cases hv : v < 0
  · rw [chain_neg A hv]; exact Nat.zero_le _
  · have := chainF_length A (v.toNat + 1) v
    simp only [chain]
    omega
theorem versOf_length {x y z u : Int} {A : Ar} {n : Int} : (versOf x y z u A n).length ≤ A.vers.length := by
  unfold versOf
  split
  · rename_i h
    have hh : arenaB x y z u A = true ∧ inB n 0 ((A.nodes.length : Int) - 1) = true := by simpa [hasB] using h
    have h2 := (inB_iff _ _ _).1 hh.2
    obtain ⟨k, rfl⟩ : ∃ k : Nat, n = k := ⟨n.toNat, by omega⟩
    have hk : k < A.nodes.length := by omega
    rw [ndOf_nat A k hk]
    exact chain_length (arenaB_head hh.1 k hk).2
  · exact Nat.zero_le _

end Go.Proofs.Ytnmnjkjkhbcdfaa
