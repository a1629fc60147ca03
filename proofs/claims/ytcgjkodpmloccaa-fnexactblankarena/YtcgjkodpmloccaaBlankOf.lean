/-
  What a blank arena is, for every plan, and the model's answer told by it.
-/
import Derived.Test.YtcgjkodpmloccaaBlank
import Derived.Test.YtcgjkodpmloccaaMark
namespace Go.Proofs.Ytcgjkodpmloccaa
open Go.ChangeShapes Go.WideShapes Go.ChangeAt Go.RowKit
set_option linter.unusedVariables false

/-- The blank arena of a plan; the zero arena where the plan is not right. -/
def blankOf (x y z u : Int) : Ar := if planB x y z u then blankA x.toNat u.toNat else ⟨0, [], [], [], []⟩
theorem blankOf_yes {x y z u : Int} (h : planB x y z u = true) : blankOf x y z u = blankA x.toNat u.toNat := by rw [blankOf, if_pos h]
theorem blankOf_no {x y z u : Int} (h : planB x y z u = false) : blankOf x y z u = ⟨0, [], [], [], []⟩ := by rw [blankOf, if_neg (by rw [h]; decide)]
theorem blankOf_camera (x y z u : Int) : (blankOf x y z u).camera = 0 := by unfold blankOf; split <;> rfl
theorem blankOf_size (x y z u : Int) : (blankOf x y z u).size ≤ 1048576 := by
  unfold blankOf
  split
  · rename_i h
    have := (planB_iff x y z u).1 h
    simp only [Ar.size, blankA, List.length_replicate, List.length_cons, List.length_nil]
    omega
  · decide

theorem specBlankArena_is (x y z u : Int) (w : World) :
    Calls Try.prog 9 #[.agg #[.int .i64 x, .int .i64 y, .int .i64 z, .int .i64 u]] w fun e w' => ∃ s g n r, e = .returned (.agg #[.int .i64 0, s, g, n, r]) ∧ ArenaIs w'.heap.size w' s g n r (blankOf x y z u) ∧ Below w.heap.size w w' := by
  cases hp : planB x y z u
  · rw [blankOf_no hp]
    exact (specBlank_zero x y z u w hp).mono fun e w' ⟨h, b⟩ => ⟨_, _, _, _, h, ⟨⟨_, _, rfl, Or.inl rfl⟩, ⟨_, _, rfl, Or.inl rfl⟩, ⟨_, _, rfl, Or.inl rfl⟩, ⟨_, _, rfl, Or.inl rfl⟩⟩, b⟩
  · have hr := (planB_iff x y z u).1 hp
    obtain ⟨xN, rfl⟩ : ∃ k : Nat, x = k := ⟨x.toNat, by omega⟩
    obtain ⟨uN, rfl⟩ : ∃ k : Nat, u = k := ⟨u.toNat, by omega⟩
    rw [blankOf_yes hp]
    exact (specBlank_full xN uN y z w hp).mono fun e w' ⟨sg, sc, gb, nb, vb, h, I, b⟩ => ⟨_, _, _, _, h, I, b⟩

end Go.Proofs.Ytcgjkodpmloccaa
