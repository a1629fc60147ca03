/-
  InOrder answers as the document's model does: at every list of pairs the law of InOrder returns true and leaves its argument as it was. No condition.
-/
import Derived.Test.YtnmnjkjkhbcdfaaSame
import Derived.Test.YtnmnjkjkhbcdfaaArgs
import Derived.Test.YtnmnjkjkhbcdfaaSpecViews
import Derived.Test.YtnmnjkjkhbcdfaaImplView
namespace Go.Proofs.Ytnmnjkjkhbcdfaa
open Go.ChangeShapes Go.WideShapes Go.ChangeAt Go.RowKit
set_option linter.unusedVariables false
attribute [local go_sem ↓] Go.wp_at_zero Go.wp_at_succ

set_option maxRecDepth 100000 in
set_option maxHeartbeats 1000000 in
theorem inOrder_walk (l : List Pr) (a : Option Addr) (cap : Nat) (w : World) (m : l.length ≤ maxLen) (S : SliceAt w.heap.size w (.slice a l.length cap) l.length (cellsOf prC l)) :
    Calls Try.prog 7 #[.slice a l.length cap] w fun e w' => e = .returned (.bool true) ∧ Below w.heap.size w w' := by
  unfold maxLen at m
  by_cases hl : l.length ≤ 1048576
  case neg =>
    go_enter Try.func7, Try.ntmps7
    go_wp2_with fail
    refine (szPairS_not _ _ _ _ _ (by omega) (by omega) (by omega) (by omega)).mono ?_
    rintro e w1 ⟨rfl, hw⟩
    obtain rfl := hw.symm
    go_wp2
    go_ret
    exact ⟨rfl, Below.refl _ _⟩
  go_enter Try.func7, Try.ntmps7
  go_wp2_with fail
  refine (szPairS_fit _ _ _ _ _ (by omega) (by omega) (by omega)).mono ?_
  rintro e w1 ⟨rfl, hw⟩
  obtain rfl := hw.symm
  go_wp2_with fail
  refine (toPairS_any _ _ l _ (Nat.le_refl _) hl S).mono ?_
  rintro e w1 ⟨rfl, R1, T1, z1, b1⟩
  have S1 := S.below b1
  go_wp2_with fail
  refine (specInOrder_any _ _ l _ (Nat.le_refl _) hl (SliceAt.mk z1 R1)).mono ?_
  rintro e w2 ⟨rfl, b2⟩
  have S2 := S1.below (b2.mono (by omega))
  have K2 := b1.trans (b2.mono (by omega))
  have k2 := K2.size
  clear S S1 R1 T1 b1 b2
  go_wp2_with fail
  refine (toPairS_any _ _ l w2 (by omega) hl S2).mono ?_
  rintro e w3 ⟨rfl, R3, T3, z3, b3⟩
  have S3 := S2.below (b3.mono (by omega))
  have K3 := K2.trans (b3.mono (by omega))
  clear S2 K2 b3
  go_wp2_with fail
  refine (inOrder_any _ _ l w3 (Nat.le_refl _) hl (SliceAt.mk z3 R3)).mono ?_
  rintro e w4 ⟨rfl, b4⟩
  have R4 := rangeAt_below R3 b4 z3
  have S4 := S3.below (b4.mono (by omega))
  have K4 := K3.trans (b4.mono (by omega))
  have z4 := Nat.lt_of_lt_of_le z3 b4.size
  clear S3 K3 R3 T3 b4
  go_wp2_with fail
  refine (toPairS_any _ _ l w4 (by omega) hl S4).mono ?_
  rintro e w5 ⟨rfl, R5, T5, z5, b5⟩
  have R6 := rangeAt_below R4 b5 z4
  have K5 := K4.trans (b5.mono (by omega))
  have z6 := Nat.lt_of_lt_of_le z4 b5.size
  clear S4 K4 R4 b5
  go_wp2_with fail
  refine (eqPairS_any w5.heap.size _ _ l w5 (Nat.le_refl _) hl (SliceAt.mk z6 R6) (SliceAt.mk z5 R5)).mono ?_
  rintro e w6 ⟨rfl, b6⟩
  have K6 := K5.trans (b6.mono (by omega))
  go_wp2
  go_ret
  exact ⟨rfl, K6⟩

set_option maxRecDepth 100000 in
theorem inOrder_lifted (os : Os) (started : os.Started) (H : Type) (enc : TypeId × Value → H) :
    ReturnsInHanded {} Try.checked os 7 .any (Rows.fnExactInOrderSpec.pre6 enc Try.prog Try.f7 Rows.fnExactInOrderRow.domain false) (Rows.fnExactInOrderSpec.post enc Try.prog Try.f7 false true false false) := by
  refine returnsInHanded_of_change (C := Try.checked) own started (by kernel_rfl) Try.func7
    (ChangeSpec.witness6 (enc := enc) (C := Try.checked) false ⟨#[], #[.slice none 0 0], []⟩ 8 (by kernel_rfl) (by kernel_rfl) (by kernel_rfl) (by kernel_rfl)) ?_
  intro W base args ds gs before hval0 hW hcnd _
  have hval : ∀ (j : Nat) t v, Try.f7.params[j]? = some t → args[j]? = some v → Value.okWide Try.prog W .any base t v := hval0
  have hW' := hW
  obtain ⟨p, q, hA0, hV, rfl, hfz, hnd⟩ := hW
  have hA : DataW.TrodAll enc Try.prog W 0 (fun _ => true) true Try.f7.params.toList args.toList ds p := hA0
  rw [Try.params7] at hA hval
  obtain ⟨v0, vs0, d0, ds0, p0, q0, hargs, rfl, rfl, h0, r0⟩ := trodAll_cons hA
  obtain ⟨rfl, rfl, rfl⟩ := trodAll_nil r0
  obtain rfl : args = #[v0] := by cases args; simp_all
  obtain ⟨rfl, rfl⟩ := trodVars_none hV
  have k0 := h0
  have lt0 : ∀ x ∈ p0, x.block < W.heap.size := by obtain ⟨m, hm⟩ := k0; exact DataW.trod_lt m _ _ _ hm
  obtain ⟨l0, a0, c0, hv0, m0, S0⟩ := open_pairs (hval 0 50 v0 rfl rfl) h0
  subst hv0
  clear hA0 hval0
  refine (inOrder_walk l0 a0 c0 W m0 S0).mono fun e W' ⟨he, bel⟩ => ?_
  subst he
  exact ⟨_, rfl, _, _, _, [], _, [], hW', trodAll_mk1 (shut_bool Try.underlying4 _), (trodAll_cons_mk (Below.trod laidOut (by kernel_rfl) (of_decide_eq_true (by kernel_rfl)) k0 bel lt0) trodAll_mk0), rfl, bel.frame _, fun h => by cases h⟩

/-- The given statement. -/
theorem inOrder_holds : Rows.FnExactInOrderSaid :=
  OpenClaim.holds_of_wide 7 Try.f7 rfl rfl rfl rfl rfl rfl rfl ⟨rfl, rfl, rfl, rfl, rfl⟩ rfl rfl rfl rfl rfl (by kernel_rfl) Try.func7 (by kernel_rfl)
    (of_decide_eq_true (by kernel_rfl)) (by unfold Func.isWrapper; first | (rw [if_pos (by decide +kernel)]; kernel_rfl) | (rw [if_neg (by decide +kernel)]; exact ⟨rfl, rfl⟩))
    (fun os started H enc _ => inOrder_lifted os started H enc)
#print axioms inOrder_holds

end Go.Proofs.Ytnmnjkjkhbcdfaa
