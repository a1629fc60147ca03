/-
  NewHand answers as the document's model does: the law of NewHand returns true. No condition.
-/
import Derived.Test.YtlmfgaacbedbcaaHandArgs
import Derived.Test.YtlmfgaacbedbcaaImplHand
namespace Go.Proofs.Ytlmfgaacbedbcaa
open Go.ChangeShapes Go.WideShapes Go.ChangeAt Go.RowKit
set_option linter.unusedVariables false
attribute [local go_sem ↓] Go.wp_at_zero Go.wp_at_succ

set_option maxRecDepth 100000 in
set_option maxHeartbeats 4000000 in
theorem newHand_walk (w : World) :
    Calls Try.prog 5 #[] w fun e w' => e = .returned (.bool true) ∧ Below w.heap.size w w' := by
  obtain ⟨R, hR⟩ : ∃ R, Hid (newH = R) := ⟨_, rfl⟩
  go_enter Try.func5, Try.ntmps5
  go_wp2_with fail
  refine (specNewHand_is _).mono ?_
  rintro e w2 ⟨rfl, K2⟩
  rw [hR.out]
  have hset2 : (w2.alloc (.cells #[.int .i64 0, .int .i64 0, .int .i64 0, .int .i64 0, .int .i64 0, .int .i64 0, .int .i64 0, .int .i64 0, .int .i64 0, .int .i64 0, .int .i64 0, .int .i64 0, .int .i64 0, .int .i64 0, .int .i64 0, .int .i64 0, .int .i64 0, .int .i64 0, .int .i64 0, .int .i64 0, .int .i64 0, .int .i64 0] 25)).setCells w2.heap.size 0 (hdC R).toArray.toList = w2.alloc (.cells (hdC R).toArray 25) := alloc_setCells w2 25 (hdC R) [] [.int .i64 0, .int .i64 0, .int .i64 0, .int .i64 0, .int .i64 0, .int .i64 0, .int .i64 0, .int .i64 0, .int .i64 0, .int .i64 0, .int .i64 0, .int .i64 0, .int .i64 0, .int .i64 0, .int .i64 0, .int .i64 0, .int .i64 0, .int .i64 0, .int .i64 0, .int .i64 0, .int .i64 0, .int .i64 0] rfl
  have FA2 := there_new w2 #[.int .i64 0, .int .i64 0, .int .i64 0, .int .i64 0, .int .i64 0, .int .i64 0, .int .i64 0, .int .i64 0, .int .i64 0, .int .i64 0, .int .i64 0, .int .i64 0, .int .i64 0, .int .i64 0, .int .i64 0, .int .i64 0, .int .i64 0, .int .i64 0, .int .i64 0, .int .i64 0, .int .i64 0, .int .i64 0] 25 22 (by decide)
  have Y3 := rangeAt_new w2 (hdC R) 25
  have K3 := K2.alloc (by have := K2.size; omega) (.cells (hdC R).toArray 25)
  have hz3 : w2.heap.size < (w2.alloc (.cells (hdC R).toArray 25)).heap.size := by simp
  go_wp2_with (refine wpList_store_mid rfl 25 (.tmp 1) (.tmp 3) rfl w2.heap.size 0 _ rfl rfl FA2 (sizeHand R) (oneHand R) ?_; rw [hset2])
  generalize hw3 : w2.alloc (.cells (hdC R).toArray 25) = w3 at *
  clear hw3 hset2 FA2 K2
  refine (newHand_any _).mono ?_
  rintro e w5 ⟨rfl, b5⟩
  rw [hR.out]
  have Y5 := rangeAt_below Y3 b5 hz3
  have K5 := K3.trans (b5.mono (by have := K3.size; omega))
  have hz5 := Nat.lt_of_lt_of_le hz3 b5.size
  clear Y3 K3 b5 hz3
  have hset5 : (w5.alloc (.cells #[.int .i64 0, .int .i64 0, .int .i64 0, .int .i64 0, .int .i64 0, .int .i64 0, .int .i64 0, .int .i64 0, .int .i64 0, .int .i64 0, .int .i64 0, .int .i64 0, .int .i64 0, .int .i64 0, .int .i64 0, .int .i64 0, .int .i64 0, .int .i64 0, .int .i64 0, .int .i64 0, .int .i64 0, .int .i64 0] 25)).setCells w5.heap.size 0 (hdC R).toArray.toList = w5.alloc (.cells (hdC R).toArray 25) := alloc_setCells w5 25 (hdC R) [] [.int .i64 0, .int .i64 0, .int .i64 0, .int .i64 0, .int .i64 0, .int .i64 0, .int .i64 0, .int .i64 0, .int .i64 0, .int .i64 0, .int .i64 0, .int .i64 0, .int .i64 0, .int .i64 0, .int .i64 0, .int .i64 0, .int .i64 0, .int .i64 0, .int .i64 0, .int .i64 0, .int .i64 0, .int .i64 0] rfl
  have FA5 := there_new w5 #[.int .i64 0, .int .i64 0, .int .i64 0, .int .i64 0, .int .i64 0, .int .i64 0, .int .i64 0, .int .i64 0, .int .i64 0, .int .i64 0, .int .i64 0, .int .i64 0, .int .i64 0, .int .i64 0, .int .i64 0, .int .i64 0, .int .i64 0, .int .i64 0, .int .i64 0, .int .i64 0, .int .i64 0, .int .i64 0] 25 22 (by decide)
  have Y6 := World.rangeAt_alloc Y5 (.cells (hdC R).toArray 25)
  have Z6 := rangeAt_new w5 (hdC R) 25
  have K6 := K5.alloc (by have := K5.size; omega) (.cells (hdC R).toArray 25)
  go_wp2_with (first | (refine wpList_store_mid rfl 25 (.tmp 2) (.tmp 4) rfl w5.heap.size 0 _ rfl rfl FA5 (sizeHand R) (oneHand R) ?_; rw [hset5]) | (refine wpList_load_mid rfl 25 (.tmp 2) rfl w5.heap.size 0 rfl (hdC R) _ ?hc Try.underlying25 rfl (sizeHandL R) ?_) | (refine wpList_load_mid rfl 25 (.tmp 1) rfl w2.heap.size 0 rfl (hdC R) _ ?hd Try.underlying25 rfl (sizeHandL R) ?_))
  case hc => exact Z6
  case hd => exact Y6
  refine (eqHand_any R _).mono ?_
  rintro e w9 ⟨rfl, b9⟩
  have K9 := K6.trans (b9.mono (by have := K5.size; simp; omega))
  clear hset5 FA5
  go_wp2
  go_ret
  exact ⟨rfl, K9⟩

set_option maxRecDepth 100000 in
theorem newHand_lifted (os : Os) (started : os.Started) (H : Type) (enc : TypeId × Value → H) :
    ReturnsInHanded {} Try.checked os 5 .any (Rows.fnExactNewHandSpec.pre6 enc Try.prog Try.f5 Rows.fnExactNewHandRow.domain false) (Rows.fnExactNewHandSpec.post enc Try.prog Try.f5 false true false false) := by
  refine returnsInHanded_of_change (C := Try.checked) own started (by kernel_rfl) Try.func5
    (ChangeSpec.witness6 (enc := enc) (C := Try.checked) false ⟨#[], #[], []⟩ 8 (by kernel_rfl) (by kernel_rfl) (by kernel_rfl) (by kernel_rfl)) ?_
  intro W base args ds gs before hval0 hW hcnd _
  have hval : ∀ (j : Nat) t v, Try.f5.params[j]? = some t → args[j]? = some v → Value.okWide Try.prog W .any base t v := hval0
  have hW' := hW
  obtain ⟨p, q, hA0, hV, rfl, hfz, hnd⟩ := hW
  have hA : DataW.TrodAll enc Try.prog W 0 (fun _ => true) true Try.f5.params.toList args.toList ds p := hA0
  rw [Try.params5] at hA hval
  obtain ⟨hargs, rfl, rfl⟩ := trodAll_nil hA
  obtain rfl : args = #[] := by cases args; simp_all
  obtain ⟨rfl, rfl⟩ := trodVars_none hV
  clear hA0 hval0
  refine (newHand_walk  W ).mono fun e W' ⟨he, bel⟩ => ?_
  subst he
  exact ⟨_, rfl, _, _, _, [], _, [], hW', trodAll_mk1 (shut_bool Try.underlying4 _), trodAll_mk0, rfl, bel.frame _, fun h => by cases h⟩

/-- The given statement. -/
theorem newHand_holds : Rows.FnExactNewHandSaid :=
  OpenClaim.holds_of_wide 5 Try.f5 rfl rfl rfl rfl rfl rfl rfl ⟨rfl, rfl, rfl, rfl, rfl⟩ rfl rfl rfl rfl rfl (by kernel_rfl) Try.func5 (by kernel_rfl)
    (of_decide_eq_true (by kernel_rfl)) (by unfold Func.isWrapper; first | (rw [if_pos (by decide +kernel)]; kernel_rfl) | (rw [if_neg (by decide +kernel)]; exact ⟨rfl, rfl⟩))
    (fun os started H enc _ => newHand_lifted os started H enc)
#print axioms newHand_holds

end Go.Proofs.Ytlmfgaacbedbcaa
