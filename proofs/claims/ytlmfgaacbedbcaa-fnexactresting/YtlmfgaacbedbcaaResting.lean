/-
  Resting answers as the document's model does: at every Hand and every three numbers the law of Resting returns true and leaves its arguments as they were. No condition.
-/
import Derived.Test.YtlmfgaacbedbcaaHandArgs
import Derived.Test.YtlmfgaacbedbcaaImplHand
namespace Go.Proofs.Ytlmfgaacbedbcaa
open Go.ChangeShapes Go.WideShapes Go.ChangeAt Go.RowKit
set_option linter.unusedVariables false
attribute [local go_sem ↓] Go.wp_at_zero Go.wp_at_succ

theorem sizeLHand' (h : Hd) : (Try.prog.info? 36).map (·.size) = some (hdC h).length := by
  show _ = some 22
  kernel_rfl

set_option maxRecDepth 100000 in
set_option maxHeartbeats 4000000 in
theorem resting_walk (h : Hd) (rp : Int) (wr : (Lit.int .i64 rp).wf = true) (ot : Int) (wo : (Lit.int .i64 ot).wf = true) (sm : Int) (ws : (Lit.int .i64 sm).wf = true) (w : World) :
    Calls Try.prog 6 #[.agg (hdC h).toArray, .int .i64 rp, .int .i64 ot, .int .i64 sm] w fun e w' => e = .returned (.bool true) ∧ Below w.heap.size w w' := by
  clear wr wo ws
  have X0 := rangeAt_new w (hdC h) 36
  have K0 := (Below.refl w.heap.size w).alloc (Nat.le_refl _) (.cells (hdC h).toArray 36)
  have hz0 : w.heap.size < (w.alloc (.cells (hdC h).toArray 36)).heap.size := by simp
  obtain ⟨R, hR⟩ : ∃ R, Hid (restOf h rp ot sm = R) := ⟨_, rfl⟩
  go_enter Try.func6, Try.ntmps6
  go_wp2_with (refine wpList_load_mid rfl 36 (.tmp 4) rfl w.heap.size 0 rfl (hdC h) _ ?hc Try.underlying36 rfl (sizeLHand' h) ?_)
  case hc => exact X0
  generalize hw0 : w.alloc (.cells (hdC h).toArray 36) = w0 at *
  clear hw0
  refine (toHand_any h _).mono ?_
  rintro e w1 ⟨rfl, b1⟩
  have X1 := rangeAt_below X0 b1 hz0
  have K1 := K0.trans (b1.mono (by omega))
  have hz1 := Nat.lt_of_lt_of_le hz0 b1.size
  clear X0 K0 b1 hz0
  go_wp2_with fail
  refine (specResting_any h rp ot sm _).mono ?_
  rintro e w2 ⟨rfl, b2⟩
  rw [hR.out]
  have X2 := rangeAt_below X1 b2 hz1
  have K2 := K1.trans (b2.mono (by omega))
  have hz2 := Nat.lt_of_lt_of_le hz1 b2.size
  clear X1 K1 b2 hz1
  have hset2 : (w2.alloc (.cells #[.int .i64 0, .int .i64 0, .int .i64 0, .int .i64 0, .int .i64 0, .int .i64 0, .int .i64 0, .int .i64 0, .int .i64 0, .int .i64 0, .int .i64 0, .int .i64 0, .int .i64 0, .int .i64 0, .int .i64 0, .int .i64 0, .int .i64 0, .int .i64 0, .int .i64 0, .int .i64 0, .int .i64 0, .int .i64 0] 25)).setCells w2.heap.size 0 (hdC R).toArray.toList = w2.alloc (.cells (hdC R).toArray 25) := alloc_setCells w2 25 (hdC R) [] [.int .i64 0, .int .i64 0, .int .i64 0, .int .i64 0, .int .i64 0, .int .i64 0, .int .i64 0, .int .i64 0, .int .i64 0, .int .i64 0, .int .i64 0, .int .i64 0, .int .i64 0, .int .i64 0, .int .i64 0, .int .i64 0, .int .i64 0, .int .i64 0, .int .i64 0, .int .i64 0, .int .i64 0, .int .i64 0] rfl
  have FA2 := there_new w2 #[.int .i64 0, .int .i64 0, .int .i64 0, .int .i64 0, .int .i64 0, .int .i64 0, .int .i64 0, .int .i64 0, .int .i64 0, .int .i64 0, .int .i64 0, .int .i64 0, .int .i64 0, .int .i64 0, .int .i64 0, .int .i64 0, .int .i64 0, .int .i64 0, .int .i64 0, .int .i64 0, .int .i64 0, .int .i64 0] 25 22 (by decide)
  have X3 := World.rangeAt_alloc X2 (.cells (hdC R).toArray 25)
  have Y3 := rangeAt_new w2 (hdC R) 25
  have K3 := K2.alloc (by omega) (.cells (hdC R).toArray 25)
  have hz3 : w2.heap.size < (w2.alloc (.cells (hdC R).toArray 25)).heap.size := by simp
  go_wp2_with (first | (refine wpList_store_mid rfl 25 (.tmp 9) (.tmp 16) rfl w2.heap.size 0 _ rfl rfl FA2 (sizeHand R) (oneHand R) ?_; rw [hset2]) | (refine wpList_load_mid rfl 36 (.tmp 4) rfl w.heap.size 0 rfl (hdC h) _ ?hc Try.underlying36 rfl (sizeLHand' h) ?_))
  case hc => exact X3
  generalize hw3 : w2.alloc (.cells (hdC R).toArray 25) = w3 at *
  clear hw3 hset2 FA2 X2 K2
  refine (toHand_any h _).mono ?_
  rintro e w4 ⟨rfl, b4⟩
  have Y4 := rangeAt_below Y3 b4 hz3
  have K4 := K3.trans (b4.mono (by omega))
  have hz4 := Nat.lt_of_lt_of_le hz3 b4.size
  clear X3 Y3 K3 b4 hz3
  go_wp2_with fail
  refine (resting_any h rp ot sm _).mono ?_
  rintro e w5 ⟨rfl, b5⟩
  rw [hR.out]
  have Y5 := rangeAt_below Y4 b5 hz4
  have K5 := K4.trans (b5.mono (by omega))
  have hz5 := Nat.lt_of_lt_of_le hz4 b5.size
  clear Y4 K4 b5 hz4
  have hset5 : (w5.alloc (.cells #[.int .i64 0, .int .i64 0, .int .i64 0, .int .i64 0, .int .i64 0, .int .i64 0, .int .i64 0, .int .i64 0, .int .i64 0, .int .i64 0, .int .i64 0, .int .i64 0, .int .i64 0, .int .i64 0, .int .i64 0, .int .i64 0, .int .i64 0, .int .i64 0, .int .i64 0, .int .i64 0, .int .i64 0, .int .i64 0] 25)).setCells w5.heap.size 0 (hdC R).toArray.toList = w5.alloc (.cells (hdC R).toArray 25) := alloc_setCells w5 25 (hdC R) [] [.int .i64 0, .int .i64 0, .int .i64 0, .int .i64 0, .int .i64 0, .int .i64 0, .int .i64 0, .int .i64 0, .int .i64 0, .int .i64 0, .int .i64 0, .int .i64 0, .int .i64 0, .int .i64 0, .int .i64 0, .int .i64 0, .int .i64 0, .int .i64 0, .int .i64 0, .int .i64 0, .int .i64 0, .int .i64 0] rfl
  have FA5 := there_new w5 #[.int .i64 0, .int .i64 0, .int .i64 0, .int .i64 0, .int .i64 0, .int .i64 0, .int .i64 0, .int .i64 0, .int .i64 0, .int .i64 0, .int .i64 0, .int .i64 0, .int .i64 0, .int .i64 0, .int .i64 0, .int .i64 0, .int .i64 0, .int .i64 0, .int .i64 0, .int .i64 0, .int .i64 0, .int .i64 0] 25 22 (by decide)
  have Y6 := World.rangeAt_alloc Y5 (.cells (hdC R).toArray 25)
  have Z6 := rangeAt_new w5 (hdC R) 25
  have K6 := K5.alloc (by omega) (.cells (hdC R).toArray 25)
  go_wp2_with (first | (refine wpList_store_mid rfl 25 (.tmp 10) (.tmp 22) rfl w5.heap.size 0 _ rfl rfl FA5 (sizeHand R) (oneHand R) ?_; rw [hset5]) | (refine wpList_load_mid rfl 25 (.tmp 10) rfl w5.heap.size 0 rfl (hdC R) _ ?hc Try.underlying25 rfl (sizeHandL R) ?_) | (refine wpList_load_mid rfl 25 (.tmp 9) rfl w2.heap.size 0 rfl (hdC R) _ ?hd Try.underlying25 rfl (sizeHandL R) ?_))
  case hc => exact Z6
  case hd => exact Y6
  refine (eqHand_any R _).mono ?_
  rintro e w9 ⟨rfl, b9⟩
  have K9 := K6.trans (b9.mono (by simp; omega))
  clear hset5 FA5
  go_wp2
  go_ret
  exact ⟨rfl, K9⟩

set_option maxRecDepth 100000 in
theorem resting_lifted (os : Os) (started : os.Started) (H : Type) (enc : TypeId × Value → H) :
    ReturnsInHanded {} Try.checked os 6 .any (Rows.fnExactRestingSpec.pre6 enc Try.prog Try.f6 Rows.fnExactRestingRow.domain false) (Rows.fnExactRestingSpec.post enc Try.prog Try.f6 false true false false) := by
  refine returnsInHanded_of_change (C := Try.checked) own started (by kernel_rfl) Try.func6
    (ChangeSpec.witness6 (enc := enc) (C := Try.checked) false ⟨#[], #[.agg #[.int .i64 0, .int .i64 0, .int .i64 0, .int .i64 0, .int .i64 0, .int .i64 0, .int .i64 0, .int .i64 0, .int .i64 0, .int .i64 0, .int .i64 0, .int .i64 0, .int .i64 0, .int .i64 0, .int .i64 0, .int .i64 0, .int .i64 0, .int .i64 0, .int .i64 0, .int .i64 0, .int .i64 0, .int .i64 0], .int .i64 0, .int .i64 0, .int .i64 0], []⟩ 8 (by kernel_rfl) (by kernel_rfl) (by kernel_rfl) (by kernel_rfl)) ?_
  intro W base args ds gs before hval0 hW hcnd _
  have hval : ∀ (j : Nat) t v, Try.f6.params[j]? = some t → args[j]? = some v → Value.okWide Try.prog W .any base t v := hval0
  have hW' := hW
  obtain ⟨p, q, hA0, hV, rfl, hfz, hnd⟩ := hW
  have hA : DataW.TrodAll enc Try.prog W 0 (fun _ => true) true Try.f6.params.toList args.toList ds p := hA0
  rw [Try.params6] at hA hval
  obtain ⟨v0, vs0, d0, ds0, p0, q0, hargs, rfl, rfl, h0, r0⟩ := trodAll_cons hA
  obtain ⟨v1, vs1, d1, ds1, p1, q1, rfl, rfl, rfl, h1, r1⟩ := trodAll_cons r0
  obtain ⟨v2, vs2, d2, ds2, p2, q2, rfl, rfl, rfl, h2, r2⟩ := trodAll_cons r1
  obtain ⟨v3, vs3, d3, ds3, p3, q3, rfl, rfl, rfl, h3, r3⟩ := trodAll_cons r2
  obtain ⟨rfl, rfl, rfl⟩ := trodAll_nil r3
  obtain rfl : args = #[v0, v1, v2, v3] := by cases args; simp_all
  obtain ⟨rfl, rfl⟩ := trodVars_none hV
  have k0 := h0
  have lt0 : ∀ x ∈ p0, x.block < W.heap.size := by obtain ⟨m, hm⟩ := k0; exact DataW.trod_lt m _ _ _ hm
  obtain ⟨hd0, hv0⟩ := open_hand (hval 0 36 v0 rfl rfl) h0
  subst hv0
  have k1 := h1
  have lt1 : ∀ x ∈ p1, x.block < W.heap.size := by obtain ⟨m, hm⟩ := k1; exact DataW.trod_lt m _ _ _ hm
  obtain ⟨x1, hv1, wx1⟩ : ∃ x, v1 = .int .i64 x ∧ (Lit.int .i64 x).wf = true := by
    obtain ⟨x, e1, _, _, wx⟩ := open_int Try.underlying2 (hval 1 2 v1 rfl rfl) h1
    exact ⟨x, e1, wx⟩
  subst hv1
  have k2 := h2
  have lt2 : ∀ x ∈ p2, x.block < W.heap.size := by obtain ⟨m, hm⟩ := k2; exact DataW.trod_lt m _ _ _ hm
  obtain ⟨x2, hv2, wx2⟩ : ∃ x, v2 = .int .i64 x ∧ (Lit.int .i64 x).wf = true := by
    obtain ⟨x, e1, _, _, wx⟩ := open_int Try.underlying2 (hval 2 2 v2 rfl rfl) h2
    exact ⟨x, e1, wx⟩
  subst hv2
  have k3 := h3
  have lt3 : ∀ x ∈ p3, x.block < W.heap.size := by obtain ⟨m, hm⟩ := k3; exact DataW.trod_lt m _ _ _ hm
  obtain ⟨x3, hv3, wx3⟩ : ∃ x, v3 = .int .i64 x ∧ (Lit.int .i64 x).wf = true := by
    obtain ⟨x, e1, _, _, wx⟩ := open_int Try.underlying2 (hval 3 2 v3 rfl rfl) h3
    exact ⟨x, e1, wx⟩
  subst hv3
  clear hA0 hval0
  refine (resting_walk hd0 x1 wx1 x2 wx2 x3 wx3 W ).mono fun e W' ⟨he, bel⟩ => ?_
  subst he
  exact ⟨_, rfl, _, _, _, [], _, [], hW', trodAll_mk1 (shut_bool Try.underlying4 _), (trodAll_cons_mk (Below.trod laidOut (by kernel_rfl) (of_decide_eq_true (by kernel_rfl)) k0 bel lt0) (trodAll_cons_mk (Below.trod laidOut (by kernel_rfl) (of_decide_eq_true (by kernel_rfl)) k1 bel lt1) (trodAll_cons_mk (Below.trod laidOut (by kernel_rfl) (of_decide_eq_true (by kernel_rfl)) k2 bel lt2) (trodAll_cons_mk (Below.trod laidOut (by kernel_rfl) (of_decide_eq_true (by kernel_rfl)) k3 bel lt3) trodAll_mk0)))), rfl, bel.frame _, fun h => by cases h⟩

/-- The given statement. -/
theorem resting_holds : Rows.FnExactRestingSaid :=
  OpenClaim.holds_of_wide 6 Try.f6 rfl rfl rfl rfl rfl rfl rfl ⟨rfl, rfl, rfl, rfl, rfl⟩ rfl rfl rfl rfl rfl (by kernel_rfl) Try.func6 (by kernel_rfl)
    (of_decide_eq_true (by kernel_rfl)) (by unfold Func.isWrapper; first | (rw [if_pos (by decide +kernel)]; kernel_rfl) | (rw [if_neg (by decide +kernel)]; exact ⟨rfl, rfl⟩))
    (fun os started H enc _ => resting_lifted os started H enc)
#print axioms resting_holds

end Go.Proofs.Ytlmfgaacbedbcaa
