/-
  HandOk answers as the document's model does: at every Plan and every Hand the law of HandOk returns true and leaves its arguments as they were. No condition.
-/
import Derived.Test.YtcgjkodpmloccaaHandArgs
import Derived.Test.YtcgjkodpmloccaaAnyOrder
import Derived.Test.YtcgjkodpmloccaaLawRows
import Derived.Test.YtcgjkodpmloccaaImplHand
namespace Go.Proofs.Ytcgjkodpmloccaa
open Go.ChangeShapes Go.WideShapes Go.ChangeAt Go.RowKit
set_option linter.unusedVariables false
attribute [local go_sem ↓] Go.wp_at_zero Go.wp_at_succ

set_option maxRecDepth 100000 in
set_option maxHeartbeats 4000000 in
theorem handOk_walk (x y z u : Int) (wx : (Lit.int .i64 x).wf = true) (wy : (Lit.int .i64 y).wf = true) (wz : (Lit.int .i64 z).wf = true) (wu : (Lit.int .i64 u).wf = true) (h : Hd) (w : World) :
    Calls Try.prog 4 #[.agg #[.int .i64 x, .int .i64 y, .int .i64 z, .int .i64 u], .agg (hdC h).toArray] w fun e w' => e = .returned (.bool true) ∧ Below w.heap.size w w' := by
  clear wx wy wz wu
  have P0 := (planAt_alloc w x y z u 23).below ((Below.refl _ _).alloc (Nat.le_refl _) (.cells (hdC h).toArray 36)) (by simp)
  have X0 := rangeAt_new (w.alloc (.cells #[.int .i64 x, .int .i64 y, .int .i64 z, .int .i64 u] 23)) (hdC h) 36
  have K0 := ((Below.refl w.heap.size w).alloc (Nat.le_refl _) (.cells #[.int .i64 x, .int .i64 y, .int .i64 z, .int .i64 u] 23)).alloc (by simp) (.cells (hdC h).toArray 36)
  have hz0 : w.heap.size + 1 < ((w.alloc (.cells #[.int .i64 x, .int .i64 y, .int .i64 z, .int .i64 u] 23)).alloc (.cells (hdC h).toArray 36)).heap.size := by simp
  have hz0p : w.heap.size < ((w.alloc (.cells #[.int .i64 x, .int .i64 y, .int .i64 z, .int .i64 u] 23)).alloc (.cells (hdC h).toArray 36)).heap.size := by simp; omega
  simp only [World.size_alloc] at X0
  go_enter Try.func4, Try.ntmps4
  go_wp2_with fail
  generalize hw0 : (w.alloc (.cells #[.int .i64 x, .int .i64 y, .int .i64 z, .int .i64 u] 23)).alloc (.cells (hdC h).toArray 36) = w0 at *
  clear hw0
  refine any_order_calls (by kernel_rfl) (fun i v _ => match i with | 0 => v = .agg #[.int .i64 x, .int .i64 y, .int .i64 z, .int .i64 u] | 1 => v = .agg #[.int .i64 x, .int .i64 y, .int .i64 z, .int .i64 u] | 2 => v = .agg (hdC h).toArray | 3 => v = .agg (hdC h).toArray | _ => v = .bool (handB x y z u h)) (fun _ => false) (by kernel_rfl) (by kernel_rfl) (by kernel_rfl) (by rfl) (fun _ _ _ _ _ h _ => h) (fun _ _ _ _ h => by cases h) ?step ?final
  case step =>
    intro i o ho a W hb hn hd _ K hK
    have PW := P0.below hb hz0p
    have XW := rangeAt_below X0 hb hz0
    match i, ho with
    | 0, ho =>
      obtain rfl := Option.some.inj ho
      exact step_load 23 (.tmp 2) rfl w.heap.size 0 (hn 2 rfl) [.int .i64 x, .int .i64 y, .int .i64 z, .int .i64 u] _ (planRow PW) Try.underlying23 rfl sizeLPlan (hK _ _ rfl (Below.refl _ _) (fun h => by cases h))
    | 1, ho =>
      obtain rfl := Option.some.inj ho
      have e1 : a.eval (.tmp 7) = .agg #[.int .i64 x, .int .i64 y, .int .i64 z, .int .i64 u] := hd ⟨0, .data⟩ (by simp) rfl 7 rfl
      have ef : a.eval (.func 10) = .func (.func 10) #[] #[] := rfl
      refine step_call (f := 10) (args := #[.agg #[.int .i64 x, .int .i64 y, .int .i64 z, .int .i64 u]]) (R := fun v w' => v = .agg #[.int .i64 x, .int .i64 y, .int .i64 z, .int .i64 u] ∧ Below W.heap.size W w') ?_ ((toPlan_any _ _ _ _ _).mono (fun e w' h => ⟨_, h.1, rfl, h.2⟩)) (fun v w' h => hK v w' h.1 h.2 (fun h => by cases h))
      generalize a.eval = ev at *
      go_simp
    | 2, ho =>
      obtain rfl := Option.some.inj ho
      exact step_load 36 (.tmp 3) rfl (w.heap.size + 1) 0 (hn 3 rfl) (hdC h) _ XW Try.underlying36 rfl (sizeLHand h) (hK _ _ rfl (Below.refl _ _) (fun h => by cases h))
    | 3, ho =>
      obtain rfl := Option.some.inj ho
      have e1 : a.eval (.tmp 9) = .agg (hdC h).toArray := hd ⟨2, .data⟩ (by simp) rfl 9 rfl
      have ef : a.eval (.func 16) = .func (.func 16) #[] #[] := rfl
      refine step_call (f := 16) (args := #[.agg (hdC h).toArray]) (R := fun v w' => v = .agg (hdC h).toArray ∧ Below W.heap.size W w') ?_ ((toHand_any h _).mono (fun e w' h => ⟨_, h.1, rfl, h.2⟩)) (fun v w' h => hK v w' h.1 h.2 (fun h => by cases h))
      generalize a.eval = ev at *
      go_simp
    | 4, ho =>
      obtain rfl := Option.some.inj ho
      have e1 : a.eval (.tmp 8) = .agg #[.int .i64 x, .int .i64 y, .int .i64 z, .int .i64 u] := hd ⟨1, .data⟩ (by simp) rfl 8 rfl
      have e2 : a.eval (.tmp 10) = .agg (hdC h).toArray := hd ⟨3, .data⟩ (by simp) rfl 10 rfl
      have ef : a.eval (.func 15) = .func (.func 15) #[] #[] := rfl
      refine step_call (f := 15) (args := #[.agg #[.int .i64 x, .int .i64 y, .int .i64 z, .int .i64 u], .agg (hdC h).toArray]) (R := fun v w' => v = .bool (handB x y z u h) ∧ Below W.heap.size W w') ?_ ((specHandOk_any x y z u h _).mono (fun e w' h => ⟨_, h.1, rfl, h.2⟩)) (fun v w' h => hK v w' h.1 h.2 (fun h => by cases h))
      generalize a.eval = ev at *
      go_simp
    | 5, ho =>
      obtain rfl := Option.some.inj ho
      have e1 : a.eval (.tmp 11) = .bool (handB x y z u h) := hd ⟨4, .data⟩ (by simp) rfl 11 rfl
      refine step_value (v := .bool (handB x y z u h)) (w' := W) ?_ (hK _ _ rfl (Below.refl _ _) (fun h => by cases h))
      generalize a.eval = ev at *
      go_simp
    | n + 6, ho => exact absurd ho (by simp)
  case final =>
    intro vs W hb hG _
    have g5 : vs 5 = .bool (handB x y z u h) := hG 5 (by decide)
    have P1 := P0.below hb hz0p
    have X1 := rangeAt_below X0 hb hz0
    have K1 := K0.trans (hb.mono (by omega))
    have z1 := hb.size
    generalize hl : laid _ vs _ _ _ = A
    have hA : A = { tmps := #[.agg #[.int .i64 x, .int .i64 y, .int .i64 z, .int .i64 u], .agg (hdC h).toArray, .pointer (some ⟨w.heap.size, 0, none⟩), .pointer (some ⟨w.heap.size + 1, 0, none⟩), .bool false, vs 5, undef, vs 0, vs 1, vs 2, vs 3, vs 4, undef, undef, undef, undef, undef, undef, undef, undef], defers := [] } := by
      rw [← hl]
      kernel_rfl
    subst hA
    rw [g5]
    clear hl hG g5 hb P0 X0 K0
    have hz1 : w.heap.size + 1 < W.heap.size := by omega
    have hz1p : w.heap.size < W.heap.size := by omega
    go_wp2_with fail
    refine any_order_calls (by kernel_rfl) (fun i v _ => match i with | 0 => v = .agg #[.int .i64 x, .int .i64 y, .int .i64 z, .int .i64 u] | 1 => v = .agg #[.int .i64 x, .int .i64 y, .int .i64 z, .int .i64 u] | 2 => v = .agg (hdC h).toArray | 3 => v = .agg (hdC h).toArray | _ => v = .bool (handB x y z u h)) (fun _ => false) (by kernel_rfl) (by kernel_rfl) (by kernel_rfl) (by rfl) (fun _ _ _ _ _ h _ => h) (fun _ _ _ _ h => by cases h) ?step ?final
    case step =>
      intro i o ho a W hb hn hd _ K hK
      have PW := P1.below hb hz1p
      have XW := rangeAt_below X1 hb hz1
      match i, ho with
      | 0, ho =>
        obtain rfl := Option.some.inj ho
        exact step_load 23 (.tmp 2) rfl w.heap.size 0 (hn 2 rfl) [.int .i64 x, .int .i64 y, .int .i64 z, .int .i64 u] _ (planRow PW) Try.underlying23 rfl sizeLPlan (hK _ _ rfl (Below.refl _ _) (fun h => by cases h))
      | 1, ho =>
        obtain rfl := Option.some.inj ho
        have e1 : a.eval (.tmp 12) = .agg #[.int .i64 x, .int .i64 y, .int .i64 z, .int .i64 u] := hd ⟨0, .data⟩ (by simp) rfl 12 rfl
        have ef : a.eval (.func 10) = .func (.func 10) #[] #[] := rfl
        refine step_call (f := 10) (args := #[.agg #[.int .i64 x, .int .i64 y, .int .i64 z, .int .i64 u]]) (R := fun v w' => v = .agg #[.int .i64 x, .int .i64 y, .int .i64 z, .int .i64 u] ∧ Below W.heap.size W w') ?_ ((toPlan_any _ _ _ _ _).mono (fun e w' h => ⟨_, h.1, rfl, h.2⟩)) (fun v w' h => hK v w' h.1 h.2 (fun h => by cases h))
        generalize a.eval = ev at *
        go_simp
      | 2, ho =>
        obtain rfl := Option.some.inj ho
        exact step_load 36 (.tmp 3) rfl (w.heap.size + 1) 0 (hn 3 rfl) (hdC h) _ XW Try.underlying36 rfl (sizeLHand h) (hK _ _ rfl (Below.refl _ _) (fun h => by cases h))
      | 3, ho =>
        obtain rfl := Option.some.inj ho
        have e1 : a.eval (.tmp 14) = .agg (hdC h).toArray := hd ⟨2, .data⟩ (by simp) rfl 14 rfl
        have ef : a.eval (.func 16) = .func (.func 16) #[] #[] := rfl
        refine step_call (f := 16) (args := #[.agg (hdC h).toArray]) (R := fun v w' => v = .agg (hdC h).toArray ∧ Below W.heap.size W w') ?_ ((toHand_any h _).mono (fun e w' h => ⟨_, h.1, rfl, h.2⟩)) (fun v w' h => hK v w' h.1 h.2 (fun h => by cases h))
        generalize a.eval = ev at *
        go_simp
      | 4, ho =>
        obtain rfl := Option.some.inj ho
        have e1 : a.eval (.tmp 13) = .agg #[.int .i64 x, .int .i64 y, .int .i64 z, .int .i64 u] := hd ⟨1, .data⟩ (by simp) rfl 13 rfl
        have e2 : a.eval (.tmp 15) = .agg (hdC h).toArray := hd ⟨3, .data⟩ (by simp) rfl 15 rfl
        have ef : a.eval (.func 17) = .func (.func 17) #[] #[] := rfl
        refine step_call (f := 17) (args := #[.agg #[.int .i64 x, .int .i64 y, .int .i64 z, .int .i64 u], .agg (hdC h).toArray]) (R := fun v w' => v = .bool (handB x y z u h) ∧ Below W.heap.size W w') ?_ ((handOk_any x y z u h _).mono (fun e w' h => ⟨_, h.1, rfl, h.2⟩)) (fun v w' h => hK v w' h.1 h.2 (fun h => by cases h))
        generalize a.eval = ev at *
        go_simp
      | 5, ho =>
        obtain rfl := Option.some.inj ho
        have e1 : a.eval (.tmp 16) = .bool (handB x y z u h) := hd ⟨4, .data⟩ (by simp) rfl 16 rfl
        refine step_value (v := .bool (handB x y z u h)) (w' := W) ?_ (hK _ _ rfl (Below.refl _ _) (fun h => by cases h))
        generalize a.eval = ev at *
        go_simp
      | n + 6, ho => exact absurd ho (by simp)
    case final =>
      intro vs2 W2 hb hG _
      have g5 : vs2 5 = .bool (handB x y z u h) := hG 5 (by decide)
      have K2 := K1.trans (hb.mono (by omega))
      generalize hl : laid _ vs2 _ _ _ = A
      have hA : A = { tmps := #[.agg #[.int .i64 x, .int .i64 y, .int .i64 z, .int .i64 u], .agg (hdC h).toArray, .pointer (some ⟨w.heap.size, 0, none⟩), .pointer (some ⟨w.heap.size + 1, 0, none⟩), .bool false, .bool (handB x y z u h), vs2 5, vs 0, vs 1, vs 2, vs 3, vs 4, vs2 0, vs2 1, vs2 2, vs2 3, vs2 4, undef, undef, undef], defers := [] } := by
        rw [← hl]
        kernel_rfl
      subst hA
      rw [g5]
      clear hl hG g5 hb
      go_wp2
      go_ret
      exact ⟨rfl, K2⟩

set_option maxRecDepth 100000 in
theorem handOk_lifted (os : Os) (started : os.Started) (H : Type) (enc : TypeId × Value → H) :
    ReturnsInHanded {} Try.checked os 4 .any (Rows.fnExactHandOkSpec.pre6 enc Try.prog Try.f4 Rows.fnExactHandOkRow.domain false) (Rows.fnExactHandOkSpec.post enc Try.prog Try.f4 false true false false) := by
  refine returnsInHanded_of_change (C := Try.checked) own started (by kernel_rfl) Try.func4
    (ChangeSpec.witness6 (enc := enc) (C := Try.checked) false ⟨#[], #[.agg #[.int .i64 0, .int .i64 0, .int .i64 0, .int .i64 0], .agg #[.int .i64 0, .int .i64 0, .int .i64 0, .int .i64 0, .int .i64 0, .int .i64 0, .int .i64 0, .int .i64 0, .int .i64 0, .int .i64 0, .int .i64 0, .int .i64 0, .int .i64 0, .int .i64 0, .int .i64 0, .int .i64 0, .int .i64 0, .int .i64 0, .int .i64 0, .int .i64 0, .int .i64 0, .int .i64 0]], []⟩ 8 (by kernel_rfl) (by kernel_rfl) (by kernel_rfl) (by kernel_rfl)) ?_
  intro W base args ds gs before hval0 hW hcnd _
  have hval : ∀ (j : Nat) t v, Try.f4.params[j]? = some t → args[j]? = some v → Value.okWide Try.prog W .any base t v := hval0
  have hW' := hW
  obtain ⟨p, q, hA0, hV, rfl, hfz, hnd⟩ := hW
  have hA : DataW.TrodAll enc Try.prog W 0 (fun _ => true) true Try.f4.params.toList args.toList ds p := hA0
  rw [Try.params4] at hA hval
  obtain ⟨v0, vs0, d0, ds0, p0, q0, hargs, rfl, rfl, h0, r0⟩ := trodAll_cons hA
  obtain ⟨v1, vs1, d1, ds1, p1, q1, rfl, rfl, rfl, h1, r1⟩ := trodAll_cons r0
  obtain ⟨rfl, rfl, rfl⟩ := trodAll_nil r1
  obtain rfl : args = #[v0, v1] := by cases args; simp_all
  obtain ⟨rfl, rfl⟩ := trodVars_none hV
  have k0 := h0
  have lt0 : ∀ x ∈ p0, x.block < W.heap.size := by obtain ⟨m, hm⟩ := k0; exact DataW.trod_lt m _ _ _ hm
  obtain ⟨x0, y0, z0, u0, hv0, wx0, wy0, wz0, wu0⟩ := open_plan (hval 0 23 v0 rfl rfl) h0
  subst hv0
  have k1 := h1
  have lt1 : ∀ x ∈ p1, x.block < W.heap.size := by obtain ⟨m, hm⟩ := k1; exact DataW.trod_lt m _ _ _ hm
  obtain ⟨hd1, hv1⟩ := open_hand (hval 1 36 v1 rfl rfl) h1
  subst hv1
  clear hA0 hval0
  refine (handOk_walk x0 y0 z0 u0 wx0 wy0 wz0 wu0 hd1 W ).mono fun e W' ⟨he, bel⟩ => ?_
  subst he
  exact ⟨_, rfl, _, _, _, [], _, [], hW', trodAll_mk1 (shut_bool Try.underlying4 _), (trodAll_cons_mk (Below.trod laidOut (by kernel_rfl) (of_decide_eq_true (by kernel_rfl)) k0 bel lt0) (trodAll_cons_mk (Below.trod laidOut (by kernel_rfl) (of_decide_eq_true (by kernel_rfl)) k1 bel lt1) trodAll_mk0)), rfl, bel.frame _, fun h => by cases h⟩

/-- The given statement. -/
theorem handOk_holds : Rows.FnExactHandOkSaid :=
  OpenClaim.holds_of_wide 4 Try.f4 rfl rfl rfl rfl rfl rfl rfl ⟨rfl, rfl, rfl, rfl, rfl⟩ rfl rfl rfl rfl rfl (by kernel_rfl) Try.func4 (by kernel_rfl)
    (of_decide_eq_true (by kernel_rfl)) (by unfold Func.isWrapper; first | (rw [if_pos (by decide +kernel)]; kernel_rfl) | (rw [if_neg (by decide +kernel)]; exact ⟨rfl, rfl⟩))
    (fun os started H enc _ => handOk_lifted os started H enc)
#print axioms handOk_holds

end Go.Proofs.Ytcgjkodpmloccaa
