/-
  Called answers as the document's model does: at every Plan, Hand and three numbers the law of Called returns true and leaves its arguments as they were. No condition.
-/
import Derived.Test.YtcgjkodpmloccaaHandArgs
import Derived.Test.YtcgjkodpmloccaaLawRows
import Derived.Test.YtcgjkodpmloccaaImplCall
import Derived.Test.YtcgjkodpmloccaaTail3
import Derived.Deep.Cut
import Derived.Test.YtcgjkodpmloccaaOnly
namespace Go.Proofs.Ytcgjkodpmloccaa
open Go.ChangeShapes Go.WideShapes Go.ChangeAt Go.RowKit
set_option linter.unusedVariables false
attribute [local go_sem ↓] Go.wp_at_zero Go.wp_at_succ

/-- What each operation of a call leaves. -/
def calledG (lo : Nat) (x y z u c k v : Int) (h R : Hd) (cd : Int) : Nat → Value → World → Prop
  | 0, v', _ => v' = .agg #[.int .i64 x, .int .i64 y, .int .i64 z, .int .i64 u]
  | 1, v', _ => v' = .agg #[.int .i64 x, .int .i64 y, .int .i64 z, .int .i64 u]
  | 2, v', _ => v' = .agg (hdC h).toArray
  | 3, v', _ => v' = .agg (hdC h).toArray
  | 4, v', _ => v' = .int .i64 c
  | 5, v', _ => v' = .int .i64 k
  | 6, v', _ => v' = .int .i64 v
  | 7, v', _ => v' = .tuple #[.agg (hdC R).toArray, .int .i64 cd]
  | 8, v', _ => v' = .tuple #[.agg (hdC R).toArray, .int .i64 cd]
  | 9, v', _ => v' = .agg (hdC R).toArray
  | 10, v', _ => v' = .int .i64 cd
  | 11, v', w => ∃ b, v' = .pointer (some ⟨b, 0, none⟩) ∧ lo ≤ b ∧ b < w.heap.size ∧ w.there b 0 22
  | _, _, _ => True
theorem calledG_kept {lo : Nat} {x y z u c k v : Int} {h R : Hd} {cd : Int} (i : Nat) (v' : Value) (w w' : World) (hq : calledG lo x y z u c k v h R cd i v' w) (hb : Below w.heap.size w w') : calledG lo x y z u c k v h R cd i v' w' := by
  match i, hq with
  | 0, h | 1, h | 2, h | 3, h | 4, h | 5, h | 6, h | 7, h | 8, h | 9, h | 10, h => exact h
  | 11, h =>
    obtain ⟨b, e, h1, h2, h3⟩ := h
    exact ⟨b, e, h1, Nat.lt_of_lt_of_le h2 hb.size, there_below h3 hb h2⟩
  | n + 12, h => exact trivial

set_option maxRecDepth 100000 in
set_option maxHeartbeats 8000000 in
theorem called_walk (x y z u : Int) (wx : (Lit.int .i64 x).wf = true) (wy : (Lit.int .i64 y).wf = true) (wz : (Lit.int .i64 z).wf = true) (wu : (Lit.int .i64 u).wf = true) (h : Hd) (c : Int) (wc : (Lit.int .i64 c).wf = true) (k : Int) (wk : (Lit.int .i64 k).wf = true) (v : Int) (wv : (Lit.int .i64 v).wf = true) (w : World) :
    Calls Try.prog 5 #[.agg #[.int .i64 x, .int .i64 y, .int .i64 z, .int .i64 u], .agg (hdC h).toArray, .int .i64 c, .int .i64 k, .int .i64 v] w fun e w' => e = .returned (.bool true) ∧ Below w.heap.size w w' := by
  clear wx wy wz wu wc wk wv
  have P0 := (planAt_alloc w x y z u 23).below ((Below.refl _ _).alloc (Nat.le_refl _) (.cells (hdC h).toArray 36)) (by simp)
  have X0 := rangeAt_new (w.alloc (.cells #[.int .i64 x, .int .i64 y, .int .i64 z, .int .i64 u] 23)) (hdC h) 36
  have K0 := ((Below.refl w.heap.size w).alloc (Nat.le_refl _) (.cells #[.int .i64 x, .int .i64 y, .int .i64 z, .int .i64 u] 23)).alloc (by simp) (.cells (hdC h).toArray 36)
  have hz0 : w.heap.size + 1 < ((w.alloc (.cells #[.int .i64 x, .int .i64 y, .int .i64 z, .int .i64 u] 23)).alloc (.cells (hdC h).toArray 36)).heap.size := by simp
  have hz0p : w.heap.size < ((w.alloc (.cells #[.int .i64 x, .int .i64 y, .int .i64 z, .int .i64 u] 23)).alloc (.cells (hdC h).toArray 36)).heap.size := by simp; omega
  simp only [World.size_alloc] at X0
  obtain ⟨R, hR⟩ : ∃ R, Hid (calledOf x y z u h c k v = R) := ⟨_, rfl⟩
  obtain ⟨cd, hC⟩ : ∃ cd, Hid (codeOf x y z u h c k v = cd) := ⟨_, rfl⟩
  go_enter Try.func5, Try.ntmps5
  go_upto_region 1 with fail
  generalize hw0 : (w.alloc (.cells #[.int .i64 x, .int .i64 y, .int .i64 z, .int .i64 u] 23)).alloc (.cells (hdC h).toArray 36) = w0 at *
  clear hw0
  refine any_order_floatT 12 10 (by decide) (by kernel_rfl) (calledG w0.heap.size x y z u c k v h R cd) (fun _ => false) (by kernel_rfl) (by kernel_rfl) (by kernel_rfl) (by kernel_rfl) (by kernel_rfl) (by rfl) (fun i v' w w' _ hq hb => calledG_kept i v' w w' hq hb) (fun _ _ _ _ h => by cases h) ?step1 (fun _ _ _ _ h => h) ?float1 ?final1
  case float1 =>
    intro o ho a W hd
    obtain rfl := Option.some.inj ho
    have e1 : a.eval (.tmp 15) = .tuple #[.agg (hdC R).toArray, .int .i64 cd] := hd ⟨8, .data⟩ (by simp) rfl 15 rfl
    refine ⟨.int .i64 cd, fun w' => ?_, rfl, rfl⟩
    generalize a.eval = ev at *
    go_simp
  case step1 =>
    intro i o hik ho a W hb hn hd K hK
    have PW := P0.below hb hz0p
    have XW := rangeAt_below X0 hb hz0
    match i, ho with
    | 0, ho =>
      obtain rfl := Option.some.inj ho
      exact step_load 23 (.tmp 5) rfl w.heap.size 0 (hn 5 rfl) [.int .i64 x, .int .i64 y, .int .i64 z, .int .i64 u] _ (planRow PW) Try.underlying23 rfl sizeLPlan (hK _ _ rfl (Below.refl _ _) (fun h => by cases h))
    | 1, ho =>
      obtain rfl := Option.some.inj ho
      have e1 : a.eval (.tmp 16) = .agg #[.int .i64 x, .int .i64 y, .int .i64 z, .int .i64 u] := hd ⟨0, .data⟩ (by simp) rfl 16 rfl
      have ef : a.eval (.func 10) = .func (.func 10) #[] #[] := rfl
      refine step_call (f := 10) (args := #[.agg #[.int .i64 x, .int .i64 y, .int .i64 z, .int .i64 u]]) (R := fun v w' => v = .agg #[.int .i64 x, .int .i64 y, .int .i64 z, .int .i64 u] ∧ Below W.heap.size W w') ?_ ((toPlan_any _ _ _ _ _).mono (fun e w' h => ⟨_, h.1, rfl, h.2⟩)) (fun v w' h => hK v w' h.1 h.2 (fun h => by cases h))
      generalize a.eval = ev at *
      go_simp
    | 2, ho =>
      obtain rfl := Option.some.inj ho
      exact step_load 36 (.tmp 6) rfl (w.heap.size + 1) 0 (hn 6 rfl) (hdC h) _ XW Try.underlying36 rfl (sizeLHand h) (hK _ _ rfl (Below.refl _ _) (fun h => by cases h))
    | 3, ho =>
      obtain rfl := Option.some.inj ho
      have e1 : a.eval (.tmp 18) = .agg (hdC h).toArray := hd ⟨2, .data⟩ (by simp) rfl 18 rfl
      have ef : a.eval (.func 16) = .func (.func 16) #[] #[] := rfl
      refine step_call (f := 16) (args := #[.agg (hdC h).toArray]) (R := fun v w' => v = .agg (hdC h).toArray ∧ Below W.heap.size W w') ?_ ((toHand_any h _).mono (fun e w' h => ⟨_, h.1, rfl, h.2⟩)) (fun v w' h => hK v w' h.1 h.2 (fun h => by cases h))
      generalize a.eval = ev at *
      go_simp
    | 4, ho =>
      obtain rfl := Option.some.inj ho
      have e1 : a.eval (.tmp 2) = .int .i64 c := hn 2 rfl
      refine step_value (v := .int .i64 c) (w' := W) ?_ (hK _ _ rfl (Below.refl _ _) (fun h => by cases h))
      generalize a.eval = ev at *
      go_simp
    | 5, ho =>
      obtain rfl := Option.some.inj ho
      have e1 : a.eval (.tmp 3) = .int .i64 k := hn 3 rfl
      refine step_value (v := .int .i64 k) (w' := W) ?_ (hK _ _ rfl (Below.refl _ _) (fun h => by cases h))
      generalize a.eval = ev at *
      go_simp
    | 6, ho =>
      obtain rfl := Option.some.inj ho
      have e1 : a.eval (.tmp 4) = .int .i64 v := hn 4 rfl
      refine step_value (v := .int .i64 v) (w' := W) ?_ (hK _ _ rfl (Below.refl _ _) (fun h => by cases h))
      generalize a.eval = ev at *
      go_simp
    | 7, ho =>
      obtain rfl := Option.some.inj ho
      have e1 : a.eval (.tmp 17) = .agg #[.int .i64 x, .int .i64 y, .int .i64 z, .int .i64 u] := hd ⟨1, .data⟩ (by simp) rfl 17 rfl
      have e2 : a.eval (.tmp 19) = .agg (hdC h).toArray := hd ⟨3, .data⟩ (by simp) rfl 19 rfl
      have e3 : a.eval (.tmp 20) = .int .i64 c := hd ⟨4, .data⟩ (by simp) rfl 20 rfl
      have e4 : a.eval (.tmp 21) = .int .i64 k := hd ⟨5, .data⟩ (by simp) rfl 21 rfl
      have e5 : a.eval (.tmp 22) = .int .i64 v := hd ⟨6, .data⟩ (by simp) rfl 22 rfl
      have ef : a.eval (.func 18) = .func (.func 18) #[] #[] := rfl
      refine step_call (f := 18) (args := #[.agg #[.int .i64 x, .int .i64 y, .int .i64 z, .int .i64 u], .agg (hdC h).toArray, .int .i64 c, .int .i64 k, .int .i64 v]) (R := fun v w' => v = .tuple #[.agg (hdC R).toArray, .int .i64 cd] ∧ Below W.heap.size W w') ?_ ((specCalled_any x y z u h c k v _).mono (fun e w' h => ⟨_, h.1, by rw [hR.out, hC.out], h.2⟩)) (fun v w' h => hK v w' h.1 h.2 (fun h => by cases h))
      generalize a.eval = ev at *
      go_simp
    | 8, ho =>
      obtain rfl := Option.some.inj ho
      have e1 : a.eval (.tmp 23) = .tuple #[.agg (hdC R).toArray, .int .i64 cd] := hd ⟨7, .data⟩ (by simp) rfl 23 rfl
      refine step_value (v := .tuple #[.agg (hdC R).toArray, .int .i64 cd]) (w' := W) ?_ (hK _ _ rfl (Below.refl _ _) (fun h => by cases h))
      generalize a.eval = ev at *
      go_simp
    | 9, ho =>
      obtain rfl := Option.some.inj ho
      have e1 : a.eval (.tmp 15) = .tuple #[.agg (hdC R).toArray, .int .i64 cd] := hd ⟨8, .data⟩ (by simp) rfl 15 rfl
      refine step_value (v := .agg (hdC R).toArray) (w' := W) ?_ (hK _ _ rfl (Below.refl _ _) (fun h => by cases h))
      generalize a.eval = ev at *
      go_simp
    | 10, ho =>
      obtain rfl := Option.some.inj ho
      have e1 : a.eval (.tmp 15) = .tuple #[.agg (hdC R).toArray, .int .i64 cd] := hd ⟨8, .data⟩ (by simp) rfl 15 rfl
      refine step_value (v := .int .i64 cd) (w' := W) ?_ (hK _ _ rfl (Below.refl _ _) (fun h => by cases h))
      generalize a.eval = ev at *
      go_simp
    | 11, ho =>
      obtain rfl := Option.some.inj ho
      refine step_value (v := .pointer (some ⟨W.heap.size, 0, none⟩)) (w' := W.alloc (.cells #[.int .i64 0, .int .i64 0, .int .i64 0, .int .i64 0, .int .i64 0, .int .i64 0, .int .i64 0, .int .i64 0, .int .i64 0, .int .i64 0, .int .i64 0, .int .i64 0, .int .i64 0, .int .i64 0, .int .i64 0, .int .i64 0, .int .i64 0, .int .i64 0, .int .i64 0, .int .i64 0, .int .i64 0, .int .i64 0] 38)) ?_ (hK _ _ ⟨W.heap.size, rfl, hb.size, by simp, there_new W #[.int .i64 0, .int .i64 0, .int .i64 0, .int .i64 0, .int .i64 0, .int .i64 0, .int .i64 0, .int .i64 0, .int .i64 0, .int .i64 0, .int .i64 0, .int .i64 0, .int .i64 0, .int .i64 0, .int .i64 0, .int .i64 0, .int .i64 0, .int .i64 0, .int .i64 0, .int .i64 0, .int .i64 0, .int .i64 0] 38 22 (by decide)⟩ ((Below.refl _ _).alloc (Nat.le_refl _) _) (fun h => by cases h))
      generalize a.eval = ev at *
      go_simp
    | n + 12, ho => omega
  case final1 =>
    intro vs1 W1 hb hG _
    have g9 : vs1 9 = .agg (hdC R).toArray := hG 9 (by decide)
    have g10 : vs1 10 = .int .i64 cd := hG 10 (by decide)
    obtain ⟨bb1, g11, lb1, ub1, T1⟩ := (show ∃ b, vs1 11 = .pointer (some ⟨b, 0, none⟩) ∧ w0.heap.size ≤ b ∧ b < W1.heap.size ∧ W1.there b 0 22 from hG 11 (by decide))
    generalize hl : laid _ vs1 _ _ _ = A'
    have hA' : A' = { tmps := #[.agg #[.int .i64 x, .int .i64 y, .int .i64 z, .int .i64 u], .agg (hdC h).toArray, .int .i64 c, .int .i64 k, .int .i64 v, .pointer (some ⟨w.heap.size, 0, none⟩), .pointer (some ⟨w.heap.size + 1, 0, none⟩), undef, undef, undef, .bool false, vs1 11, undef, undef, undef, vs1 8, vs1 0, vs1 1, vs1 2, vs1 3, vs1 4, vs1 5, vs1 6, vs1 7, vs1 9, vs1 10, undef, undef, undef, undef, undef, undef, undef, undef, undef, undef, undef, undef, undef, undef, undef, undef, undef, undef, undef, undef], defers := [] } := by
      rw [← hl]
      kernel_rfl
    subst hA'
    rw [g9, g10, g11]
    clear hl hG g9 g10 g11
    have Hb1 := hb.trans ((only_setCells bb1 (hdC R) 0 W1).below lb1 hb.size)
    have Y1 : (W1.setCells bb1 0 (hdC R)).rangeAt bb1 0 (hdC R) := World.rangeAt_setCells_same W1 bb1 0 (hdC R) T1
    have hy1 : bb1 < (W1.setCells bb1 0 (hdC R)).heap.size := Nat.lt_of_lt_of_le ub1 (only_setCells bb1 (hdC R) 0 W1).size
    simp only [List.drop_succ_cons, List.drop_zero]
    refine wpList_store_mid rfl 38 (.tmp 11) (.tmp 24) rfl bb1 0 (hdC R).toArray ?sx1 ?sy1 ?st1 (sizeHand R) (oneHand R) ?_
    case sx1 => rfl
    case sy1 => rfl
    case st1 => exact T1
    rw [List.toList_toArray]
    go_upto_region 2 with fail
    clear hb T1 ub1
    generalize W1.setCells bb1 0 (hdC R) = wA at *
    have PA := P0.below Hb1 hz0p
    have XA := rangeAt_below X0 Hb1 hz0
    have KA := K0.trans (Hb1.mono (by omega))
    have zA := Hb1.size
    have hzA : w.heap.size + 1 < wA.heap.size := by omega
    have hzAp : w.heap.size < wA.heap.size := by omega
    clear P0 X0 K0 Hb1
    refine any_order_floatT 12 10 (by decide) (by kernel_rfl) (calledG wA.heap.size x y z u c k v h R cd) (fun _ => false) (by kernel_rfl) (by kernel_rfl) (by kernel_rfl) (by kernel_rfl) (by kernel_rfl) (by rfl) (fun i v' w w' _ hq hb => calledG_kept i v' w w' hq hb) (fun _ _ _ _ h => by cases h) ?step2 (fun _ _ _ _ h => h) ?float2 ?final2
    case float2 =>
      intro o ho a W hd
      obtain rfl := Option.some.inj ho
      have e1 : a.eval (.tmp 26) = .tuple #[.agg (hdC R).toArray, .int .i64 cd] := hd ⟨8, .data⟩ (by simp) rfl 26 rfl
      refine ⟨.int .i64 cd, fun w' => ?_, rfl, rfl⟩
      generalize a.eval = ev at *
      go_simp
    case step2 =>
      intro i o hik ho a W hb hn hd K hK
      have PW := PA.below hb hzAp
      have XW := rangeAt_below XA hb hzA
      match i, ho with
      | 0, ho =>
        obtain rfl := Option.some.inj ho
        exact step_load 23 (.tmp 5) rfl w.heap.size 0 (hn 5 rfl) [.int .i64 x, .int .i64 y, .int .i64 z, .int .i64 u] _ (planRow PW) Try.underlying23 rfl sizeLPlan (hK _ _ rfl (Below.refl _ _) (fun h => by cases h))
      | 1, ho =>
        obtain rfl := Option.some.inj ho
        have e1 : a.eval (.tmp 27) = .agg #[.int .i64 x, .int .i64 y, .int .i64 z, .int .i64 u] := hd ⟨0, .data⟩ (by simp) rfl 27 rfl
        have ef : a.eval (.func 10) = .func (.func 10) #[] #[] := rfl
        refine step_call (f := 10) (args := #[.agg #[.int .i64 x, .int .i64 y, .int .i64 z, .int .i64 u]]) (R := fun v w' => v = .agg #[.int .i64 x, .int .i64 y, .int .i64 z, .int .i64 u] ∧ Below W.heap.size W w') ?_ ((toPlan_any _ _ _ _ _).mono (fun e w' h => ⟨_, h.1, rfl, h.2⟩)) (fun v w' h => hK v w' h.1 h.2 (fun h => by cases h))
        generalize a.eval = ev at *
        go_simp
      | 2, ho =>
        obtain rfl := Option.some.inj ho
        exact step_load 36 (.tmp 6) rfl (w.heap.size + 1) 0 (hn 6 rfl) (hdC h) _ XW Try.underlying36 rfl (sizeLHand h) (hK _ _ rfl (Below.refl _ _) (fun h => by cases h))
      | 3, ho =>
        obtain rfl := Option.some.inj ho
        have e1 : a.eval (.tmp 29) = .agg (hdC h).toArray := hd ⟨2, .data⟩ (by simp) rfl 29 rfl
        have ef : a.eval (.func 16) = .func (.func 16) #[] #[] := rfl
        refine step_call (f := 16) (args := #[.agg (hdC h).toArray]) (R := fun v w' => v = .agg (hdC h).toArray ∧ Below W.heap.size W w') ?_ ((toHand_any h _).mono (fun e w' h => ⟨_, h.1, rfl, h.2⟩)) (fun v w' h => hK v w' h.1 h.2 (fun h => by cases h))
        generalize a.eval = ev at *
        go_simp
      | 4, ho =>
        obtain rfl := Option.some.inj ho
        have e1 : a.eval (.tmp 2) = .int .i64 c := hn 2 rfl
        refine step_value (v := .int .i64 c) (w' := W) ?_ (hK _ _ rfl (Below.refl _ _) (fun h => by cases h))
        generalize a.eval = ev at *
        go_simp
      | 5, ho =>
        obtain rfl := Option.some.inj ho
        have e1 : a.eval (.tmp 3) = .int .i64 k := hn 3 rfl
        refine step_value (v := .int .i64 k) (w' := W) ?_ (hK _ _ rfl (Below.refl _ _) (fun h => by cases h))
        generalize a.eval = ev at *
        go_simp
      | 6, ho =>
        obtain rfl := Option.some.inj ho
        have e1 : a.eval (.tmp 4) = .int .i64 v := hn 4 rfl
        refine step_value (v := .int .i64 v) (w' := W) ?_ (hK _ _ rfl (Below.refl _ _) (fun h => by cases h))
        generalize a.eval = ev at *
        go_simp
      | 7, ho =>
        obtain rfl := Option.some.inj ho
        have e1 : a.eval (.tmp 28) = .agg #[.int .i64 x, .int .i64 y, .int .i64 z, .int .i64 u] := hd ⟨1, .data⟩ (by simp) rfl 28 rfl
        have e2 : a.eval (.tmp 30) = .agg (hdC h).toArray := hd ⟨3, .data⟩ (by simp) rfl 30 rfl
        have e3 : a.eval (.tmp 31) = .int .i64 c := hd ⟨4, .data⟩ (by simp) rfl 31 rfl
        have e4 : a.eval (.tmp 32) = .int .i64 k := hd ⟨5, .data⟩ (by simp) rfl 32 rfl
        have e5 : a.eval (.tmp 33) = .int .i64 v := hd ⟨6, .data⟩ (by simp) rfl 33 rfl
        have ef : a.eval (.func 19) = .func (.func 19) #[] #[] := rfl
        refine step_call (f := 19) (args := #[.agg #[.int .i64 x, .int .i64 y, .int .i64 z, .int .i64 u], .agg (hdC h).toArray, .int .i64 c, .int .i64 k, .int .i64 v]) (R := fun v w' => v = .tuple #[.agg (hdC R).toArray, .int .i64 cd] ∧ Below W.heap.size W w') ?_ ((called_any x y z u h c k v _).mono (fun e w' h => ⟨_, h.1, by rw [hR.out, hC.out], h.2⟩)) (fun v w' h => hK v w' h.1 h.2 (fun h => by cases h))
        generalize a.eval = ev at *
        go_simp
      | 8, ho =>
        obtain rfl := Option.some.inj ho
        have e1 : a.eval (.tmp 34) = .tuple #[.agg (hdC R).toArray, .int .i64 cd] := hd ⟨7, .data⟩ (by simp) rfl 34 rfl
        refine step_value (v := .tuple #[.agg (hdC R).toArray, .int .i64 cd]) (w' := W) ?_ (hK _ _ rfl (Below.refl _ _) (fun h => by cases h))
        generalize a.eval = ev at *
        go_simp
      | 9, ho =>
        obtain rfl := Option.some.inj ho
        have e1 : a.eval (.tmp 26) = .tuple #[.agg (hdC R).toArray, .int .i64 cd] := hd ⟨8, .data⟩ (by simp) rfl 26 rfl
        refine step_value (v := .agg (hdC R).toArray) (w' := W) ?_ (hK _ _ rfl (Below.refl _ _) (fun h => by cases h))
        generalize a.eval = ev at *
        go_simp
      | 10, ho =>
        obtain rfl := Option.some.inj ho
        have e1 : a.eval (.tmp 26) = .tuple #[.agg (hdC R).toArray, .int .i64 cd] := hd ⟨8, .data⟩ (by simp) rfl 26 rfl
        refine step_value (v := .int .i64 cd) (w' := W) ?_ (hK _ _ rfl (Below.refl _ _) (fun h => by cases h))
        generalize a.eval = ev at *
        go_simp
      | 11, ho =>
        obtain rfl := Option.some.inj ho
        refine step_value (v := .pointer (some ⟨W.heap.size, 0, none⟩)) (w' := W.alloc (.cells #[.int .i64 0, .int .i64 0, .int .i64 0, .int .i64 0, .int .i64 0, .int .i64 0, .int .i64 0, .int .i64 0, .int .i64 0, .int .i64 0, .int .i64 0, .int .i64 0, .int .i64 0, .int .i64 0, .int .i64 0, .int .i64 0, .int .i64 0, .int .i64 0, .int .i64 0, .int .i64 0, .int .i64 0, .int .i64 0] 38)) ?_ (hK _ _ ⟨W.heap.size, rfl, hb.size, by simp, there_new W #[.int .i64 0, .int .i64 0, .int .i64 0, .int .i64 0, .int .i64 0, .int .i64 0, .int .i64 0, .int .i64 0, .int .i64 0, .int .i64 0, .int .i64 0, .int .i64 0, .int .i64 0, .int .i64 0, .int .i64 0, .int .i64 0, .int .i64 0, .int .i64 0, .int .i64 0, .int .i64 0, .int .i64 0, .int .i64 0] 38 22 (by decide)⟩ ((Below.refl _ _).alloc (Nat.le_refl _) _) (fun h => by cases h))
        generalize a.eval = ev at *
        go_simp
      | n + 12, ho => omega
    case final2 =>
      intro vs2 W2 hb hG _
      have g9 : vs2 9 = .agg (hdC R).toArray := hG 9 (by decide)
      have g10 : vs2 10 = .int .i64 cd := hG 10 (by decide)
      obtain ⟨bb2, g11, lb2, ub2, T2⟩ := (show ∃ b, vs2 11 = .pointer (some ⟨b, 0, none⟩) ∧ wA.heap.size ≤ b ∧ b < W2.heap.size ∧ W2.there b 0 22 from hG 11 (by decide))
      generalize hl : laid _ vs2 _ _ _ = A'
      have hA' : A' = { tmps := #[.agg #[.int .i64 x, .int .i64 y, .int .i64 z, .int .i64 u], .agg (hdC h).toArray, .int .i64 c, .int .i64 k, .int .i64 v, .pointer (some ⟨w.heap.size, 0, none⟩), .pointer (some ⟨w.heap.size + 1, 0, none⟩), undef, undef, undef, .bool false, .pointer (some ⟨bb1, 0, none⟩), .int .i64 cd, vs2 11, undef, vs1 8, vs1 0, vs1 1, vs1 2, vs1 3, vs1 4, vs1 5, vs1 6, vs1 7, .agg (hdC R).toArray, .int .i64 cd, vs2 8, vs2 0, vs2 1, vs2 2, vs2 3, vs2 4, vs2 5, vs2 6, vs2 7, vs2 9, vs2 10, undef, undef, undef, undef, undef, undef, undef, undef, undef], defers := [] } := by
        rw [← hl]
        kernel_rfl
      subst hA'
      rw [g9, g10, g11]
      clear hl hG g9 g10 g11
      have Hb2 := hb.trans ((only_setCells bb2 (hdC R) 0 W2).below lb2 hb.size)
      have Y2 : (W2.setCells bb2 0 (hdC R)).rangeAt bb2 0 (hdC R) := World.rangeAt_setCells_same W2 bb2 0 (hdC R) T2
      have hy2 : bb2 < (W2.setCells bb2 0 (hdC R)).heap.size := Nat.lt_of_lt_of_le ub2 (only_setCells bb2 (hdC R) 0 W2).size
      simp only [List.drop_succ_cons, List.drop_zero]
      refine wpList_store_mid rfl 38 (.tmp 13) (.tmp 35) rfl bb2 0 (hdC R).toArray ?sx2 ?sy2 ?st2 (sizeHand R) (oneHand R) ?_
      case sx2 => rfl
      case sy2 => rfl
      case st2 => exact T2
      rw [List.toList_toArray]
      go_upto_region 3 with fail
      clear hb T2 ub2
      generalize W2.setCells bb2 0 (hdC R) = wB at *
      have YB := rangeAt_below Y1 Hb2 hy1
      have KB := KA.trans (Hb2.mono (by omega))
      have zB := Hb2.size
      have hcc : (cd != cd) = false := by simp
      go_wp2_with (first | (refine wpList_load_mid rfl 38 (.tmp 13) rfl bb2 0 ?lx1 (hdC R) _ ?lc1 Try.underlying38 rfl (sizeHandL R) ?_) | (refine wpList_load_mid rfl 38 (.tmp 11) rfl bb1 0 ?lx2 (hdC R) _ ?lc2 Try.underlying38 rfl (sizeHandL R) ?_) | (go_at_call 20; refine (eqHand_any R _).mono ?_; rintro e w9 ⟨rfl, b9⟩))
      try (case lx1 => rfl)
      try (case lc1 => exact Y2)
      try (case lx2 => rfl)
      try (case lc2 => exact YB)
      go_ret
      exact ⟨rfl, KB.trans (b9.mono (by omega))⟩

set_option maxRecDepth 100000 in
theorem called_lifted (os : Os) (started : os.Started) (H : Type) (enc : TypeId × Value → H) :
    ReturnsInHanded {} Try.checked os 5 .any (Rows.fnExactCalledSpec.pre6 enc Try.prog Try.f5 Rows.fnExactCalledRow.domain false) (Rows.fnExactCalledSpec.post enc Try.prog Try.f5 false true false false) := by
  refine returnsInHanded_of_change (C := Try.checked) own started (by kernel_rfl) Try.func5
    (ChangeSpec.witness6 (enc := enc) (C := Try.checked) false ⟨#[], #[.agg #[.int .i64 0, .int .i64 0, .int .i64 0, .int .i64 0], .agg #[.int .i64 0, .int .i64 0, .int .i64 0, .int .i64 0, .int .i64 0, .int .i64 0, .int .i64 0, .int .i64 0, .int .i64 0, .int .i64 0, .int .i64 0, .int .i64 0, .int .i64 0, .int .i64 0, .int .i64 0, .int .i64 0, .int .i64 0, .int .i64 0, .int .i64 0, .int .i64 0, .int .i64 0, .int .i64 0], .int .i64 0, .int .i64 0, .int .i64 0], []⟩ 8 (by kernel_rfl) (by kernel_rfl) (by kernel_rfl) (by kernel_rfl)) ?_
  intro W base args ds gs before hval0 hW hcnd _
  have hval : ∀ (j : Nat) t v, Try.f5.params[j]? = some t → args[j]? = some v → Value.okWide Try.prog W .any base t v := hval0
  have hW' := hW
  obtain ⟨p, q, hA0, hV, rfl, hfz, hnd⟩ := hW
  have hA : DataW.TrodAll enc Try.prog W 0 (fun _ => true) true Try.f5.params.toList args.toList ds p := hA0
  rw [Try.params5] at hA hval
  obtain ⟨v0, vs0, d0, ds0, p0, q0, hargs, rfl, rfl, h0, r0⟩ := trodAll_cons hA
  obtain ⟨v1, vs1, d1, ds1, p1, q1, rfl, rfl, rfl, h1, r1⟩ := trodAll_cons r0
  obtain ⟨v2, vs2, d2, ds2, p2, q2, rfl, rfl, rfl, h2, r2⟩ := trodAll_cons r1
  obtain ⟨v3, vs3, d3, ds3, p3, q3, rfl, rfl, rfl, h3, r3⟩ := trodAll_cons r2
  obtain ⟨v4, vs4, d4, ds4, p4, q4, rfl, rfl, rfl, h4, r4⟩ := trodAll_cons r3
  obtain ⟨rfl, rfl, rfl⟩ := trodAll_nil r4
  obtain rfl : args = #[v0, v1, v2, v3, v4] := by cases args; simp_all
  obtain ⟨rfl, rfl⟩ := trodVars_none hV
  have k0 := h0
  have lt0 : ∀ x ∈ p0, x.block < W.heap.size := by obtain ⟨m, hm⟩ := k0; exact DataW.trod_lt m _ _ _ hm
  obtain ⟨x0, y0, z0, u0, hv0, wx0, wy0, wz0, wu0⟩ := open_plan (hval 0 23 v0 rfl rfl) h0
  subst hv0
  have k1 := h1
  have lt1 : ∀ x ∈ p1, x.block < W.heap.size := by obtain ⟨m, hm⟩ := k1; exact DataW.trod_lt m _ _ _ hm
  obtain ⟨hd1, hv1⟩ := open_hand (hval 1 36 v1 rfl rfl) h1
  subst hv1
  have k2 := h2
  have lt2 : ∀ x ∈ p2, x.block < W.heap.size := by obtain ⟨m, hm⟩ := k2; exact DataW.trod_lt m _ _ _ hm
  obtain ⟨x2, hv2, wx2⟩ : ∃ x, v2 = .int .i64 x ∧ (Lit.int .i64 x).wf = true := by
    obtain ⟨x, e1, _, _, wx⟩ := open_int Try.underlying2 (hval 2 2 v2 rfl rfl) h2
    exact ⟨x, e1, wx⟩
  subst hv2
  have k3 := h3
  have lt3 : ∀ x ∈ p3, x.block < W.heap.size := by obtain ⟨m, hm⟩ := k3; exact DataW.trod_lt m _ _ _ hm
  obtain ⟨x3, hv3, wx3⟩ : ∃ x, v3 = .int .i64 x ∧ (Lit.int .i64 x).wf = true := by
    obtain ⟨x, e1, _, _, wx⟩ := open_int Try.underlying2 (hval 3 2 v3 rfl rfl) h3
    exact ⟨x, e1, wx⟩
  subst hv3
  have k4 := h4
  have lt4 : ∀ x ∈ p4, x.block < W.heap.size := by obtain ⟨m, hm⟩ := k4; exact DataW.trod_lt m _ _ _ hm
  obtain ⟨x4, hv4, wx4⟩ : ∃ x, v4 = .int .i64 x ∧ (Lit.int .i64 x).wf = true := by
    obtain ⟨x, e1, _, _, wx⟩ := open_int Try.underlying2 (hval 4 2 v4 rfl rfl) h4
    exact ⟨x, e1, wx⟩
  subst hv4
  clear hA0 hval0
  refine (called_walk x0 y0 z0 u0 wx0 wy0 wz0 wu0 hd1 x2 wx2 x3 wx3 x4 wx4 W ).mono fun e W' ⟨he, bel⟩ => ?_
  subst he
  exact ⟨_, rfl, _, _, _, [], _, [], hW', trodAll_mk1 (shut_bool Try.underlying4 _), (trodAll_cons_mk (Below.trod laidOut (by kernel_rfl) (of_decide_eq_true (by kernel_rfl)) k0 bel lt0) (trodAll_cons_mk (Below.trod laidOut (by kernel_rfl) (of_decide_eq_true (by kernel_rfl)) k1 bel lt1) (trodAll_cons_mk (Below.trod laidOut (by kernel_rfl) (of_decide_eq_true (by kernel_rfl)) k2 bel lt2) (trodAll_cons_mk (Below.trod laidOut (by kernel_rfl) (of_decide_eq_true (by kernel_rfl)) k3 bel lt3) (trodAll_cons_mk (Below.trod laidOut (by kernel_rfl) (of_decide_eq_true (by kernel_rfl)) k4 bel lt4) trodAll_mk0))))), rfl, bel.frame _, fun h => by cases h⟩

/-- The given statement. -/
theorem called_holds : Rows.FnExactCalledSaid :=
  OpenClaim.holds_of_wide 5 Try.f5 rfl rfl rfl rfl rfl rfl rfl ⟨rfl, rfl, rfl, rfl, rfl⟩ rfl rfl rfl rfl rfl (by kernel_rfl) Try.func5 (by kernel_rfl)
    (of_decide_eq_true (by kernel_rfl)) (by unfold Func.isWrapper; first | (rw [if_pos (by decide +kernel)]; kernel_rfl) | (rw [if_neg (by decide +kernel)]; exact ⟨rfl, rfl⟩))
    (fun os started H enc _ => called_lifted os started H enc)
#print axioms called_holds

end Go.Proofs.Ytcgjkodpmloccaa
