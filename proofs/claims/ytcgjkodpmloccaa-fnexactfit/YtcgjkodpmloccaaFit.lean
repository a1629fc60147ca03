/-
  Fit answers as the document's model does: at every Plan, Arena and Hand and number the law of Fit returns true and leaves its arguments as they were. No condition.
-/
import Derived.Test.YtcgjkodpmloccaaSame
import Derived.Test.YtcgjkodpmloccaaArgs
import Derived.Test.YtcgjkodpmloccaaHandArgs
import Derived.Test.YtcgjkodpmloccaaLawRows
import Derived.Test.YtcgjkodpmloccaaSpecFit
import Derived.Test.YtcgjkodpmloccaaImplFit
import Derived.Test.YtcgjkodpmloccaaAnyOrder
import Derived.Test.YtcgjkodpmloccaaOnly
import Derived.Deep.Cut
namespace Go.Proofs.Ytcgjkodpmloccaa
open Go.ChangeShapes Go.WideShapes Go.ChangeAt Go.RowKit
set_option linter.unusedVariables false
attribute [local go_sem ↓] Go.wp_at_zero Go.wp_at_succ

/-- What each operation of the region leaves. -/
def fitG5 (lo : Nat) (x y z u : Int) (A : Ar) (h : Hd) (bb : Bool) (me : Int) (clk : Int) (q0 q1 q2 q3 : Nat) (a0 a1 a2 a3 : Option Addr) (c0 c1 c2 c3 : Nat) : Nat → Value → World → Prop
  | 0, v', _ => v' = .agg #[.int .i64 x, .int .i64 y, .int .i64 z, .int .i64 u]
  | 1, v', _ => v' = .agg #[.int .i64 x, .int .i64 y, .int .i64 z, .int .i64 u]
  | 2, v', _ => v' = .agg #[.int .i64 A.camera, .slice a0 A.slots.length c0, .slice a1 A.guides.length c1, .slice a2 A.nodes.length c2, .slice a3 A.vers.length c3]
  | 3, v', w => ∃ p0 p1 p2 p3, v' = .agg #[.int .i64 A.camera, .slice (some ⟨p0, 0, none⟩) A.slots.length A.slots.length, .slice (some ⟨p1, 0, none⟩) A.guides.length A.guides.length, .slice (some ⟨p2, 0, none⟩) A.nodes.length A.nodes.length, .slice (some ⟨p3, 0, none⟩) A.vers.length A.vers.length] ∧ ArenaIs w.heap.size w (.slice (some ⟨p0, 0, none⟩) A.slots.length A.slots.length) (.slice (some ⟨p1, 0, none⟩) A.guides.length A.guides.length) (.slice (some ⟨p2, 0, none⟩) A.nodes.length A.nodes.length) (.slice (some ⟨p3, 0, none⟩) A.vers.length A.vers.length) A
  | 4, v', _ => v' = .int .i64 me
  | 5, v', _ => v' = .agg (hdC h).toArray
  | 6, v', _ => v' = .agg (hdC h).toArray
  | 7, v', _ => v' = .int .i64 clk
  | 8, v', _ => v' = .bool bb
  | 9, v', _ => v' = .bool bb
  | _, _, _ => True
theorem fitG5_kept {lo : Nat} {x y z u : Int} {A : Ar} {h : Hd} {bb : Bool} {me : Int} {clk : Int} {q0 q1 q2 q3 : Nat} {a0 a1 a2 a3 : Option Addr} {c0 c1 c2 c3 : Nat} (i : Nat) (v' : Value) (w w' : World) (hq : fitG5 lo x y z u A h bb me clk q0 q1 q2 q3 a0 a1 a2 a3 c0 c1 c2 c3 i v' w) (hb : Below w.heap.size w w') : fitG5 lo x y z u A h bb me clk q0 q1 q2 q3 a0 a1 a2 a3 c0 c1 c2 c3 i v' w' := by
  match i, hq with
  | 0, h | 1, h | 2, h | 4, h | 5, h | 6, h | 7, h | 8, h | 9, h => exact h
  | 3, h =>
    obtain ⟨p0, p1, p2, p3, e, J⟩ := h
    exact ⟨p0, p1, p2, p3, e, (J.below hb).weaken hb.size⟩
  | n + 10, h => exact trivial

/-- What each operation of the region leaves. -/
def fitG7 (lo : Nat) (x y z u : Int) (A : Ar) (h : Hd) (bb : Bool) (me : Int) (clk : Int) (q0 q1 q2 q3 : Nat) (a0 a1 a2 a3 : Option Addr) (c0 c1 c2 c3 : Nat) : Nat → Value → World → Prop
  | 0, v', _ => v' = .agg #[.int .i64 x, .int .i64 y, .int .i64 z, .int .i64 u]
  | 1, v', _ => v' = .agg #[.int .i64 x, .int .i64 y, .int .i64 z, .int .i64 u]
  | 2, v', _ => v' = .agg #[.int .i64 A.camera, .slice (some ⟨q0, 0, none⟩) A.slots.length A.slots.length, .slice (some ⟨q1, 0, none⟩) A.guides.length A.guides.length, .slice (some ⟨q2, 0, none⟩) A.nodes.length A.nodes.length, .slice (some ⟨q3, 0, none⟩) A.vers.length A.vers.length]
  | 3, v', _ => v' = .int .i64 me
  | 4, v', _ => v' = .agg (hdC h).toArray
  | 5, v', _ => v' = .agg (hdC h).toArray
  | 6, v', _ => v' = .int .i64 clk
  | 7, v', _ => v' = .bool bb
  | 8, v', _ => v' = .bool bb
  | _, _, _ => True
theorem fitG7_kept {lo : Nat} {x y z u : Int} {A : Ar} {h : Hd} {bb : Bool} {me : Int} {clk : Int} {q0 q1 q2 q3 : Nat} {a0 a1 a2 a3 : Option Addr} {c0 c1 c2 c3 : Nat} (i : Nat) (v' : Value) (w w' : World) (hq : fitG7 lo x y z u A h bb me clk q0 q1 q2 q3 a0 a1 a2 a3 c0 c1 c2 c3 i v' w) (hb : Below w.heap.size w w') : fitG7 lo x y z u A h bb me clk q0 q1 q2 q3 a0 a1 a2 a3 c0 c1 c2 c3 i v' w' := by
  match i, hq with
  | 0, h | 1, h | 2, h | 3, h | 4, h | 5, h | 6, h | 7, h | 8, h => exact h
  | n + 9, h => exact trivial

set_option maxRecDepth 100000 in
set_option maxHeartbeats 8000000 in
theorem fit_walk (x y z u : Int) (wx : (Lit.int .i64 x).wf = true) (wy : (Lit.int .i64 y).wf = true) (wz : (Lit.int .i64 z).wf = true) (wu : (Lit.int .i64 u).wf = true) (A : Ar) (a0 a1 a2 a3 : Option Addr) (c0 c1 c2 c3 : Nat) (me : Int) (wme : (Lit.int .i64 me).wf = true) (h : Hd) (clk : Int) (wclk : (Lit.int .i64 clk).wf = true) (w : World)
    (I : ArenaIs w.heap.size w (.slice a0 A.slots.length c0) (.slice a1 A.guides.length c1) (.slice a2 A.nodes.length c2) (.slice a3 A.vers.length c3) A) (m0 : A.slots.length ≤ maxLen) (m1 : A.guides.length ≤ maxLen) (m2 : A.nodes.length ≤ maxLen) (m3 : A.vers.length ≤ maxLen) :
    Calls Try.prog 8 #[.agg #[.int .i64 x, .int .i64 y, .int .i64 z, .int .i64 u], .agg #[.int .i64 A.camera, .slice a0 A.slots.length c0, .slice a1 A.guides.length c1, .slice a2 A.nodes.length c2, .slice a3 A.vers.length c3], .int .i64 me, .agg (hdC h).toArray, .int .i64 clk] w fun e w' => e = .returned (.bool true) ∧ Below w.heap.size w w' := by
  unfold maxLen at m0 m1 m2 m3
  clear wx wy wz wu wme wclk
  have P0 := World.rangeAt_alloc (World.rangeAt_alloc (rangeAt_new w [.int .i64 x, .int .i64 y, .int .i64 z, .int .i64 u] 23) (.cells #[.int .i64 A.camera, .slice a0 A.slots.length c0, .slice a1 A.guides.length c1, .slice a2 A.nodes.length c2, .slice a3 A.vers.length c3] 48)) (.cells (hdC h).toArray 36)
  have X0 := World.rangeAt_alloc (rangeAt_new (w.alloc (.cells #[.int .i64 x, .int .i64 y, .int .i64 z, .int .i64 u] 23)) [.int .i64 A.camera, .slice a0 A.slots.length c0, .slice a1 A.guides.length c1, .slice a2 A.nodes.length c2, .slice a3 A.vers.length c3] 48) (.cells (hdC h).toArray 36)
  have H0 := rangeAt_new ((w.alloc (.cells #[.int .i64 x, .int .i64 y, .int .i64 z, .int .i64 u] 23)).alloc (.cells #[.int .i64 A.camera, .slice a0 A.slots.length c0, .slice a1 A.guides.length c1, .slice a2 A.nodes.length c2, .slice a3 A.vers.length c3] 48)) (hdC h) 36
  have K0 := (((Below.refl w.heap.size w).alloc (Nat.le_refl _) (.cells #[.int .i64 x, .int .i64 y, .int .i64 z, .int .i64 u] 23)).alloc (by simp) (.cells #[.int .i64 A.camera, .slice a0 A.slots.length c0, .slice a1 A.guides.length c1, .slice a2 A.nodes.length c2, .slice a3 A.vers.length c3] 48)).alloc (by simp; omega) (.cells (hdC h).toArray 36)
  have hz0 : w.heap.size + 1 + 1 < (((w.alloc (.cells #[.int .i64 x, .int .i64 y, .int .i64 z, .int .i64 u] 23)).alloc (.cells #[.int .i64 A.camera, .slice a0 A.slots.length c0, .slice a1 A.guides.length c1, .slice a2 A.nodes.length c2, .slice a3 A.vers.length c3] 48)).alloc (.cells (hdC h).toArray 36)).heap.size := by simp
  simp only [World.size_alloc] at X0 H0
  by_cases hA : A.size ≤ 1048576
  case neg =>
    unfold Ar.size at hA
    go_enter Try.func8, Try.ntmps8
    go_wp2_with fail
    refine (szArena_not _ _ _ _ _ _ _ _ _ _ _ _ _ _ (by omega) (by omega) (by omega) (by omega) (by omega)).mono ?_
    rintro e w1 ⟨rfl, b1⟩
    go_wp2
    go_ret
    exact ⟨rfl, K0.trans (b1.mono (by omega))⟩
  have hA' : A.slots.length + A.guides.length + A.nodes.length + A.vers.length ≤ 1048576 := hA
  go_enter Try.func8, Try.ntmps8
  go_wp2_with fail
  refine (szArena_fit _ _ _ _ _ _ _ _ _ _ _ _ _ _ hA').mono ?_
  rintro e w1 ⟨rfl, b1⟩
  have P1 := rangeAt_below P0 b1 (by omega)
  have X1 := rangeAt_below X0 b1 (by omega)
  have H1 := rangeAt_below H0 b1 (by omega)
  have K1 := K0.trans (b1.mono (by omega))
  have I1 := I.below K1
  have hz1 : w.heap.size + 1 + 1 < w1.heap.size := Nat.lt_of_lt_of_le hz0 b1.size
  clear P0 X0 H0 K0 I b1 hz0
  obtain ⟨bb, hBB⟩ : ∃ bb, Hid (fitB x y z u A me h clk = bb) := ⟨_, rfl⟩
  go_wp2_with fail
  refine any_order_calls (by kernel_rfl) (fitG5 w1.heap.size x y z u A h bb me clk 0 0 0 0 a0 a1 a2 a3 c0 c1 c2 c3) (fun _ => false) (by kernel_rfl) (by kernel_rfl) (by kernel_rfl) (by rfl) (fun i v' w w' _ hq hb => fitG5_kept i v' w w' hq hb) (fun _ _ _ _ h => by cases h) ?step5 ?final5
  case step5 =>
    intro i o ho a V hb hn hd _ K hK
    have PW := rangeAt_below P1 hb (by omega)
    have XW := rangeAt_below X1 hb (by omega)
    have HW := rangeAt_below H1 hb (by omega)
    obtain ⟨x0', x1', x2', x3', x4'⟩ := row5 XW
    match i, ho with
    | 0, ho =>
      obtain rfl := Option.some.inj ho
      exact step_load 23 (.tmp 5) rfl (w.heap.size) 0 (hn 5 rfl) [.int .i64 x, .int .i64 y, .int .i64 z, .int .i64 u] _ PW Try.underlying23 rfl sizeLPlan (hK _ _ rfl (Below.refl _ _) (fun h => by cases h))
    | 1, ho =>
      obtain rfl := Option.some.inj ho
      have e1 : a.eval (.tmp 20) = .agg #[.int .i64 x, .int .i64 y, .int .i64 z, .int .i64 u] := hd ⟨0, .data⟩ (by simp) rfl 20 rfl
      have ef : a.eval (.func 10) = .func (.func 10) #[] #[] := rfl
      refine step_call (f := 10) (args := #[.agg #[.int .i64 x, .int .i64 y, .int .i64 z, .int .i64 u]]) (R := fun v w' => v = .agg #[.int .i64 x, .int .i64 y, .int .i64 z, .int .i64 u] ∧ Below V.heap.size V w') ?_ ((toPlan_any _ _ _ _ _).mono (fun e w' h => ⟨_, h.1, rfl, h.2⟩)) (fun v w' h => hK v w' h.1 h.2 (fun h => by cases h))
      generalize a.eval = ev at *
      go_simp
    | 2, ho =>
      obtain rfl := Option.some.inj ho
      have e1 : a.eval (.tmp 6) = .pointer (some ⟨w.heap.size + 1, 0, none⟩) := hn 6 rfl
      refine step_value (v := .agg #[.int .i64 A.camera, .slice a0 A.slots.length c0, .slice a1 A.guides.length c1, .slice a2 A.nodes.length c2, .slice a3 A.vers.length c3]) (w' := V) ?_ (hK _ _ rfl (Below.refl _ _) (fun h => by cases h))
      generalize a.eval = ev at *
      go_simp
    | 3, ho =>
      obtain rfl := Option.some.inj ho
      have e1 : a.eval (.tmp 22) = .agg #[.int .i64 A.camera, .slice a0 A.slots.length c0, .slice a1 A.guides.length c1, .slice a2 A.nodes.length c2, .slice a3 A.vers.length c3] := hd ⟨2, .data⟩ (by simp) rfl 22 rfl
      have ef : a.eval (.func 23) = .func (.func 23) #[] #[] := rfl
      refine step_call (f := 23) (args := #[.agg #[.int .i64 A.camera, .slice a0 A.slots.length c0, .slice a1 A.guides.length c1, .slice a2 A.nodes.length c2, .slice a3 A.vers.length c3]]) (R := fun v w' => (∃ p0 p1 p2 p3, v = .agg #[.int .i64 A.camera, .slice (some ⟨p0, 0, none⟩) A.slots.length A.slots.length, .slice (some ⟨p1, 0, none⟩) A.guides.length A.guides.length, .slice (some ⟨p2, 0, none⟩) A.nodes.length A.nodes.length, .slice (some ⟨p3, 0, none⟩) A.vers.length A.vers.length] ∧ ArenaIs w'.heap.size w' (.slice (some ⟨p0, 0, none⟩) A.slots.length A.slots.length) (.slice (some ⟨p1, 0, none⟩) A.guides.length A.guides.length) (.slice (some ⟨p2, 0, none⟩) A.nodes.length A.nodes.length) (.slice (some ⟨p3, 0, none⟩) A.vers.length A.vers.length) A) ∧ Below V.heap.size V w') ?_ ((toArena_at hb (by omega) hA I1).mono (fun e w' h => by obtain ⟨p0, p1, p2, p3, e1, J, bJ⟩ := h; exact ⟨_, e1, ⟨p0, p1, p2, p3, rfl, J⟩, bJ⟩)) (fun v w' h => hK v w' h.1 h.2 (fun h => by cases h))
      generalize a.eval = ev at *
      go_simp
    | 4, ho =>
      obtain rfl := Option.some.inj ho
      have e1 : a.eval (.tmp 2) = .int .i64 me := hn 2 rfl
      refine step_value (v := .int .i64 me) (w' := V) ?_ (hK _ _ rfl (Below.refl _ _) (fun h => by cases h))
      generalize a.eval = ev at *
      go_simp
    | 5, ho =>
      obtain rfl := Option.some.inj ho
      exact step_load 36 (.tmp 8) rfl (w.heap.size + 1 + 1) 0 (hn 8 rfl) (hdC h) _ HW Try.underlying36 rfl (sizeLHand h) (hK _ _ rfl (Below.refl _ _) (fun h => by cases h))
    | 6, ho =>
      obtain rfl := Option.some.inj ho
      have e1 : a.eval (.tmp 25) = .agg (hdC h).toArray := hd ⟨5, .data⟩ (by simp) rfl 25 rfl
      have ef : a.eval (.func 16) = .func (.func 16) #[] #[] := rfl
      refine step_call (f := 16) (args := #[.agg (hdC h).toArray]) (R := fun v w' => v = .agg (hdC h).toArray ∧ Below V.heap.size V w') ?_ ((toHand_any h _).mono (fun e w' h => ⟨_, h.1, rfl, h.2⟩)) (fun v w' h => hK v w' h.1 h.2 (fun h => by cases h))
      generalize a.eval = ev at *
      go_simp
    | 7, ho =>
      obtain rfl := Option.some.inj ho
      have e1 : a.eval (.tmp 4) = .int .i64 clk := hn 4 rfl
      refine step_value (v := .int .i64 clk) (w' := V) ?_ (hK _ _ rfl (Below.refl _ _) (fun h => by cases h))
      generalize a.eval = ev at *
      go_simp
    | 8, ho =>
      obtain rfl := Option.some.inj ho
      have e0 : a.eval (.tmp 21) = .agg #[.int .i64 x, .int .i64 y, .int .i64 z, .int .i64 u] := hd ⟨1, .data⟩ (by simp) rfl 21 rfl
      obtain ⟨p0, p1, p2, p3, eA, J⟩ := (show ∃ p0 p1 p2 p3, a.eval (.tmp 23) = .agg #[.int .i64 A.camera, .slice (some ⟨p0, 0, none⟩) A.slots.length A.slots.length, .slice (some ⟨p1, 0, none⟩) A.guides.length A.guides.length, .slice (some ⟨p2, 0, none⟩) A.nodes.length A.nodes.length, .slice (some ⟨p3, 0, none⟩) A.vers.length A.vers.length] ∧ ArenaIs V.heap.size V (.slice (some ⟨p0, 0, none⟩) A.slots.length A.slots.length) (.slice (some ⟨p1, 0, none⟩) A.guides.length A.guides.length) (.slice (some ⟨p2, 0, none⟩) A.nodes.length A.nodes.length) (.slice (some ⟨p3, 0, none⟩) A.vers.length A.vers.length) A from hd ⟨3, .data⟩ (by simp) rfl 23 rfl)
      have e2 : a.eval (.tmp 24) = .int .i64 me := hd ⟨4, .data⟩ (by simp) rfl 24 rfl
      have e3 : a.eval (.tmp 26) = .agg (hdC h).toArray := hd ⟨6, .data⟩ (by simp) rfl 26 rfl
      have e4 : a.eval (.tmp 27) = .int .i64 clk := hd ⟨7, .data⟩ (by simp) rfl 27 rfl
      have ef : a.eval (.func 27) = .func (.func 27) #[] #[] := rfl
      refine step_call (f := 27) (args := #[.agg #[.int .i64 x, .int .i64 y, .int .i64 z, .int .i64 u], .agg #[.int .i64 A.camera, .slice (some ⟨p0, 0, none⟩) A.slots.length A.slots.length, .slice (some ⟨p1, 0, none⟩) A.guides.length A.guides.length, .slice (some ⟨p2, 0, none⟩) A.nodes.length A.nodes.length, .slice (some ⟨p3, 0, none⟩) A.vers.length A.vers.length], .int .i64 me, .agg (hdC h).toArray, .int .i64 clk]) (R := fun v w' => v = .bool bb ∧ Below V.heap.size V w') ?_ ((specFit_any _ A x y z u me h clk _ _ _ _ _ _ _ _ _ (Nat.le_refl _) hA J).mono (fun e w' h => ⟨_, h.1, by rw [hBB.out], h.2⟩)) (fun v w' h => hK v w' h.1 h.2 (fun h => by cases h))
      generalize a.eval = ev at *
      go_simp
    | 9, ho =>
      obtain rfl := Option.some.inj ho
      have e1 : a.eval (.tmp 28) = .bool bb := hd ⟨8, .data⟩ (by simp) rfl 28 rfl
      refine step_value (v := .bool bb) (w' := V) ?_ (hK _ _ rfl (Below.refl _ _) (fun h => by cases h))
      generalize a.eval = ev at *
      go_simp
    | n + 10, ho => exact absurd ho (by simp)
  case final5 =>
    intro vs5 V5 hb hG _
    have g0 : vs5 9 = .bool bb := hG 9 (by decide)
    generalize hl : laid _ vs5 _ _ _ = A'
    have hA'' : A' = { tmps := #[.agg #[.int .i64 x, .int .i64 y, .int .i64 z, .int .i64 u], .agg #[.int .i64 A.camera, .slice a0 A.slots.length c0, .slice a1 A.guides.length c1, .slice a2 A.nodes.length c2, .slice a3 A.vers.length c3], .int .i64 me, .agg (hdC h).toArray, .int .i64 clk, .pointer (some ⟨w.heap.size, 0, none⟩), .pointer (some ⟨w.heap.size + 1, 0, none⟩), undef, .pointer (some ⟨w.heap.size + 1 + 1, 0, none⟩), undef, .bool false, .int .i64 (1048576 - (A.slots.length : Int) - (A.guides.length : Int) - (A.nodes.length : Int) - (A.vers.length : Int)), vs5 9, undef, undef, .agg #[.int .i64 A.camera, .slice a0 A.slots.length c0, .slice a1 A.guides.length c1, .slice a2 A.nodes.length c2, .slice a3 A.vers.length c3], .int .i64 1048576, .int .i64 (1048576 - (A.slots.length : Int) - (A.guides.length : Int) - (A.nodes.length : Int) - (A.vers.length : Int)), .int .i64 (1048576 - (A.slots.length : Int) - (A.guides.length : Int) - (A.nodes.length : Int) - (A.vers.length : Int)), .bool (decide ((1048576 - (A.slots.length : Int) - (A.guides.length : Int) - (A.nodes.length : Int) - (A.vers.length : Int)) < 0)), vs5 0, vs5 1, vs5 2, vs5 3, vs5 4, vs5 5, vs5 6, vs5 7, vs5 8, undef, undef, undef, undef, undef, undef, undef, undef, undef, undef, undef, undef, undef, undef, undef, undef, undef, undef], defers := [] } := by
      rw [← hl]
      kernel_rfl
    subst hA''
    rw [g0]
    clear hl hG g0
    have Hb5 : Below w1.heap.size w1 V5 := hb
    clear hb
    generalize V5 = w2 at *
    have P2 := rangeAt_below P1 Hb5 (by omega)
    have X2 := rangeAt_below X1 Hb5 (by omega)
    have H2 := rangeAt_below H1 Hb5 (by omega)
    have K2 := K1.trans (Hb5.mono (by omega))
    have I2 := I1.below (Hb5.mono (by omega))
    have hz2 : w.heap.size + 1 + 1 < w2.heap.size := Nat.lt_of_lt_of_le hz1 Hb5.size
    clear P1 X1 H1 K1 I1 
    obtain ⟨x0', x1', x2', x3', x4'⟩ := row5 X2
    go_wp2_with fail
    refine (toArena_at (Below.refl w2.heap.size w2) (by omega) hA I2).mono ?_
    rintro e w4 ⟨q0, q1, q2, q3, rfl, J4, b4⟩
    have P4 := rangeAt_below P2 b4 (by omega)
    have X4 := rangeAt_below X2 b4 (by omega)
    have H4 := rangeAt_below H2 b4 (by omega)
    have Y4 : True := trivial
    have K4 := K2.trans (b4.mono (by omega))
    have I4 := I2.below (b4.mono (by omega))
    have hz4 : w.heap.size + 1 + 1 < w4.heap.size := Nat.lt_of_lt_of_le hz2 b4.size
    have hy4 : True := trivial
    clear P2 X2 H2 K2 I2 hz2 b4 x0' x1' x2' x3' x4' 
    have al := (Below.refl w4.heap.size w4).alloc (Nat.le_refl _) (.cells #[.int .i64 A.camera, .slice (some ⟨q0, 0, none⟩) A.slots.length A.slots.length, .slice (some ⟨q1, 0, none⟩) A.guides.length A.guides.length, .slice (some ⟨q2, 0, none⟩) A.nodes.length A.nodes.length, .slice (some ⟨q3, 0, none⟩) A.vers.length A.vers.length] 28)
    have P6 := rangeAt_below P4 al (by omega)
    have X6 := rangeAt_below X4 al (by omega)
    have H6 := rangeAt_below H4 al (by omega)
    have Y6 : True := trivial
    have Z6 := rangeAt_new w4 [.int .i64 A.camera, .slice (some ⟨q0, 0, none⟩) A.slots.length A.slots.length, .slice (some ⟨q1, 0, none⟩) A.guides.length A.guides.length, .slice (some ⟨q2, 0, none⟩) A.nodes.length A.nodes.length, .slice (some ⟨q3, 0, none⟩) A.vers.length A.vers.length] 28
    have K6 := K4.trans (al.mono (by omega))
    have I6 := I4.below (al.mono (by omega))
    have J5 := (J4.below al).weaken al.size
    have hz6 : w.heap.size + 1 + 1 < (w4.alloc (.cells #[.int .i64 A.camera, .slice (some ⟨q0, 0, none⟩) A.slots.length A.slots.length, .slice (some ⟨q1, 0, none⟩) A.guides.length A.guides.length, .slice (some ⟨q2, 0, none⟩) A.nodes.length A.nodes.length, .slice (some ⟨q3, 0, none⟩) A.vers.length A.vers.length] 28)).heap.size := Nat.lt_of_lt_of_le hz4 al.size
    have hy6 : True := trivial
    have hx6 : w4.heap.size < (w4.alloc (.cells #[.int .i64 A.camera, .slice (some ⟨q0, 0, none⟩) A.slots.length A.slots.length, .slice (some ⟨q1, 0, none⟩) A.guides.length A.guides.length, .slice (some ⟨q2, 0, none⟩) A.nodes.length A.nodes.length, .slice (some ⟨q3, 0, none⟩) A.vers.length A.vers.length] 28)).heap.size := by simp
    clear P4 X4 H4 Y4 K4 I4 J4 al
    go_upto_region 7 with fail
    generalize hw6 : w4.alloc (.cells #[.int .i64 A.camera, .slice (some ⟨q0, 0, none⟩) A.slots.length A.slots.length, .slice (some ⟨q1, 0, none⟩) A.guides.length A.guides.length, .slice (some ⟨q2, 0, none⟩) A.nodes.length A.nodes.length, .slice (some ⟨q3, 0, none⟩) A.vers.length A.vers.length] 28) = w6 at *
    clear hw6
    obtain ⟨xb, hxb⟩ : ∃ xb, xb = w4.heap.size := ⟨_, rfl⟩
    rw [← hxb] at Z6 hx6 ⊢
    clear hxb hz4 hy4
    refine any_order_calls (by kernel_rfl) (fitG7 w6.heap.size x y z u A h bb me clk q0 q1 q2 q3 a0 a1 a2 a3 c0 c1 c2 c3) (fun _ => false) (by kernel_rfl) (by kernel_rfl) (by kernel_rfl) (by rfl) (fun i v' w w' _ hq hb => fitG7_kept i v' w w' hq hb) (fun _ _ _ _ h => by cases h) ?step7 ?final7
    case step7 =>
      intro i o ho a V hb hn hd _ K hK
      have PW := rangeAt_below P6 hb (by omega)
      have XW := rangeAt_below X6 hb (by omega)
      have HW := rangeAt_below H6 hb (by omega)
      have YW := rangeAt_below Z6 hb (by omega)
      obtain ⟨y0', y1', y2', y3', y4'⟩ := row5 YW
      obtain ⟨x0', x1', x2', x3', x4'⟩ := row5 XW
      match i, ho with
      | 0, ho =>
        obtain rfl := Option.some.inj ho
        exact step_load 23 (.tmp 5) rfl (w.heap.size) 0 (hn 5 rfl) [.int .i64 x, .int .i64 y, .int .i64 z, .int .i64 u] _ PW Try.underlying23 rfl sizeLPlan (hK _ _ rfl (Below.refl _ _) (fun h => by cases h))
      | 1, ho =>
        obtain rfl := Option.some.inj ho
        have e1 : a.eval (.tmp 31) = .agg #[.int .i64 x, .int .i64 y, .int .i64 z, .int .i64 u] := hd ⟨0, .data⟩ (by simp) rfl 31 rfl
        have ef : a.eval (.func 10) = .func (.func 10) #[] #[] := rfl
        refine step_call (f := 10) (args := #[.agg #[.int .i64 x, .int .i64 y, .int .i64 z, .int .i64 u]]) (R := fun v w' => v = .agg #[.int .i64 x, .int .i64 y, .int .i64 z, .int .i64 u] ∧ Below V.heap.size V w') ?_ ((toPlan_any _ _ _ _ _).mono (fun e w' h => ⟨_, h.1, rfl, h.2⟩)) (fun v w' h => hK v w' h.1 h.2 (fun h => by cases h))
        generalize a.eval = ev at *
        go_simp
      | 2, ho =>
        obtain rfl := Option.some.inj ho
        have e1 : a.eval (.tmp 13) = .pointer (some ⟨xb, 0, none⟩) := hn 13 rfl
        refine step_value (v := .agg #[.int .i64 A.camera, .slice (some ⟨q0, 0, none⟩) A.slots.length A.slots.length, .slice (some ⟨q1, 0, none⟩) A.guides.length A.guides.length, .slice (some ⟨q2, 0, none⟩) A.nodes.length A.nodes.length, .slice (some ⟨q3, 0, none⟩) A.vers.length A.vers.length]) (w' := V) ?_ (hK _ _ rfl (Below.refl _ _) (fun h => by cases h))
        generalize a.eval = ev at *
        go_simp
      | 3, ho =>
        obtain rfl := Option.some.inj ho
        have e1 : a.eval (.tmp 2) = .int .i64 me := hn 2 rfl
        refine step_value (v := .int .i64 me) (w' := V) ?_ (hK _ _ rfl (Below.refl _ _) (fun h => by cases h))
        generalize a.eval = ev at *
        go_simp
      | 4, ho =>
        obtain rfl := Option.some.inj ho
        exact step_load 36 (.tmp 8) rfl (w.heap.size + 1 + 1) 0 (hn 8 rfl) (hdC h) _ HW Try.underlying36 rfl (sizeLHand h) (hK _ _ rfl (Below.refl _ _) (fun h => by cases h))
      | 5, ho =>
        obtain rfl := Option.some.inj ho
        have e1 : a.eval (.tmp 35) = .agg (hdC h).toArray := hd ⟨4, .data⟩ (by simp) rfl 35 rfl
        have ef : a.eval (.func 16) = .func (.func 16) #[] #[] := rfl
        refine step_call (f := 16) (args := #[.agg (hdC h).toArray]) (R := fun v w' => v = .agg (hdC h).toArray ∧ Below V.heap.size V w') ?_ ((toHand_any h _).mono (fun e w' h => ⟨_, h.1, rfl, h.2⟩)) (fun v w' h => hK v w' h.1 h.2 (fun h => by cases h))
        generalize a.eval = ev at *
        go_simp
      | 6, ho =>
        obtain rfl := Option.some.inj ho
        have e1 : a.eval (.tmp 4) = .int .i64 clk := hn 4 rfl
        refine step_value (v := .int .i64 clk) (w' := V) ?_ (hK _ _ rfl (Below.refl _ _) (fun h => by cases h))
        generalize a.eval = ev at *
        go_simp
      | 7, ho =>
        obtain rfl := Option.some.inj ho
        have e0 : a.eval (.tmp 32) = .agg #[.int .i64 x, .int .i64 y, .int .i64 z, .int .i64 u] := hd ⟨1, .data⟩ (by simp) rfl 32 rfl
        have eA : a.eval (.tmp 33) = .agg #[.int .i64 A.camera, .slice (some ⟨q0, 0, none⟩) A.slots.length A.slots.length, .slice (some ⟨q1, 0, none⟩) A.guides.length A.guides.length, .slice (some ⟨q2, 0, none⟩) A.nodes.length A.nodes.length, .slice (some ⟨q3, 0, none⟩) A.vers.length A.vers.length] := hd ⟨2, .data⟩ (by simp) rfl 33 rfl
        have J := (J5.below hb).weaken hb.size
        have e2 : a.eval (.tmp 34) = .int .i64 me := hd ⟨3, .data⟩ (by simp) rfl 34 rfl
        have e3 : a.eval (.tmp 36) = .agg (hdC h).toArray := hd ⟨5, .data⟩ (by simp) rfl 36 rfl
        have e4 : a.eval (.tmp 37) = .int .i64 clk := hd ⟨6, .data⟩ (by simp) rfl 37 rfl
        have ef : a.eval (.func 28) = .func (.func 28) #[] #[] := rfl
        refine step_call (f := 28) (args := #[.agg #[.int .i64 x, .int .i64 y, .int .i64 z, .int .i64 u], .agg #[.int .i64 A.camera, .slice (some ⟨q0, 0, none⟩) A.slots.length A.slots.length, .slice (some ⟨q1, 0, none⟩) A.guides.length A.guides.length, .slice (some ⟨q2, 0, none⟩) A.nodes.length A.nodes.length, .slice (some ⟨q3, 0, none⟩) A.vers.length A.vers.length], .int .i64 me, .agg (hdC h).toArray, .int .i64 clk]) (R := fun v w' => v = .bool bb ∧ Below V.heap.size V w') ?_ ((fit_any _ A x y z u me h clk _ _ _ _ _ _ _ _ _ (Nat.le_refl _) hA J).mono (fun e w' h => ⟨_, h.1, by rw [hBB.out], h.2⟩)) (fun v w' h => hK v w' h.1 h.2 (fun h => by cases h))
        generalize a.eval = ev at *
        go_simp
      | 8, ho =>
        obtain rfl := Option.some.inj ho
        have e1 : a.eval (.tmp 38) = .bool bb := hd ⟨7, .data⟩ (by simp) rfl 38 rfl
        refine step_value (v := .bool bb) (w' := V) ?_ (hK _ _ rfl (Below.refl _ _) (fun h => by cases h))
        generalize a.eval = ev at *
        go_simp
      | n + 9, ho => exact absurd ho (by simp)
    case final7 =>
      intro vs7 V7 hb hG _
      have g0 : vs7 8 = .bool bb := hG 8 (by decide)
      generalize hl : laid _ vs7 _ _ _ = A'
      have hA'' : A' = { tmps := #[.agg #[.int .i64 x, .int .i64 y, .int .i64 z, .int .i64 u], .agg #[.int .i64 A.camera, .slice a0 A.slots.length c0, .slice a1 A.guides.length c1, .slice a2 A.nodes.length c2, .slice a3 A.vers.length c3], .int .i64 me, .agg (hdC h).toArray, .int .i64 clk, .pointer (some ⟨w.heap.size, 0, none⟩), .pointer (some ⟨w.heap.size + 1, 0, none⟩), undef, .pointer (some ⟨w.heap.size + 1 + 1, 0, none⟩), undef, .bool false, .int .i64 (1048576 - (A.slots.length : Int) - (A.guides.length : Int) - (A.nodes.length : Int) - (A.vers.length : Int)), .bool bb, .pointer (some ⟨xb, 0, none⟩), vs7 8, .agg #[.int .i64 A.camera, .slice a0 A.slots.length c0, .slice a1 A.guides.length c1, .slice a2 A.nodes.length c2, .slice a3 A.vers.length c3], .int .i64 1048576, .int .i64 (1048576 - (A.slots.length : Int) - (A.guides.length : Int) - (A.nodes.length : Int) - (A.vers.length : Int)), .int .i64 (1048576 - (A.slots.length : Int) - (A.guides.length : Int) - (A.nodes.length : Int) - (A.vers.length : Int)), .bool (decide ((1048576 - (A.slots.length : Int) - (A.guides.length : Int) - (A.nodes.length : Int) - (A.vers.length : Int)) < 0)), vs5 0, vs5 1, vs5 2, vs5 3, vs5 4, vs5 5, vs5 6, vs5 7, vs5 8, .agg #[.int .i64 A.camera, .slice a0 A.slots.length c0, .slice a1 A.guides.length c1, .slice a2 A.nodes.length c2, .slice a3 A.vers.length c3], .agg #[.int .i64 A.camera, .slice (some ⟨q0, 0, none⟩) A.slots.length A.slots.length, .slice (some ⟨q1, 0, none⟩) A.guides.length A.guides.length, .slice (some ⟨q2, 0, none⟩) A.nodes.length A.nodes.length, .slice (some ⟨q3, 0, none⟩) A.vers.length A.vers.length], vs7 0, vs7 1, vs7 2, vs7 3, vs7 4, vs7 5, vs7 6, vs7 7, undef, undef, undef, undef, undef, undef, undef, undef], defers := [] } := by
        rw [← hl]
        kernel_rfl
      subst hA''
      rw [g0]
      clear hl hG g0
      have Hb7 : Below w6.heap.size w6 V7 := hb
      clear hb
      generalize V7 = w8 at *
      have X8 := rangeAt_below X6 Hb7 (by omega)

      have Z8 := rangeAt_below Z6 Hb7 (by omega)
      have K8 := K6.trans (Hb7.mono (by omega))
      have I8 := I6.below (Hb7.mono (by omega))
      have J8 := (J5.below Hb7).weaken Hb7.size
      have hz8 : w.heap.size + 1 + 1 < w8.heap.size := Nat.lt_of_lt_of_le hz6 Hb7.size
      have hx8 : xb < w8.heap.size := Nat.lt_of_lt_of_le hx6 Hb7.size
      clear P6 X6 H6 Y6 Z6 K6 I6 J5
      have hcc : (bb != bb) = false := by simp
      have hzA : w.heap.size + 1 < w8.heap.size := by omega
      have hzp : w.heap.size ≤ w8.heap.size := by omega
      have BB := Below.refl w8.heap.size w8
      obtain ⟨x0', x1', x2', x3', x4'⟩ := row5 X8
      obtain ⟨y0', y1', y2', y3', y4'⟩ := row5 Z8
      go_wp2_with fail
      go_region_held3 (fun w' => w'.cell? ⟨xb, 0, none⟩ = some (.int .i64 A.camera) ∧ w'.cell? ⟨xb, 1, none⟩ = some (.slice (some ⟨q0, 0, none⟩) A.slots.length A.slots.length) ∧ w'.cell? ⟨xb, 2, none⟩ = some (.slice (some ⟨q1, 0, none⟩) A.guides.length A.guides.length) ∧ w'.cell? ⟨xb, 3, none⟩ = some (.slice (some ⟨q2, 0, none⟩) A.nodes.length A.nodes.length) ∧ w'.cell? ⟨xb, 4, none⟩ = some (.slice (some ⟨q3, 0, none⟩) A.vers.length A.vers.length) ∧ w'.cell? ⟨w.heap.size + 1, 0, none⟩ = some (.int .i64 A.camera) ∧ w'.cell? ⟨w.heap.size + 1, 1, none⟩ = some (.slice a0 A.slots.length c0) ∧ w'.cell? ⟨w.heap.size + 1, 2, none⟩ = some (.slice a1 A.guides.length c1) ∧ w'.cell? ⟨w.heap.size + 1, 3, none⟩ = some (.slice a2 A.nodes.length c2) ∧ w'.cell? ⟨w.heap.size + 1, 4, none⟩ = some (.slice a3 A.vers.length c3)) (go_keep) (first | (go_at_call 23; refine (toArena_at BB.drew hzp hA I8).mono ?_; rintro e wi ⟨r0, r1, r2, r3, rfl, J6, bi⟩; replace BB : Below w8.heap.size w8 wi := (by first | exact BB.drew.trans (bi.mono (by exact BB.size)) | exact BB.trans (bi.mono (by exact BB.size))); obtain ⟨x0', x1', x2', x3', x4'⟩ := row5 (rangeAt_below X8 BB hzA); obtain ⟨y0', y1', y2', y3', y4'⟩ := row5 (rangeAt_below Z8 BB hx8)) | (go_at_call 12; refine (eqArena_any _ A _ _ _ _ _ _ _ _ _ (Nat.le_refl _) hA ((J8.below BB).weaken BB.size) J6).mono ?_; rintro e wi ⟨rfl, bi⟩; replace BB : Below w8.heap.size w8 wi := (by first | exact BB.drew.trans (bi.mono (by exact BB.size)) | exact BB.trans (bi.mono (by exact BB.size))); obtain ⟨x0', x1', x2', x3', x4'⟩ := row5 (rangeAt_below X8 BB hzA); obtain ⟨y0', y1', y2', y3', y4'⟩ := row5 (rangeAt_below Z8 BB hx8)))
      go_wp2
      go_ret
      exact ⟨rfl, K8.trans (BB.mono hzp)⟩

set_option maxRecDepth 100000 in
theorem fit_lifted (os : Os) (started : os.Started) (H : Type) (enc : TypeId × Value → H) :
    ReturnsInHanded {} Try.checked os 8 .any (Rows.fnExactFitSpec.pre6 enc Try.prog Try.f8 Rows.fnExactFitRow.domain false) (Rows.fnExactFitSpec.post enc Try.prog Try.f8 false true false false) := by
  refine returnsInHanded_of_change (C := Try.checked) own started (by kernel_rfl) Try.func8
    (ChangeSpec.witness6 (enc := enc) (C := Try.checked) false ⟨#[], #[.agg #[.int .i64 0, .int .i64 0, .int .i64 0, .int .i64 0], .agg #[.int .i64 0, .slice none 0 0, .slice none 0 0, .slice none 0 0, .slice none 0 0], .int .i64 0, .agg #[.int .i64 0, .int .i64 0, .int .i64 0, .int .i64 0, .int .i64 0, .int .i64 0, .int .i64 0, .int .i64 0, .int .i64 0, .int .i64 0, .int .i64 0, .int .i64 0, .int .i64 0, .int .i64 0, .int .i64 0, .int .i64 0, .int .i64 0, .int .i64 0, .int .i64 0, .int .i64 0, .int .i64 0, .int .i64 0], .int .i64 0], []⟩ 8 (by kernel_rfl) (by kernel_rfl) (by kernel_rfl) (by kernel_rfl)) ?_
  intro W base args ds gs before hval0 hW hcnd _
  have hval : ∀ (j : Nat) t v, Try.f8.params[j]? = some t → args[j]? = some v → Value.okWide Try.prog W .any base t v := hval0
  have hW' := hW
  obtain ⟨p, q, hA0, hV, rfl, hfz, hnd⟩ := hW
  have hA : DataW.TrodAll enc Try.prog W 0 (fun _ => true) true Try.f8.params.toList args.toList ds p := hA0
  rw [Try.params8] at hA hval
  obtain ⟨v0, vs0, d0, ds0, p0, q0, hargs, rfl, rfl, h0, r0⟩ := trodAll_cons hA
  obtain ⟨v1, vs1, d1, ds1, p1, q1, rfl, rfl, rfl, h1, r1⟩ := trodAll_cons r0
  obtain ⟨v2, vs2, d2, ds2, p2, q2, rfl, rfl, rfl, h2, r2⟩ := trodAll_cons r1
  obtain ⟨v3, vs3, d3, ds3, p3, q3, rfl, rfl, rfl, h3, r3⟩ := trodAll_cons r2
  obtain ⟨v4, vs4, d4, ds4, p4, q4, rfl, rfl, rfl, h4, r4⟩ := trodAll_cons r3
  obtain ⟨rfl, rfl, rfl⟩ := trodAll_nil r4
  obtain rfl : args = #[v0, v1, v2, v3, v4] := by cases args; simp_all
  obtain ⟨rfl, rfl⟩ := trodVars_none hV
  have k0 := h0
  have lt0 : ∀ x ∈ p0, x.block < W.heap.size := by obtain ⟨m, hm⟩ := k0; exact DataW.trod_lt m _ _ _ hm
  obtain ⟨x0, y0, z0, u0, hv0, wx0, wy0, wz0, wu0⟩ := open_plan (hval 0 23 v0 rfl rfl) h0
  subst hv0
  have k1 := h1
  have lt1 : ∀ x ∈ p1, x.block < W.heap.size := by obtain ⟨m, hm⟩ := k1; exact DataW.trod_lt m _ _ _ hm
  obtain ⟨A1, a10, a11, a12, a13, c10, c11, c12, c13, hv1, I1, m10, m11, m12, m13⟩ := open_arena (hval 1 48 v1 rfl rfl) h1
  subst hv1
  have k2 := h2
  have lt2 : ∀ x ∈ p2, x.block < W.heap.size := by obtain ⟨m, hm⟩ := k2; exact DataW.trod_lt m _ _ _ hm
  obtain ⟨x2, hv2, wx2⟩ : ∃ x, v2 = .int .i64 x ∧ (Lit.int .i64 x).wf = true := by
    obtain ⟨x, e1, _, _, wx⟩ := open_int Try.underlying2 (hval 2 2 v2 rfl rfl) h2
    exact ⟨x, e1, wx⟩
  subst hv2
  have k3 := h3
  have lt3 : ∀ x ∈ p3, x.block < W.heap.size := by obtain ⟨m, hm⟩ := k3; exact DataW.trod_lt m _ _ _ hm
  obtain ⟨hd3, hv3⟩ := open_hand (hval 3 36 v3 rfl rfl) h3
  subst hv3
  have k4 := h4
  have lt4 : ∀ x ∈ p4, x.block < W.heap.size := by obtain ⟨m, hm⟩ := k4; exact DataW.trod_lt m _ _ _ hm
  obtain ⟨x4, hv4, wx4⟩ : ∃ x, v4 = .int .i64 x ∧ (Lit.int .i64 x).wf = true := by
    obtain ⟨x, e1, _, _, wx⟩ := open_int Try.underlying2 (hval 4 2 v4 rfl rfl) h4
    exact ⟨x, e1, wx⟩
  subst hv4
  clear hA0 hval0
  refine (fit_walk x0 y0 z0 u0 wx0 wy0 wz0 wu0 A1 a10 a11 a12 a13 c10 c11 c12 c13 x2 wx2 hd3 x4 wx4 W I1 m10 m11 m12 m13).mono fun e W' ⟨he, bel⟩ => ?_
  subst he
  exact ⟨_, rfl, _, _, _, [], _, [], hW', trodAll_mk1 (shut_bool Try.underlying4 _), (trodAll_cons_mk (Below.trod laidOut (by kernel_rfl) (of_decide_eq_true (by kernel_rfl)) k0 bel lt0) (trodAll_cons_mk (Below.trod laidOut (by kernel_rfl) (of_decide_eq_true (by kernel_rfl)) k1 bel lt1) (trodAll_cons_mk (Below.trod laidOut (by kernel_rfl) (of_decide_eq_true (by kernel_rfl)) k2 bel lt2) (trodAll_cons_mk (Below.trod laidOut (by kernel_rfl) (of_decide_eq_true (by kernel_rfl)) k3 bel lt3) (trodAll_cons_mk (Below.trod laidOut (by kernel_rfl) (of_decide_eq_true (by kernel_rfl)) k4 bel lt4) trodAll_mk0))))), rfl, bel.frame _, fun h => by cases h⟩

/-- The given statement. -/
theorem fit_holds : Rows.FnExactFitSaid :=
  OpenClaim.holds_of_wide 8 Try.f8 rfl rfl rfl rfl rfl rfl rfl ⟨rfl, rfl, rfl, rfl, rfl⟩ rfl rfl rfl rfl rfl (by kernel_rfl) Try.func8 (by kernel_rfl)
    (of_decide_eq_true (by kernel_rfl)) (by unfold Func.isWrapper; first | (rw [if_pos (by decide +kernel)]; kernel_rfl) | (rw [if_neg (by decide +kernel)]; exact ⟨rfl, rfl⟩))
    (fun os started H enc _ => fit_lifted os started H enc)
#print axioms fit_holds

end Go.Proofs.Ytcgjkodpmloccaa
