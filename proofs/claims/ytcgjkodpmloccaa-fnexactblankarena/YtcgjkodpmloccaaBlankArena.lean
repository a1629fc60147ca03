/-
  BlankArena answers as the document's model does: at every Plan the law of BlankArena returns true (the answer is the model's, in memory of its own) and leaves its argument as it was. No condition.
-/
import Derived.Test.YtcgjkodpmloccaaSame
import Derived.Test.YtcgjkodpmloccaaArgs
import Derived.Test.YtcgjkodpmloccaaSpecArena
import Derived.Test.YtcgjkodpmloccaaBlankOf
import Derived.Test.YtcgjkodpmloccaaImplBlank
namespace Go.Proofs.Ytcgjkodpmloccaa
open Go.ChangeShapes Go.WideShapes Go.ChangeAt Go.RowKit
set_option linter.unusedVariables false
attribute [local go_sem ↓] Go.wp_at_zero Go.wp_at_succ

set_option maxRecDepth 100000 in
set_option maxHeartbeats 4000000 in
theorem blankArena_walk (x y z u : Int) (wx : (Lit.int .i64 x).wf = true) (wy : (Lit.int .i64 y).wf = true) (wz : (Lit.int .i64 z).wf = true) (wu : (Lit.int .i64 u).wf = true) (w : World) :
    Calls Try.prog 3 #[.agg #[.int .i64 x, .int .i64 y, .int .i64 z, .int .i64 u]] w fun e w' => e = .returned (.bool true) ∧ Below w.heap.size w w' := by
  clear wx wy wz wu
  have hA := blankOf_size x y z u
  have hc := blankOf_camera x y z u
  have hA' : (blankOf x y z u).slots.length + (blankOf x y z u).guides.length + (blankOf x y z u).nodes.length + (blankOf x y z u).vers.length ≤ 1048576 := hA
  have P0 := planAt_alloc w x y z u 23
  have K0 := (Below.refl w.heap.size w).alloc (Nat.le_refl _) (.cells #[.int .i64 x, .int .i64 y, .int .i64 z, .int .i64 u] 23)
  have hz0 : w.heap.size < (w.alloc (.cells #[.int .i64 x, .int .i64 y, .int .i64 z, .int .i64 u] 23)).heap.size := by simp
  go_enter Try.func3, Try.ntmps3
  go_wp2_with fail
  refine (toPlan_any _ _ _ _ _).mono ?_
  rintro e w1 ⟨rfl, b1⟩
  have P1 := P0.below b1 hz0
  have K1 := K0.trans (b1.mono (by omega))
  have hz1 := Nat.lt_of_lt_of_le hz0 b1.size
  clear P0 K0 b1 hz0
  go_wp2_with fail
  refine (specBlankArena_is x y z u _).mono ?_
  rintro e w2 ⟨s, g, n, r, rfl, I2, b2⟩
  have P2 := P1.below b2 hz1
  have K2 := K1.trans (b2.mono (by omega))
  have hz2 := Nat.lt_of_lt_of_le hz1 b2.size
  clear P1 K1 b2 hz1
  obtain ⟨d0, e0, rfl, -⟩ := id I2.s
  obtain ⟨d1, e1, rfl, -⟩ := id I2.g
  obtain ⟨d2, e2, rfl, -⟩ := id I2.n
  obtain ⟨d3, e3, rfl, -⟩ := id I2.r
  obtain ⟨p0', p1', p2', p3'⟩ := id P2
  go_wp2_with fail
  have al2 := (Below.refl w2.heap.size w2).alloc (Nat.le_refl _) (.cells #[.int .i64 0, .slice d0 (blankOf x y z u).slots.length e0, .slice d1 (blankOf x y z u).guides.length e1, .slice d2 (blankOf x y z u).nodes.length e2, .slice d3 (blankOf x y z u).vers.length e3] 28)
  have P3 := P2.below al2 hz2
  have X3 := rangeAt_new w2 [.int .i64 0, .slice d0 (blankOf x y z u).slots.length e0, .slice d1 (blankOf x y z u).guides.length e1, .slice d2 (blankOf x y z u).nodes.length e2, .slice d3 (blankOf x y z u).vers.length e3] 28
  have I3 := (I2.below al2).weaken al2.size
  have K3 := K2.trans (al2.mono (by omega))
  have hz3 : w2.heap.size < (w2.alloc (.cells #[.int .i64 0, .slice d0 (blankOf x y z u).slots.length e0, .slice d1 (blankOf x y z u).guides.length e1, .slice d2 (blankOf x y z u).nodes.length e2, .slice d3 (blankOf x y z u).vers.length e3] 28)).heap.size := by simp
  clear P2 K2 I2 al2
  generalize hw3 : w2.alloc (.cells #[.int .i64 0, .slice d0 (blankOf x y z u).slots.length e0, .slice d1 (blankOf x y z u).guides.length e1, .slice d2 (blankOf x y z u).nodes.length e2, .slice d3 (blankOf x y z u).vers.length e3] 28) = w3 at *
  clear hw3
  refine (toPlan_any _ _ _ _ _).mono ?_
  rintro e w4 ⟨rfl, b4⟩
  have P4 := P3.below b4 (by omega)
  have X4 := rangeAt_below X3 b4 hz3
  have I4 := (I3.below b4).weaken b4.size
  have K4 := K3.trans (b4.mono (by omega))
  have hz4 := Nat.lt_of_lt_of_le hz3 b4.size
  clear P3 X3 I3 K3 b4 hz3
  go_wp2_with fail
  refine (blankArena_any x y z u _).mono ?_
  rintro e w5 ⟨s', g', n', r', c0, c1, c2, c3, rfl, N5, b5⟩
  have P5 := P4.below b5 (by omega)
  have X5 := rangeAt_below X4 b5 hz4
  have I5 := I4.below b5
  have K5 := K4.trans (b5.mono (by omega))
  have hz5 := b5.size
  clear P4 X4 I4 K4 b5
  obtain ⟨f0, k0, -, rfl, -⟩ := id N5.s
  obtain ⟨f1, k1, -, rfl, -⟩ := id N5.g
  obtain ⟨f2, k2, -, rfl, -⟩ := id N5.n
  obtain ⟨f3, k3, -, rfl, -⟩ := id N5.r
  obtain ⟨x0', x1', x2', x3', x4'⟩ := row5 X5
  have lt5 : w2.heap.size < w5.heap.size := by omega
  go_wp2_with fail
  have al5 := (Below.refl w5.heap.size w5).alloc (Nat.le_refl _) (.cells #[.int .i64 0, .slice f0 (blankOf x y z u).slots.length k0, .slice f1 (blankOf x y z u).guides.length k1, .slice f2 (blankOf x y z u).nodes.length k2, .slice f3 (blankOf x y z u).vers.length k3] 28)
  have P6 := P5.below al5 (by omega)
  have X6 := rangeAt_below X5 al5 (by omega)
  have Y6 := rangeAt_new w5 [.int .i64 0, .slice f0 (blankOf x y z u).slots.length k0, .slice f1 (blankOf x y z u).guides.length k1, .slice f2 (blankOf x y z u).nodes.length k2, .slice f3 (blankOf x y z u).vers.length k3] 28
  have I6 := I5.below (al5.mono hz5)
  have N6 := N5.below al5
  have K6 := K5.trans (al5.mono (by omega))
  have hz6 : w5.heap.size < (w5.alloc (.cells #[.int .i64 0, .slice f0 (blankOf x y z u).slots.length k0, .slice f1 (blankOf x y z u).guides.length k1, .slice f2 (blankOf x y z u).nodes.length k2, .slice f3 (blankOf x y z u).vers.length k3] 28)).heap.size := by simp
  have l0 := N5.s.lt
  have l1 := N5.g.lt
  have l2 := N5.n.lt
  have l3 := N5.r.lt
  clear P5 X5 I5 N5 K5 al5
  generalize hw6 : w5.alloc (.cells #[.int .i64 0, .slice f0 (blankOf x y z u).slots.length k0, .slice f1 (blankOf x y z u).guides.length k1, .slice f2 (blankOf x y z u).nodes.length k2, .slice f3 (blankOf x y z u).vers.length k3] 28) = w6 at *
  clear hw6
  clear x0' x1' x2' x3' x4' p0' p1' p2' p3'
  have hz6' : w4.heap.size ≤ w6.heap.size := by omega
  have E6 := eqArena_any w6.heap.size (blankOf x y z u) _ _ _ _ _ _ _ _ w6 (Nat.le_refl _) hA (N6.is) (I6.weaken hz6')
  rw [hc] at E6
  refine E6.mono ?_
  rintro e w7 ⟨rfl, b7⟩
  have P7 := P6.below b7 (by omega)
  have X7 := rangeAt_below X6 b7 (by omega)
  have Y7 := rangeAt_below Y6 b7 hz6
  have I7 := I6.below (b7.mono hz6')
  have N7 := N6.below b7
  have K7 := K6.trans (b7.mono (by omega))
  have hz7 := Nat.lt_of_lt_of_le hz6 b7.size
  clear P6 X6 Y6 I6 N6 K6 b7 E6 hz6 hz6'
  obtain ⟨y0', y1', y2', y3', y4'⟩ := row5 Y7
  go_wp2_with fail
  have M8 := markArena_any 0 N7 1 hA (by omega) (by omega)
  refine M8.mono ?_
  rintro e w8 ⟨rfl, M, O⟩
  clear M8 N7 y0' y1' y2' y3' y4'
  have Y8 := O.range Y7 hz7 (fun h => by unfold wrote at h; omega)
  have bO : Below w4.heap.size w7 w8 := O.below (by omega) (fun k h => by unfold wrote at h; omega)
  have P8 := P7.lower bO (by omega)
  have X8 := rangeAt_below X7 bO (by omega)
  have I8 := I7.below bO
  have K8 := K7.trans (bO.mono (by omega))
  have hz8 := Nat.lt_of_lt_of_le hz7 O.size
  clear P7 X7 Y7 I7 K7 O bO hz7
  obtain ⟨y0', y1', y2', y3', y4'⟩ := row5 Y8
  go_wp2_with fail
  refine (heldArena_any 0 1 M hA' (by omega) (by omega)).mono ?_
  rintro e w9 ⟨rfl, b9⟩
  have P9 := P8.below b9 (by omega)
  have X9 := rangeAt_below X8 b9 (by omega)
  have Y9 := rangeAt_below Y8 b9 hz8
  have I9 := I8.below (b9.mono (by omega))
  have M9 := M.below b9
  have K9 := K8.trans (b9.mono (by omega))
  have hz9 := Nat.lt_of_lt_of_le hz8 b9.size
  clear P8 X8 Y8 I8 M K8 b9 hz8 y0' y1' y2' y3' y4'
  obtain ⟨p0', p1', p2', p3'⟩ := id P9
  go_wp2_with fail
  refine (toPlan_any _ _ _ _ _).mono ?_
  rintro e w10 ⟨rfl, b10⟩
  have P10 := P9.below b10 (by omega)
  have X10 := rangeAt_below X9 b10 (by omega)
  have Y10 := rangeAt_below Y9 b10 hz9
  have I10 := I9.below (b10.mono (by omega))
  have M10 := M9.below b10
  have K10 := K9.trans (b10.mono (by omega))
  have hz10 := Nat.lt_of_lt_of_le hz9 b10.size
  clear P9 X9 Y9 I9 M9 K9 b10 hz9 p0' p1' p2' p3'
  go_wp2_with fail
  refine (blankArena_any x y z u _).mono ?_
  rintro e w11 ⟨s, g, n, r, t0, t1, t2, t3, rfl, N11, b11⟩
  have X11 := rangeAt_below X10 b11 (by omega)
  have Y11 := rangeAt_below Y10 b11 hz10
  have I11 := I10.below (b11.mono (by omega))
  have M11 := M10.below b11
  have K11 := K10.trans (b11.mono (by omega))
  have hz11 := Nat.lt_of_lt_of_le hz10 b11.size
  clear P10 X10 Y10 I10 M10 K10 b11 hz10
  obtain ⟨h0, j0, -, rfl, -⟩ := id N11.s
  obtain ⟨h1, j1, -, rfl, -⟩ := id N11.g
  obtain ⟨h2, j2, -, rfl, -⟩ := id N11.n
  obtain ⟨h3, j3, -, rfl, -⟩ := id N11.r
  obtain ⟨x0', x1', x2', x3', x4'⟩ := row5 X11
  have lt11 : w2.heap.size < w11.heap.size := by omega
  go_wp2_with fail
  have al := (Below.refl w11.heap.size w11).alloc (Nat.le_refl _) (.cells #[.int .i64 0, .slice h0 (blankOf x y z u).slots.length j0, .slice h1 (blankOf x y z u).guides.length j1, .slice h2 (blankOf x y z u).nodes.length j2, .slice h3 (blankOf x y z u).vers.length j3] 28)
  have Y12 := rangeAt_below Y11 al hz11
  have I12 := I11.below (al.mono (by omega))
  have M12 := M11.below al
  have N12 := N11.below al
  have K12 := K11.trans (al.mono (by omega))
  have hz12 := Nat.lt_of_lt_of_le hz11 al.size
  clear X11 Y11 I11 M11 N11 K11 al hz11 x0' x1' x2' x3' x4'
  generalize hw12 : w11.alloc (.cells #[.int .i64 0, .slice h0 (blankOf x y z u).slots.length j0, .slice h1 (blankOf x y z u).guides.length j1, .slice h2 (blankOf x y z u).nodes.length j2, .slice h3 (blankOf x y z u).vers.length j3] 28) = w12 at *
  clear hw12
  have E12 := eqArena_any w12.heap.size (blankOf x y z u) _ _ _ _ _ _ _ _ w12 (Nat.le_refl _) hA (N12.is) (I12.weaken (by omega))
  rw [hc] at E12
  refine E12.mono ?_
  rintro e w13 ⟨rfl, b13⟩
  have Y13 := rangeAt_below Y12 b13 hz12
  have M13 := M12.below b13
  have K13 := K12.trans (b13.mono (by omega))
  clear Y12 I12 M12 N12 K12 E12 hz12 b13
  obtain ⟨y0', y1', y2', y3', y4'⟩ := row5 Y13
  go_wp2_with fail
  refine (heldArena_any 0 1 M13 hA' (by omega) (by omega)).mono ?_
  rintro e w14 ⟨rfl, b14⟩
  have K14 := K13.trans (b14.mono (K13.size))
  clear Y13 M13 b14 y0' y1' y2' y3' y4'
  go_wp2
  go_ret
  exact ⟨rfl, K14⟩

set_option maxRecDepth 100000 in
theorem blankArena_lifted (os : Os) (started : os.Started) (H : Type) (enc : TypeId × Value → H) :
    ReturnsInHanded {} Try.checked os 3 .any (Rows.fnExactBlankArenaSpec.pre6 enc Try.prog Try.f3 Rows.fnExactBlankArenaRow.domain false) (Rows.fnExactBlankArenaSpec.post enc Try.prog Try.f3 false true false false) := by
  refine returnsInHanded_of_change (C := Try.checked) own started (by kernel_rfl) Try.func3
    (ChangeSpec.witness6 (enc := enc) (C := Try.checked) false ⟨#[], #[.agg #[.int .i64 0, .int .i64 0, .int .i64 0, .int .i64 0]], []⟩ 8 (by kernel_rfl) (by kernel_rfl) (by kernel_rfl) (by kernel_rfl)) ?_
  intro W base args ds gs before hval0 hW hcnd _
  have hval : ∀ (j : Nat) t v, Try.f3.params[j]? = some t → args[j]? = some v → Value.okWide Try.prog W .any base t v := hval0
  have hW' := hW
  obtain ⟨p, q, hA0, hV, rfl, hfz, hnd⟩ := hW
  have hA : DataW.TrodAll enc Try.prog W 0 (fun _ => true) true Try.f3.params.toList args.toList ds p := hA0
  rw [Try.params3] at hA hval
  obtain ⟨v0, vs0, d0, ds0, p0, q0, hargs, rfl, rfl, h0, r0⟩ := trodAll_cons hA
  obtain ⟨rfl, rfl, rfl⟩ := trodAll_nil r0
  obtain rfl : args = #[v0] := by cases args; simp_all
  obtain ⟨rfl, rfl⟩ := trodVars_none hV
  have k0 := h0
  have lt0 : ∀ x ∈ p0, x.block < W.heap.size := by obtain ⟨m, hm⟩ := k0; exact DataW.trod_lt m _ _ _ hm
  obtain ⟨x0, y0, z0, u0, hv0, wx0, wy0, wz0, wu0⟩ := open_plan (hval 0 23 v0 rfl rfl) h0
  subst hv0
  clear hA0 hval0
  refine (blankArena_walk x0 y0 z0 u0 wx0 wy0 wz0 wu0 W ).mono fun e W' ⟨he, bel⟩ => ?_
  subst he
  exact ⟨_, rfl, _, _, _, [], _, [], hW', trodAll_mk1 (shut_bool Try.underlying4 _), (trodAll_cons_mk (Below.trod laidOut (by kernel_rfl) (of_decide_eq_true (by kernel_rfl)) k0 bel lt0) trodAll_mk0), rfl, bel.frame _, fun h => by cases h⟩

/-- The given statement. -/
theorem blankArena_holds : Rows.FnExactBlankArenaSaid :=
  OpenClaim.holds_of_wide 3 Try.f3 rfl rfl rfl rfl rfl rfl rfl ⟨rfl, rfl, rfl, rfl, rfl⟩ rfl rfl rfl rfl rfl (by kernel_rfl) Try.func3 (by kernel_rfl)
    (of_decide_eq_true (by kernel_rfl)) (by unfold Func.isWrapper; first | (rw [if_pos (by decide +kernel)]; kernel_rfl) | (rw [if_neg (by decide +kernel)]; exact ⟨rfl, rfl⟩))
    (fun os started H enc _ => blankArena_lifted os started H enc)
#print axioms blankArena_holds

end Go.Proofs.Ytcgjkodpmloccaa
