/-
  VersionNow answers as the document's model does: at every Plan, Arena and number of a node the law of VersionNow returns true and leaves its arguments as they were. No condition.
-/
import Derived.Test.YtoajbfijffondaaSame
import Derived.Test.YtoajbfijffondaaArgs
import Derived.Test.YtoajbfijffondaaSpecVersion
import Derived.Test.YtoajbfijffondaaImplVersion
namespace Go.Proofs.Ytoajbfijffondaa
open Go.ChangeShapes Go.WideShapes Go.ChangeAt Go.RowKit
set_option linter.unusedVariables false
attribute [local go_sem ↓] Go.wp_at_zero Go.wp_at_succ

set_option maxRecDepth 100000 in
set_option maxHeartbeats 4000000 in
theorem versionNow_walk (x y z u : Int) (wx : (Lit.int .i64 x).wf = true) (wy : (Lit.int .i64 y).wf = true) (wz : (Lit.int .i64 z).wf = true) (wu : (Lit.int .i64 u).wf = true) (A : Ar) (a0 a1 a2 a3 : Option Addr) (c0 c1 c2 c3 : Nat) (i0 : Int) (wi0 : (Lit.int .i64 i0).wf = true) (w : World)
    (I : ArenaIs w.heap.size w (.slice a0 A.slots.length c0) (.slice a1 A.guides.length c1) (.slice a2 A.nodes.length c2) (.slice a3 A.vers.length c3) A) (m0 : A.slots.length ≤ maxLen) (m1 : A.guides.length ≤ maxLen) (m2 : A.nodes.length ≤ maxLen) (m3 : A.vers.length ≤ maxLen) :
    Calls Try.prog 3 #[.agg #[.int .i64 x, .int .i64 y, .int .i64 z, .int .i64 u], .agg #[.int .i64 A.camera, .slice a0 A.slots.length c0, .slice a1 A.guides.length c1, .slice a2 A.nodes.length c2, .slice a3 A.vers.length c3], .int .i64 i0] w fun e w' => e = .returned (.bool true) ∧ Below w.heap.size w w' := by
  unfold maxLen at m0 m1 m2 m3
  clear wx wy wz wu
  have P0 := (planAt_alloc w x y z u 23).below ((Below.refl _ _).alloc (Nat.le_refl _) (.cells #[.int .i64 A.camera, .slice a0 A.slots.length c0, .slice a1 A.guides.length c1, .slice a2 A.nodes.length c2, .slice a3 A.vers.length c3] 28)) (by simp)
  have X0 : World.rangeAt ((w.alloc (.cells #[.int .i64 x, .int .i64 y, .int .i64 z, .int .i64 u] 23)).alloc (.cells #[.int .i64 A.camera, .slice a0 A.slots.length c0, .slice a1 A.guides.length c1, .slice a2 A.nodes.length c2, .slice a3 A.vers.length c3] 28)) (w.heap.size + 1) 0 [.int .i64 A.camera, .slice a0 A.slots.length c0, .slice a1 A.guides.length c1, .slice a2 A.nodes.length c2, .slice a3 A.vers.length c3] := by
    have h := rangeAt_new (w.alloc (.cells #[.int .i64 x, .int .i64 y, .int .i64 z, .int .i64 u] 23)) [.int .i64 A.camera, .slice a0 A.slots.length c0, .slice a1 A.guides.length c1, .slice a2 A.nodes.length c2, .slice a3 A.vers.length c3] 28
    simp only [World.size_alloc] at h
    exact h
  have K0 := ((Below.refl w.heap.size w).alloc (Nat.le_refl _) (.cells #[.int .i64 x, .int .i64 y, .int .i64 z, .int .i64 u] 23)).alloc (by simp) (.cells #[.int .i64 A.camera, .slice a0 A.slots.length c0, .slice a1 A.guides.length c1, .slice a2 A.nodes.length c2, .slice a3 A.vers.length c3] 28)
  have hz0 : w.heap.size + 1 < ((w.alloc (.cells #[.int .i64 x, .int .i64 y, .int .i64 z, .int .i64 u] 23)).alloc (.cells #[.int .i64 A.camera, .slice a0 A.slots.length c0, .slice a1 A.guides.length c1, .slice a2 A.nodes.length c2, .slice a3 A.vers.length c3] 28)).heap.size := by simp
  by_cases hA : A.size ≤ 1048576
  case neg =>
    unfold Ar.size at hA
    go_enter Try.func3, Try.ntmps3
    go_wp2_with fail
    refine (szArena_not _ _ _ _ _ _ _ _ _ _ _ _ _ _ (by omega) (by omega) (by omega) (by omega) (by omega)).mono ?_
    rintro e w1 ⟨rfl, b1⟩
    go_wp2
    go_ret
    exact ⟨rfl, K0.trans (b1.mono (by omega))⟩
  have hA' : A.slots.length + A.guides.length + A.nodes.length + A.vers.length ≤ 1048576 := hA
  go_enter Try.func3, Try.ntmps3
  go_wp2_with fail
  refine (szArena_fit _ _ _ _ _ _ _ _ _ _ _ _ _ _ hA').mono ?_
  rintro e w1 ⟨rfl, b1⟩
  have P1 := P0.below b1 (by omega)
  have X1 := rangeAt_below X0 b1 hz0
  have K1 := K0.trans (b1.mono (by omega))
  have I1 := I.below K1
  have hz1 := Nat.lt_of_lt_of_le hz0 b1.size
  have hz0' : w.heap.size < w1.heap.size := by omega
  clear P0 X0 K0 I b1 hz0
  have P1' := P1
  obtain ⟨p0', p1', p2', p3'⟩ := P1'
  obtain ⟨x0', x1', x2', x3', x4'⟩ := row5 X1
  have BB := Below.refl w1.heap.size w1
  go_wp2_with fail
  go_region_held3 (fun w' => w'.cell? ⟨w.heap.size, 0, none⟩ = some (.int .i64 x) ∧ w'.cell? ⟨w.heap.size, 1, none⟩ = some (.int .i64 y) ∧ w'.cell? ⟨w.heap.size, 2, none⟩ = some (.int .i64 z) ∧ w'.cell? ⟨w.heap.size, 3, none⟩ = some (.int .i64 u) ∧ w'.cell? ⟨w.heap.size + 1, 0, none⟩ = some (.int .i64 A.camera) ∧ w'.cell? ⟨w.heap.size + 1, 1, none⟩ = some (.slice a0 A.slots.length c0) ∧ w'.cell? ⟨w.heap.size + 1, 2, none⟩ = some (.slice a1 A.guides.length c1) ∧ w'.cell? ⟨w.heap.size + 1, 3, none⟩ = some (.slice a2 A.nodes.length c2) ∧ w'.cell? ⟨w.heap.size + 1, 4, none⟩ = some (.slice a3 A.vers.length c3)) (go_keep) (first | (go_at_call 9; refine (toPlan_any _ _ _ _ _).mono ?_; rintro e wi ⟨rfl, bi⟩; replace BB : Below w1.heap.size w1 wi := (by first | exact BB.drew.trans (bi.mono (by exact BB.size)) | exact BB.trans (bi.mono (by exact BB.size))); obtain ⟨p0', p1', p2', p3'⟩ := P1.below BB hz0'; obtain ⟨x0', x1', x2', x3', x4'⟩ := row5 (rangeAt_below X1 BB hz1)) | (go_at_call 10; refine (toArena_at BB (Nat.le_of_lt hz0') hA I1).mono ?_; rintro e wi ⟨p0, p1, p2, p3, rfl, J, bi⟩; replace BB : Below w1.heap.size w1 wi := (by first | exact BB.drew.trans (bi.mono (by exact BB.size)) | exact BB.trans (bi.mono (by exact BB.size))); obtain ⟨p0', p1', p2', p3'⟩ := P1.below BB hz0'; obtain ⟨x0', x1', x2', x3', x4'⟩ := row5 (rangeAt_below X1 BB hz1)) | (go_at_call 8; refine (specVersionNow_any _ A x y z u i0 _ _ _ _ _ _ _ _ _ (Nat.le_refl _) hA ?_).mono ?_; exact J; rintro e wi ⟨rfl, bi⟩; replace BB : Below w1.heap.size w1 wi := (by first | exact BB.drew.trans (bi.mono (by exact BB.size)) | exact BB.trans (bi.mono (by exact BB.size))); obtain ⟨p0', p1', p2', p3'⟩ := P1.below BB hz0'; obtain ⟨x0', x1', x2', x3', x4'⟩ := row5 (rangeAt_below X1 BB hz1)))
  go_wp2_with fail
  refine (toArena_at BB (Nat.le_of_lt hz0') hA I1).mono ?_
  rintro e w4 ⟨q0, q1, q2, q3, rfl, J4, b4⟩
  replace BB : Below w1.heap.size w1 w4 := BB.trans (b4.mono BB.size)
  have P4 := P1.below BB hz0'
  have X4 := rangeAt_below X1 BB hz1
  have K4 := K1.trans (BB.mono (Nat.le_of_lt hz0'))
  have I4 := I1.below (BB.mono (Nat.le_of_lt hz0'))
  have z4 := BB.size
  clear b4 P1 X1 K1 I1 J BB
  have al := (Below.refl w4.heap.size w4).alloc (Nat.le_refl _) (.cells #[.int .i64 A.camera, .slice (some ⟨q0, 0, none⟩) A.slots.length A.slots.length, .slice (some ⟨q1, 0, none⟩) A.guides.length A.guides.length, .slice (some ⟨q2, 0, none⟩) A.nodes.length A.nodes.length, .slice (some ⟨q3, 0, none⟩) A.vers.length A.vers.length] 36)
  have P5 := P4.below al (by omega)
  have X5 := rangeAt_below X4 al (by omega)
  have Y5 := rangeAt_new w4 [.int .i64 A.camera, .slice (some ⟨q0, 0, none⟩) A.slots.length A.slots.length, .slice (some ⟨q1, 0, none⟩) A.guides.length A.guides.length, .slice (some ⟨q2, 0, none⟩) A.nodes.length A.nodes.length, .slice (some ⟨q3, 0, none⟩) A.vers.length A.vers.length] 36
  have K5 := K4.trans (al.mono (by omega))
  have I5 := I4.below (al.mono (by omega))
  have J5 := (J4.below al).weaken al.size
  have hz7 : w4.heap.size < (w4.alloc (.cells #[.int .i64 A.camera, .slice (some ⟨q0, 0, none⟩) A.slots.length A.slots.length, .slice (some ⟨q1, 0, none⟩) A.guides.length A.guides.length, .slice (some ⟨q2, 0, none⟩) A.nodes.length A.nodes.length, .slice (some ⟨q3, 0, none⟩) A.vers.length A.vers.length] 36)).heap.size := by simp
  have hz6 : w.heap.size + 1 < (w4.alloc (.cells #[.int .i64 A.camera, .slice (some ⟨q0, 0, none⟩) A.slots.length A.slots.length, .slice (some ⟨q1, 0, none⟩) A.guides.length A.guides.length, .slice (some ⟨q2, 0, none⟩) A.nodes.length A.nodes.length, .slice (some ⟨q3, 0, none⟩) A.vers.length A.vers.length] 36)).heap.size := by omega
  have hz5 : w.heap.size < (w4.alloc (.cells #[.int .i64 A.camera, .slice (some ⟨q0, 0, none⟩) A.slots.length A.slots.length, .slice (some ⟨q1, 0, none⟩) A.guides.length A.guides.length, .slice (some ⟨q2, 0, none⟩) A.nodes.length A.nodes.length, .slice (some ⟨q3, 0, none⟩) A.vers.length A.vers.length] 36)).heap.size := by omega
  clear P4 X4 K4 I4 J4 al
  go_wp2_with fail
  generalize hw5 : w4.alloc (.cells #[.int .i64 A.camera, .slice (some ⟨q0, 0, none⟩) A.slots.length A.slots.length, .slice (some ⟨q1, 0, none⟩) A.guides.length A.guides.length, .slice (some ⟨q2, 0, none⟩) A.nodes.length A.nodes.length, .slice (some ⟨q3, 0, none⟩) A.vers.length A.vers.length] 36) = w5 at *
  clear hw5
  have BB := Below.refl w5.heap.size w5
  have P5' := P5
  obtain ⟨p0', p1', p2', p3'⟩ := P5'
  obtain ⟨x0', x1', x2', x3', x4'⟩ := row5 X5
  obtain ⟨y0', y1', y2', y3', y4'⟩ := row5 Y5
  go_region_held3 (fun w' => w'.cell? ⟨w.heap.size, 0, none⟩ = some (.int .i64 x) ∧ w'.cell? ⟨w.heap.size, 1, none⟩ = some (.int .i64 y) ∧ w'.cell? ⟨w.heap.size, 2, none⟩ = some (.int .i64 z) ∧ w'.cell? ⟨w.heap.size, 3, none⟩ = some (.int .i64 u) ∧ w'.cell? ⟨w4.heap.size, 0, none⟩ = some (.int .i64 A.camera) ∧ w'.cell? ⟨w4.heap.size, 1, none⟩ = some (.slice (some ⟨q0, 0, none⟩) A.slots.length A.slots.length) ∧ w'.cell? ⟨w4.heap.size, 2, none⟩ = some (.slice (some ⟨q1, 0, none⟩) A.guides.length A.guides.length) ∧ w'.cell? ⟨w4.heap.size, 3, none⟩ = some (.slice (some ⟨q2, 0, none⟩) A.nodes.length A.nodes.length) ∧ w'.cell? ⟨w4.heap.size, 4, none⟩ = some (.slice (some ⟨q3, 0, none⟩) A.vers.length A.vers.length)) (go_keep) (first | (go_at_call 9; refine (toPlan_any _ _ _ _ _).mono ?_; rintro e wi ⟨rfl, bi⟩; replace BB : Below w5.heap.size w5 wi := (by first | exact BB.drew.trans (bi.mono (by exact BB.size)) | exact BB.trans (bi.mono (by exact BB.size))); obtain ⟨p0', p1', p2', p3'⟩ := P5.below BB hz5; obtain ⟨x0', x1', x2', x3', x4'⟩ := row5 (rangeAt_below X5 BB hz6); obtain ⟨y0', y1', y2', y3', y4'⟩ := row5 (rangeAt_below Y5 BB hz7)) | (go_at_call 11; refine (versionNow_any w5.heap.size A x y z u i0 _ _ _ _ _ _ _ _ _ BB.size hA (J5.below BB)).mono ?_; rintro e wi ⟨rfl, bi⟩; replace BB : Below w5.heap.size w5 wi := (by first | exact BB.drew.trans (bi.mono (by exact BB.size)) | exact BB.trans (bi.mono (by exact BB.size))); obtain ⟨p0', p1', p2', p3'⟩ := P5.below BB hz5; obtain ⟨x0', x1', x2', x3', x4'⟩ := row5 (rangeAt_below X5 BB hz6); obtain ⟨y0', y1', y2', y3', y4'⟩ := row5 (rangeAt_below Y5 BB hz7)))
  go_wp2_with fail
  go_region_held3 (fun w' => w'.cell? ⟨w4.heap.size, 0, none⟩ = some (.int .i64 A.camera) ∧ w'.cell? ⟨w4.heap.size, 1, none⟩ = some (.slice (some ⟨q0, 0, none⟩) A.slots.length A.slots.length) ∧ w'.cell? ⟨w4.heap.size, 2, none⟩ = some (.slice (some ⟨q1, 0, none⟩) A.guides.length A.guides.length) ∧ w'.cell? ⟨w4.heap.size, 3, none⟩ = some (.slice (some ⟨q2, 0, none⟩) A.nodes.length A.nodes.length) ∧ w'.cell? ⟨w4.heap.size, 4, none⟩ = some (.slice (some ⟨q3, 0, none⟩) A.vers.length A.vers.length) ∧ w'.cell? ⟨w.heap.size + 1, 0, none⟩ = some (.int .i64 A.camera) ∧ w'.cell? ⟨w.heap.size + 1, 1, none⟩ = some (.slice a0 A.slots.length c0) ∧ w'.cell? ⟨w.heap.size + 1, 2, none⟩ = some (.slice a1 A.guides.length c1) ∧ w'.cell? ⟨w.heap.size + 1, 3, none⟩ = some (.slice a2 A.nodes.length c2) ∧ w'.cell? ⟨w.heap.size + 1, 4, none⟩ = some (.slice a3 A.vers.length c3)) (go_keep) (first | (go_at_call 10; refine (toArena_at BB.drew (Nat.le_of_lt hz5) hA I5).mono ?_; rintro e wi ⟨r0, r1, r2, r3, rfl, J6, bi⟩; replace BB : Below w5.heap.size w5 wi := (by first | exact BB.drew.trans (bi.mono (by exact BB.size)) | exact BB.trans (bi.mono (by exact BB.size))); obtain ⟨p0', p1', p2', p3'⟩ := P5.below BB hz5; obtain ⟨x0', x1', x2', x3', x4'⟩ := row5 (rangeAt_below X5 BB hz6); obtain ⟨y0', y1', y2', y3', y4'⟩ := row5 (rangeAt_below Y5 BB hz7)) | (go_at_call 12; refine (eqArena_any _ A _ _ _ _ _ _ _ _ _ (Nat.le_refl _) hA ((J5.below BB).weaken BB.size) J6).mono ?_; rintro e wi ⟨rfl, bi⟩; replace BB : Below w5.heap.size w5 wi := (by first | exact BB.drew.trans (bi.mono (by exact BB.size)) | exact BB.trans (bi.mono (by exact BB.size))); obtain ⟨p0', p1', p2', p3'⟩ := P5.below BB hz5; obtain ⟨x0', x1', x2', x3', x4'⟩ := row5 (rangeAt_below X5 BB hz6); obtain ⟨y0', y1', y2', y3', y4'⟩ := row5 (rangeAt_below Y5 BB hz7)))
  go_wp2
  go_ret
  exact ⟨rfl, K5.trans (BB.mono (Nat.le_of_lt hz5))⟩

set_option maxRecDepth 100000 in
theorem versionNow_lifted (os : Os) (started : os.Started) (H : Type) (enc : TypeId × Value → H) :
    ReturnsInHanded {} Try.checked os 3 .any (Rows.fnExactVersionNowSpec.pre6 enc Try.prog Try.f3 Rows.fnExactVersionNowRow.domain false) (Rows.fnExactVersionNowSpec.post enc Try.prog Try.f3 false true false false) := by
  refine returnsInHanded_of_change (C := Try.checked) own started (by kernel_rfl) Try.func3
    (ChangeSpec.witness6 (enc := enc) (C := Try.checked) false ⟨#[], #[.agg #[.int .i64 0, .int .i64 0, .int .i64 0, .int .i64 0], .agg #[.int .i64 0, .slice none 0 0, .slice none 0 0, .slice none 0 0, .slice none 0 0], .int .i64 0], []⟩ 8 (by kernel_rfl) (by kernel_rfl) (by kernel_rfl) (by kernel_rfl)) ?_
  intro W base args ds gs before hval0 hW hcnd _
  have hval : ∀ (j : Nat) t v, Try.f3.params[j]? = some t → args[j]? = some v → Value.okWide Try.prog W .any base t v := hval0
  have hW' := hW
  obtain ⟨p, q, hA0, hV, rfl, hfz, hnd⟩ := hW
  have hA : DataW.TrodAll enc Try.prog W 0 (fun _ => true) true Try.f3.params.toList args.toList ds p := hA0
  rw [Try.params3] at hA hval
  obtain ⟨v0, vs0, d0, ds0, p0, q0, hargs, rfl, rfl, h0, r0⟩ := trodAll_cons hA
  obtain ⟨v1, vs1, d1, ds1, p1, q1, rfl, rfl, rfl, h1, r1⟩ := trodAll_cons r0
  obtain ⟨v2, vs2, d2, ds2, p2, q2, rfl, rfl, rfl, h2, r2⟩ := trodAll_cons r1
  obtain ⟨rfl, rfl, rfl⟩ := trodAll_nil r2
  obtain rfl : args = #[v0, v1, v2] := by cases args; simp_all
  obtain ⟨rfl, rfl⟩ := trodVars_none hV
  have k0 := h0
  have lt0 : ∀ x ∈ p0, x.block < W.heap.size := by obtain ⟨m, hm⟩ := k0; exact DataW.trod_lt m _ _ _ hm
  obtain ⟨x0, y0, z0, u0, hv0, wx0, wy0, wz0, wu0⟩ := open_plan (hval 0 23 v0 rfl rfl) h0
  subst hv0
  have k1 := h1
  have lt1 : ∀ x ∈ p1, x.block < W.heap.size := by obtain ⟨m, hm⟩ := k1; exact DataW.trod_lt m _ _ _ hm
  obtain ⟨A1, a10, a11, a12, a13, c10, c11, c12, c13, hv1, I1, m10, m11, m12, m13⟩ := open_arena (hval 1 28 v1 rfl rfl) h1
  subst hv1
  have k2 := h2
  have lt2 : ∀ x ∈ p2, x.block < W.heap.size := by obtain ⟨m, hm⟩ := k2; exact DataW.trod_lt m _ _ _ hm
  obtain ⟨x2, hv2, wx2⟩ : ∃ x, v2 = .int .i64 x ∧ (Lit.int .i64 x).wf = true := by
    obtain ⟨x, e1, _, _, wx⟩ := open_int Try.underlying2 (hval 2 2 v2 rfl rfl) h2
    exact ⟨x, e1, wx⟩
  subst hv2
  clear hA0 hval0
  refine (versionNow_walk x0 y0 z0 u0 wx0 wy0 wz0 wu0 A1 a10 a11 a12 a13 c10 c11 c12 c13 x2 wx2 W I1 m10 m11 m12 m13).mono fun e W' ⟨he, bel⟩ => ?_
  subst he
  exact ⟨_, rfl, _, _, _, [], _, [], hW', trodAll_mk1 (shut_bool Try.underlying4 _), (trodAll_cons_mk (Below.trod laidOut (by kernel_rfl) (of_decide_eq_true (by kernel_rfl)) k0 bel lt0) (trodAll_cons_mk (Below.trod laidOut (by kernel_rfl) (of_decide_eq_true (by kernel_rfl)) k1 bel lt1) (trodAll_cons_mk (Below.trod laidOut (by kernel_rfl) (of_decide_eq_true (by kernel_rfl)) k2 bel lt2) trodAll_mk0))), rfl, bel.frame _, fun h => by cases h⟩

/-- The given statement. -/
theorem versionNow_holds : Rows.FnExactVersionNowSaid :=
  OpenClaim.holds_of_wide 3 Try.f3 rfl rfl rfl rfl rfl rfl rfl ⟨rfl, rfl, rfl, rfl, rfl⟩ rfl rfl rfl rfl rfl (by kernel_rfl) Try.func3 (by kernel_rfl)
    (of_decide_eq_true (by kernel_rfl)) (by unfold Func.isWrapper; first | (rw [if_pos (by decide +kernel)]; kernel_rfl) | (rw [if_neg (by decide +kernel)]; exact ⟨rfl, rfl⟩))
    (fun os started H enc _ => versionNow_lifted os started H enc)
#print axioms versionNow_holds

end Go.Proofs.Ytoajbfijffondaa
