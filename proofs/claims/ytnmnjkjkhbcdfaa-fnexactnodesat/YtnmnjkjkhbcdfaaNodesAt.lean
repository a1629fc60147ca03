/-
  NodesAt answers as the document's model does: at every Plan, Arena and stamp the law of NodesAt returns true (the answer is the model's, in memory of its own) and leaves its arguments as they were. No condition.
-/
import Derived.Test.YtnmnjkjkhbcdfaaSame
import Derived.Test.YtnmnjkjkhbcdfaaArgs
import Derived.Test.YtnmnjkjkhbcdfaaMark
import Derived.Test.YtnmnjkjkhbcdfaaSpecViews
import Derived.Test.YtnmnjkjkhbcdfaaImplView
namespace Go.Proofs.Ytnmnjkjkhbcdfaa
open Go.ChangeShapes Go.WideShapes Go.ChangeAt Go.RowKit
set_option linter.unusedVariables false
attribute [local go_sem ↓] Go.wp_at_zero Go.wp_at_succ

set_option maxRecDepth 100000 in
set_option maxHeartbeats 4000000 in
theorem nodesAt_walk (x y z u : Int) (wx : (Lit.int .i64 x).wf = true) (wy : (Lit.int .i64 y).wf = true) (wz : (Lit.int .i64 z).wf = true) (wu : (Lit.int .i64 u).wf = true) (A : Ar) (a0 a1 a2 a3 : Option Addr) (c0 c1 c2 c3 : Nat) (i0 : Int) (wi0 : (Lit.int .i64 i0).wf = true) (w : World)
    (I : ArenaIs w.heap.size w (.slice a0 A.slots.length c0) (.slice a1 A.guides.length c1) (.slice a2 A.nodes.length c2) (.slice a3 A.vers.length c3) A) (m0 : A.slots.length ≤ maxLen) (m1 : A.guides.length ≤ maxLen) (m2 : A.nodes.length ≤ maxLen) (m3 : A.vers.length ≤ maxLen) :
    Calls Try.prog 3 #[.agg #[.int .i64 x, .int .i64 y, .int .i64 z, .int .i64 u], .agg #[.int .i64 A.camera, .slice a0 A.slots.length c0, .slice a1 A.guides.length c1, .slice a2 A.nodes.length c2, .slice a3 A.vers.length c3], .int .i64 i0] w fun e w' => e = .returned (.bool true) ∧ Below w.heap.size w w' := by
  unfold maxLen at m0 m1 m2 m3
  clear wx wy wz wu
  have P0 := (planAt_alloc w x y z u 23).below ((Below.refl _ _).alloc (Nat.le_refl _) (.cells #[.int .i64 A.camera, .slice a0 A.slots.length c0, .slice a1 A.guides.length c1, .slice a2 A.nodes.length c2, .slice a3 A.vers.length c3] 28)) (by simp)
  have X0 : World.rangeAt ((w.alloc (.cells #[.int .i64 x, .int .i64 y, .int .i64 z, .int .i64 u] 23)).alloc (.cells #[.int .i64 A.camera, .slice a0 A.slots.length c0, .slice a1 A.guides.length c1, .slice a2 A.nodes.length c2, .slice a3 A.vers.length c3] 28)) (w.heap.size + 1) 0 [.int .i64 A.camera, .slice a0 A.slots.length c0, .slice a1 A.guides.length c1, .slice a2 A.nodes.length c2, .slice a3 A.vers.length c3] := by
    have h := rangeAt_new (w.alloc (.cells #[.int .i64 x, .int .i64 y, .int .i64 z, .int .i64 u] 23)) [.int .i64 A.camera, .slice a0 A.slots.length c0, .slice a1 A.guides.length c1, .slice a2 A.nodes.length c2, .slice a3 A.vers.length c3] 28
    simp only [World.size_alloc] at h
    exact h
  have K0 := ((Below.refl w.heap.size w).alloc (Nat.le_refl _) (.cells #[.int .i64 x, .int .i64 y, .int .i64 z, .int .i64 u] 23)).alloc (by simp) (.cells #[.int .i64 A.camera, .slice a0 A.slots.length c0, .slice a1 A.guides.length c1, .slice a2 A.nodes.length c2, .slice a3 A.vers.length c3] 28)
  have hz0 : w.heap.size + 1 < ((w.alloc (.cells #[.int .i64 x, .int .i64 y, .int .i64 z, .int .i64 u] 23)).alloc (.cells #[.int .i64 A.camera, .slice a0 A.slots.length c0, .slice a1 A.guides.length c1, .slice a2 A.nodes.length c2, .slice a3 A.vers.length c3] 28)).heap.size := by simp
  by_cases hA : A.size ≤ 1048576
  case neg =>
    unfold Ar.size at hA
    go_enter Try.func3, Try.ntmps3
    go_wp2_with fail
    refine (szArena_not _ _ _ _ _ _ _ _ _ _ _ _ _ _ (by omega) (by omega) (by omega) (by omega) (by omega)).mono ?_
    rintro e w1 ⟨rfl, b1⟩
    go_wp2
    go_ret
    exact ⟨rfl, K0.trans (b1.mono (by omega))⟩
  have hA' : A.slots.length + A.guides.length + A.nodes.length + A.vers.length ≤ 1048576 := hA
  have hl : (nodesL x y z u A false i0).length ≤ 1048576 := by have := nodesL_length x y z u A false i0; omega
  go_enter Try.func3, Try.ntmps3
  go_wp2_with fail
  refine (szArena_fit _ _ _ _ _ _ _ _ _ _ _ _ _ _ hA').mono ?_
  rintro e w1 ⟨rfl, b1⟩
  have P1 := P0.below b1 (by omega)
  have X1 := rangeAt_below X0 b1 hz0
  have K1 := K0.trans (b1.mono (by omega))
  have I1 := I.below K1
  have hz1 := Nat.lt_of_lt_of_le hz0 b1.size
  have hz0' : w.heap.size < w1.heap.size := by omega
  clear P0 X0 K0 I b1 hz0
  have P1' := P1
  obtain ⟨p0', p1', p2', p3'⟩ := P1'
  obtain ⟨x0', x1', x2', x3', x4'⟩ := row5 X1
  have BB := Below.refl w1.heap.size w1
  go_wp2_with fail
  go_region_held3 (fun w' => w'.cell? ⟨w.heap.size, 0, none⟩ = some (.int .i64 x) ∧ w'.cell? ⟨w.heap.size, 1, none⟩ = some (.int .i64 y) ∧ w'.cell? ⟨w.heap.size, 2, none⟩ = some (.int .i64 z) ∧ w'.cell? ⟨w.heap.size, 3, none⟩ = some (.int .i64 u) ∧ w'.cell? ⟨w.heap.size + 1, 0, none⟩ = some (.int .i64 A.camera) ∧ w'.cell? ⟨w.heap.size + 1, 1, none⟩ = some (.slice a0 A.slots.length c0) ∧ w'.cell? ⟨w.heap.size + 1, 2, none⟩ = some (.slice a1 A.guides.length c1) ∧ w'.cell? ⟨w.heap.size + 1, 3, none⟩ = some (.slice a2 A.nodes.length c2) ∧ w'.cell? ⟨w.heap.size + 1, 4, none⟩ = some (.slice a3 A.vers.length c3)) (go_keep) (first | (go_at_call 10; refine (toPlan_any _ _ _ _ _).mono ?_; rintro e wi ⟨rfl, bi⟩; replace BB : Below w1.heap.size w1 wi := (by first | exact BB.drew.trans (bi.mono (by exact BB.size)) | exact BB.trans (bi.mono (by exact BB.size))); obtain ⟨p0', p1', p2', p3'⟩ := P1.below BB hz0'; obtain ⟨x0', x1', x2', x3', x4'⟩ := row5 (rangeAt_below X1 BB hz1)) | (go_at_call 11; refine (toArena_at BB (Nat.le_of_lt hz0') hA I1).mono ?_; rintro e wi ⟨p0, p1, p2, p3, rfl, J, bi⟩; replace BB : Below w1.heap.size w1 wi := (by first | exact BB.drew.trans (bi.mono (by exact BB.size)) | exact BB.trans (bi.mono (by exact BB.size))); obtain ⟨p0', p1', p2', p3'⟩ := P1.below BB hz0'; obtain ⟨x0', x1', x2', x3', x4'⟩ := row5 (rangeAt_below X1 BB hz1)) | (go_at_call 9; refine (specNodesAt_any _ A x y z u i0 _ _ _ _ _ _ _ _ _ (Nat.le_refl _) hA ?_).mono ?_; exact J; rintro e wi ⟨v0, vb, rfl, V0, bi⟩; obtain ⟨va, vc, vo, rfl, -⟩ := id V0; replace BB : Below w1.heap.size w1 wi := (by first | exact BB.drew.trans (bi.mono (by exact BB.size)) | exact BB.trans (bi.mono (by exact BB.size))); obtain ⟨p0', p1', p2', p3'⟩ := P1.below BB hz0'; obtain ⟨x0', x1', x2', x3', x4'⟩ := row5 (rangeAt_below X1 BB hz1)))
  go_wp2_with fail
  obtain ⟨w3, hw3⟩ : ∃ w3 : World, w3 = wi := ⟨_, rfl⟩
  have V3 := hw3.symm ▸ V0.slice
  have Q3 : w1.heap.size ≤ w3.heap.size := by rw [hw3]; exact BB.size
  refine (toArena_new BB (Nat.le_of_lt hz0') hA I1).mono ?_
  rintro e w4 ⟨q0, q1, q2, q3, rfl, J4, b4⟩
  rw [← hw3] at J4 b4
  replace BB : Below w1.heap.size w1 w4 := BB.trans (hw3 ▸ b4.mono Q3)
  have V4 := V3.below b4
  have P4 := P1.below BB hz0'
  have X4 := rangeAt_below X1 BB hz1
  have K4 := K1.trans (BB.mono (Nat.le_of_lt hz0'))
  have I4 := I1.below (BB.mono (Nat.le_of_lt hz0'))
  have z4 := BB.size
  have z34 := b4.size
  clear b4 P1 X1 K1 I1 J BB V0 V3 hw3
  have al := (Below.refl w4.heap.size w4).alloc (Nat.le_refl _) (.cells #[.int .i64 A.camera, .slice (some ⟨q0, 0, none⟩) A.slots.length A.slots.length, .slice (some ⟨q1, 0, none⟩) A.guides.length A.guides.length, .slice (some ⟨q2, 0, none⟩) A.nodes.length A.nodes.length, .slice (some ⟨q3, 0, none⟩) A.vers.length A.vers.length] 36)
  have P5 := P4.below al (by omega)
  have X5 := rangeAt_below X4 al (by omega)
  have Y5 := rangeAt_new w4 [.int .i64 A.camera, .slice (some ⟨q0, 0, none⟩) A.slots.length A.slots.length, .slice (some ⟨q1, 0, none⟩) A.guides.length A.guides.length, .slice (some ⟨q2, 0, none⟩) A.nodes.length A.nodes.length, .slice (some ⟨q3, 0, none⟩) A.vers.length A.vers.length] 36
  have K5 := K4.trans (al.mono (by omega))
  have I5 := I4.below (al.mono (by omega))
  have V5 := V4.below (al.mono z34)
  have N5 := J4.below al
  have l0 := J4.s.lt
  have l1 := J4.g.lt
  have l2 := J4.n.lt
  have l3 := J4.r.lt
  have hz7 : w4.heap.size < (w4.alloc (.cells #[.int .i64 A.camera, .slice (some ⟨q0, 0, none⟩) A.slots.length A.slots.length, .slice (some ⟨q1, 0, none⟩) A.guides.length A.guides.length, .slice (some ⟨q2, 0, none⟩) A.nodes.length A.nodes.length, .slice (some ⟨q3, 0, none⟩) A.vers.length A.vers.length] 36)).heap.size := by simp
  have hz6 : w.heap.size + 1 < (w4.alloc (.cells #[.int .i64 A.camera, .slice (some ⟨q0, 0, none⟩) A.slots.length A.slots.length, .slice (some ⟨q1, 0, none⟩) A.guides.length A.guides.length, .slice (some ⟨q2, 0, none⟩) A.nodes.length A.nodes.length, .slice (some ⟨q3, 0, none⟩) A.vers.length A.vers.length] 36)).heap.size := by omega
  have hz5 : w.heap.size < (w4.alloc (.cells #[.int .i64 A.camera, .slice (some ⟨q0, 0, none⟩) A.slots.length A.slots.length, .slice (some ⟨q1, 0, none⟩) A.guides.length A.guides.length, .slice (some ⟨q2, 0, none⟩) A.nodes.length A.nodes.length, .slice (some ⟨q3, 0, none⟩) A.vers.length A.vers.length] 36)).heap.size := by omega
  clear P4 X4 K4 I4 J4 V4 al
  go_wp2_with fail
  generalize hw5 : w4.alloc (.cells #[.int .i64 A.camera, .slice (some ⟨q0, 0, none⟩) A.slots.length A.slots.length, .slice (some ⟨q1, 0, none⟩) A.guides.length A.guides.length, .slice (some ⟨q2, 0, none⟩) A.nodes.length A.nodes.length, .slice (some ⟨q3, 0, none⟩) A.vers.length A.vers.length] 36) = w5 at *
  clear hw5
  have BB := Below.refl w5.heap.size w5
  have P5' := P5
  obtain ⟨p0', p1', p2', p3'⟩ := P5'
  obtain ⟨x0', x1', x2', x3', x4'⟩ := row5 X5
  obtain ⟨y0', y1', y2', y3', y4'⟩ := row5 Y5
  go_region_held3 (fun w' => w'.cell? ⟨w.heap.size, 0, none⟩ = some (.int .i64 x) ∧ w'.cell? ⟨w.heap.size, 1, none⟩ = some (.int .i64 y) ∧ w'.cell? ⟨w.heap.size, 2, none⟩ = some (.int .i64 z) ∧ w'.cell? ⟨w.heap.size, 3, none⟩ = some (.int .i64 u) ∧ w'.cell? ⟨w4.heap.size, 0, none⟩ = some (.int .i64 A.camera) ∧ w'.cell? ⟨w4.heap.size, 1, none⟩ = some (.slice (some ⟨q0, 0, none⟩) A.slots.length A.slots.length) ∧ w'.cell? ⟨w4.heap.size, 2, none⟩ = some (.slice (some ⟨q1, 0, none⟩) A.guides.length A.guides.length) ∧ w'.cell? ⟨w4.heap.size, 3, none⟩ = some (.slice (some ⟨q2, 0, none⟩) A.nodes.length A.nodes.length) ∧ w'.cell? ⟨w4.heap.size, 4, none⟩ = some (.slice (some ⟨q3, 0, none⟩) A.vers.length A.vers.length)) (go_keep) (first | (go_at_call 10; refine (toPlan_any _ _ _ _ _).mono ?_; rintro e wi ⟨rfl, bi⟩; replace BB : Below w5.heap.size w5 wi := (by first | exact BB.drew.trans (bi.mono (by exact BB.size)) | exact BB.trans (bi.mono (by exact BB.size))); obtain ⟨p0', p1', p2', p3'⟩ := P5.below BB hz5; obtain ⟨x0', x1', x2', x3', x4'⟩ := row5 (rangeAt_below X5 BB hz6); obtain ⟨y0', y1', y2', y3', y4'⟩ := row5 (rangeAt_below Y5 BB hz7)) | (go_at_call 12; refine (nodesAt_any w5.heap.size A x y z u i0 _ _ _ _ _ _ _ _ _ BB.size hA (N5.is.below BB)).mono ?_; have zg := BB.size; rintro e wi ⟨g0, gb, rfl, G0, bi⟩; obtain ⟨ga, gc, go, rfl, -⟩ := id G0; replace BB : Below w5.heap.size w5 wi := (by first | exact BB.drew.trans (bi.mono (by exact BB.size)) | exact BB.trans (bi.mono (by exact BB.size))); obtain ⟨p0', p1', p2', p3'⟩ := P5.below BB hz5; obtain ⟨x0', x1', x2', x3', x4'⟩ := row5 (rangeAt_below X5 BB hz6); obtain ⟨y0', y1', y2', y3', y4'⟩ := row5 (rangeAt_below Y5 BB hz7)))
  go_wp2_with fail
  have G6 := G0.lo (lo' := w5.heap.size) zg
  have V6 := V5.below (BB.mono (by omega))
  refine (eqInt64S_any wi.heap.size _ _ (nodesL x y z u A false i0) wi (Nat.le_refl _) hl G6.slice (V6.weaken (by have := BB.size; omega))).mono ?_
  rintro e w7 ⟨rfl, b7⟩
  have G7 := G6.below b7
  replace BB : Below w5.heap.size w5 w7 := BB.trans (b7.mono BB.size)
  have P7 := P5.below BB hz5
  have X7 := rangeAt_below X5 BB hz6
  have Y7 := rangeAt_below Y5 BB hz7
  have I7 := I5.below (BB.mono (by omega))
  have V7 := V5.below (BB.mono (by omega))
  have N7 := N5.below BB
  have K7 := K5.trans (BB.mono (by omega))
  have z7 := BB.size
  clear b7 G0 G6 V6 V5 P5 X5 Y5 I5 N5 K5 BB p0' p1' p2' p3' x0' x1' x2' x3' x4' y0' y1' y2' y3' y4'
  have hx7 : w.heap.size + 1 < w7.heap.size := by omega
  have hy7 : w4.heap.size < w7.heap.size := by omega
  have BB := Below.refl w7.heap.size w7
  obtain ⟨x0', x1', x2', x3', x4'⟩ := row5 X7
  obtain ⟨y0', y1', y2', y3', y4'⟩ := row5 Y7
  go_wp2_with fail
  go_region_held3 (fun w' => w'.cell? ⟨w4.heap.size, 0, none⟩ = some (.int .i64 A.camera) ∧ w'.cell? ⟨w4.heap.size, 1, none⟩ = some (.slice (some ⟨q0, 0, none⟩) A.slots.length A.slots.length) ∧ w'.cell? ⟨w4.heap.size, 2, none⟩ = some (.slice (some ⟨q1, 0, none⟩) A.guides.length A.guides.length) ∧ w'.cell? ⟨w4.heap.size, 3, none⟩ = some (.slice (some ⟨q2, 0, none⟩) A.nodes.length A.nodes.length) ∧ w'.cell? ⟨w4.heap.size, 4, none⟩ = some (.slice (some ⟨q3, 0, none⟩) A.vers.length A.vers.length) ∧ w'.cell? ⟨w.heap.size + 1, 0, none⟩ = some (.int .i64 A.camera) ∧ w'.cell? ⟨w.heap.size + 1, 1, none⟩ = some (.slice a0 A.slots.length c0) ∧ w'.cell? ⟨w.heap.size + 1, 2, none⟩ = some (.slice a1 A.guides.length c1) ∧ w'.cell? ⟨w.heap.size + 1, 3, none⟩ = some (.slice a2 A.nodes.length c2) ∧ w'.cell? ⟨w.heap.size + 1, 4, none⟩ = some (.slice a3 A.vers.length c3)) (go_keep) (first | (go_at_call 11; refine (toArena_at BB.drew (by omega) hA I7).mono ?_; rintro e wi ⟨r0, r1, r2, r3, rfl, J6, bi⟩; replace BB : Below w7.heap.size w7 wi := (by first | exact BB.drew.trans (bi.mono (by exact BB.size)) | exact BB.trans (bi.mono (by exact BB.size))); obtain ⟨x0', x1', x2', x3', x4'⟩ := row5 (rangeAt_below X7 BB hx7); obtain ⟨y0', y1', y2', y3', y4'⟩ := row5 (rangeAt_below Y7 BB hy7)) | (go_at_call 14; refine (eqArena_any _ A _ _ _ _ _ _ _ _ _ (Nat.le_refl _) hA ((N7.is.below BB).weaken BB.size) J6).mono ?_; rintro e wi ⟨rfl, bi⟩; replace BB : Below w7.heap.size w7 wi := (by first | exact BB.drew.trans (bi.mono (by exact BB.size)) | exact BB.trans (bi.mono (by exact BB.size))); obtain ⟨x0', x1', x2', x3', x4'⟩ := row5 (rangeAt_below X7 BB hx7); obtain ⟨y0', y1', y2', y3', y4'⟩ := row5 (rangeAt_below Y7 BB hy7)))
  have P8 := P7.below BB (by omega)
  have X8 := rangeAt_below X7 BB hx7
  have Y8 := rangeAt_below Y7 BB hy7
  have I8 := I7.below (BB.mono (by omega))
  have V8 := V7.below (BB.mono (by omega))
  have N8 := N7.below BB
  have G8 := G7.below BB
  have K8 := K7.trans (BB.mono (by omega))
  have z8 := BB.size
  clear P7 X7 Y7 I7 V7 N7 G7 K7 BB J6 x0' x1' x2' x3' x4'
  go_wp2_with fail
  clear y0' y1' y2' y3' y4'
  refine (markArena_any A.camera N8 1 hA (by omega) (by omega)).mono ?_
  rintro e w9 ⟨rfl, M9, O9⟩
  have lg := G8.lt
  have bO : Below w3.heap.size _ w9 := O9.below (by omega) (fun k h => by unfold wrote at h; omega)
  have P9 := P8.lower bO (by omega)
  have X9 := rangeAt_below X8 bO (by omega)
  have I9 := I8.below (bO.mono (by omega))
  have V9 := V8.below bO
  have G9 := G8.but O9 (fun hp h => by have := lg hp; unfold wrote at h; omega)
  have K9 := K8.trans (bO.mono (by omega))
  have z9 := O9.size
  clear P8 X8 Y8 I8 V8 N8 G8 K8 M9 O9 bO lg
  go_wp2_with fail
  refine (eqInt64S_any w9.heap.size _ _ (nodesL x y z u A false i0) w9 (Nat.le_refl _) hl G9.slice (V9.weaken (by omega))).mono ?_
  rintro e w10 ⟨rfl, b10⟩
  have P10 := P9.below b10 (by omega)
  have X10 := rangeAt_below X9 b10 (by omega)
  have I10 := I9.below (b10.mono (by omega))
  have V10 := V9.below (b10.mono (by omega))
  have G10 := G9.below b10
  have K10 := K9.trans (b10.mono (by omega))
  have z10 := b10.size
  clear P9 X9 I9 V9 G9 K9 b10
  go_wp2_with fail
  refine (markInt64S_new G10 1 hl (by omega) (by omega)).mono ?_
  rintro e w11 ⟨rfl, G11, O11⟩
  have lg := G10.lt
  have bO : Below w5.heap.size w10 w11 := O11.below (by omega) (fun k h => by have := lg h.1; omega)
  have P11 := P10.lower bO (by omega)
  have X11 := rangeAt_below X10 bO (by omega)
  have I11 := I10.below (bO.mono (by omega))
  have V11 := V10.below (bO.mono (by omega))
  have K11 := K10.trans (bO.mono (by omega))
  have z11 := O11.size
  clear P10 X10 I10 V10 G10 K10 O11 bO lg
  go_wp2_with fail
  refine (heldInt64S_new 1 G11 hl (by omega) (by omega)).mono ?_
  rintro e w12 ⟨rfl, hw⟩
  obtain rfl := hw.symm
  have hp11 : w.heap.size < w11.heap.size := by omega
  have hx11 : w.heap.size + 1 < w11.heap.size := by omega
  have BB := Below.refl w11.heap.size w11
  obtain ⟨p0', p1', p2', p3'⟩ := id P11
  obtain ⟨x0', x1', x2', x3', x4'⟩ := row5 X11
  go_wp2_with fail
  go_region_held3 (fun w' => w'.cell? ⟨w.heap.size, 0, none⟩ = some (.int .i64 x) ∧ w'.cell? ⟨w.heap.size, 1, none⟩ = some (.int .i64 y) ∧ w'.cell? ⟨w.heap.size, 2, none⟩ = some (.int .i64 z) ∧ w'.cell? ⟨w.heap.size, 3, none⟩ = some (.int .i64 u) ∧ w'.cell? ⟨w.heap.size + 1, 0, none⟩ = some (.int .i64 A.camera) ∧ w'.cell? ⟨w.heap.size + 1, 1, none⟩ = some (.slice a0 A.slots.length c0) ∧ w'.cell? ⟨w.heap.size + 1, 2, none⟩ = some (.slice a1 A.guides.length c1) ∧ w'.cell? ⟨w.heap.size + 1, 3, none⟩ = some (.slice a2 A.nodes.length c2) ∧ w'.cell? ⟨w.heap.size + 1, 4, none⟩ = some (.slice a3 A.vers.length c3)) (go_keep) (first | (go_at_call 10; refine (toPlan_any _ _ _ _ _).mono ?_; rintro e wi ⟨rfl, bi⟩; replace BB : Below w11.heap.size w11 wi := (by first | exact BB.drew.trans (bi.mono (by exact BB.size)) | exact BB.trans (bi.mono (by exact BB.size))); obtain ⟨p0', p1', p2', p3'⟩ := P11.below BB hp11; obtain ⟨x0', x1', x2', x3', x4'⟩ := row5 (rangeAt_below X11 BB hx11)) | (go_at_call 11; refine (toArena_at BB (by omega) hA I11).mono ?_; rintro e wi ⟨p0, p1, p2, p3, rfl, J, bi⟩; replace BB : Below w11.heap.size w11 wi := (by first | exact BB.drew.trans (bi.mono (by exact BB.size)) | exact BB.trans (bi.mono (by exact BB.size))); obtain ⟨p0', p1', p2', p3'⟩ := P11.below BB hp11; obtain ⟨x0', x1', x2', x3', x4'⟩ := row5 (rangeAt_below X11 BB hx11)) | (go_at_call 12; refine (nodesAt_any _ A x y z u i0 _ _ _ _ _ _ _ _ _ (Nat.le_refl _) hA ?_).mono ?_; exact J; rintro e wi ⟨h0, hb, rfl, H0, bi⟩; obtain ⟨ha, hc, ho, rfl, -⟩ := id H0; replace BB : Below w11.heap.size w11 wi := (by first | exact BB.drew.trans (bi.mono (by exact BB.size)) | exact BB.trans (bi.mono (by exact BB.size))); obtain ⟨p0', p1', p2', p3'⟩ := P11.below BB hp11; obtain ⟨x0', x1', x2', x3', x4'⟩ := row5 (rangeAt_below X11 BB hx11)))
  have V13 := V11.below (BB.mono (by omega))
  have G13 := G11.below BB
  have K13 := K11.trans (BB.mono (by omega))
  have z13 := BB.size
  clear P11 X11 I11 V11 G11 K11 BB J p0' p1' p2' p3' x0' x1' x2' x3' x4'
  go_wp2_with fail
  refine (eqInt64S_any wi.heap.size _ _ (nodesL x y z u A false i0) wi (Nat.le_refl _) hl H0.slice (V13.weaken (by omega))).mono ?_
  rintro e w14 ⟨rfl, b14⟩
  have G14 := G13.below b14
  have K14 := K13.trans (b14.mono K13.size)
  clear V13 G13 K13 b14 H0
  go_wp2_with fail
  refine (heldInt64S_new 1 G14 hl (by omega) (by omega)).mono ?_
  rintro e w15 ⟨rfl, hw⟩
  obtain rfl := hw.symm
  go_wp2
  go_ret
  exact ⟨rfl, K14⟩

set_option maxRecDepth 100000 in
theorem nodesAt_lifted (os : Os) (started : os.Started) (H : Type) (enc : TypeId × Value → H) :
    ReturnsInHanded {} Try.checked os 3 .any (Rows.fnExactNodesAtSpec.pre6 enc Try.prog Try.f3 Rows.fnExactNodesAtRow.domain false) (Rows.fnExactNodesAtSpec.post enc Try.prog Try.f3 false true false false) := by
  refine returnsInHanded_of_change (C := Try.checked) own started (by kernel_rfl) Try.func3
    (ChangeSpec.witness6 (enc := enc) (C := Try.checked) false ⟨#[], #[.agg #[.int .i64 0, .int .i64 0, .int .i64 0, .int .i64 0], .agg #[.int .i64 0, .slice none 0 0, .slice none 0 0, .slice none 0 0, .slice none 0 0], .int .i64 0], []⟩ 8 (by kernel_rfl) (by kernel_rfl) (by kernel_rfl) (by kernel_rfl)) ?_
  intro W base args ds gs before hval0 hW hcnd _
  have hval : ∀ (j : Nat) t v, Try.f3.params[j]? = some t → args[j]? = some v → Value.okWide Try.prog W .any base t v := hval0
  have hW' := hW
  obtain ⟨p, q, hA0, hV, rfl, hfz, hnd⟩ := hW
  have hA : DataW.TrodAll enc Try.prog W 0 (fun _ => true) true Try.f3.params.toList args.toList ds p := hA0
  rw [Try.params3] at hA hval
  obtain ⟨v0, vs0, d0, ds0, p0, q0, hargs, rfl, rfl, h0, r0⟩ := trodAll_cons hA
  obtain ⟨v1, vs1, d1, ds1, p1, q1, rfl, rfl, rfl, h1, r1⟩ := trodAll_cons r0
  obtain ⟨v2, vs2, d2, ds2, p2, q2, rfl, rfl, rfl, h2, r2⟩ := trodAll_cons r1
  obtain ⟨rfl, rfl, rfl⟩ := trodAll_nil r2
  obtain rfl : args = #[v0, v1, v2] := by cases args; simp_all
  obtain ⟨rfl, rfl⟩ := trodVars_none hV
  have k0 := h0
  have lt0 : ∀ x ∈ p0, x.block < W.heap.size := by obtain ⟨m, hm⟩ := k0; exact DataW.trod_lt m _ _ _ hm
  obtain ⟨x0, y0, z0, u0, hv0, wx0, wy0, wz0, wu0⟩ := open_plan (hval 0 23 v0 rfl rfl) h0
  subst hv0
  have k1 := h1
  have lt1 : ∀ x ∈ p1, x.block < W.heap.size := by obtain ⟨m, hm⟩ := k1; exact DataW.trod_lt m _ _ _ hm
  obtain ⟨A1, a10, a11, a12, a13, c10, c11, c12, c13, hv1, I1, m10, m11, m12, m13⟩ := open_arena (hval 1 28 v1 rfl rfl) h1
  subst hv1
  have k2 := h2
  have lt2 : ∀ x ∈ p2, x.block < W.heap.size := by obtain ⟨m, hm⟩ := k2; exact DataW.trod_lt m _ _ _ hm
  obtain ⟨x2, hv2, wx2⟩ : ∃ x, v2 = .int .i64 x ∧ (Lit.int .i64 x).wf = true := by
    obtain ⟨x, e1, _, _, wx⟩ := open_int Try.underlying2 (hval 2 2 v2 rfl rfl) h2
    exact ⟨x, e1, wx⟩
  subst hv2
  clear hA0 hval0
  refine (nodesAt_walk x0 y0 z0 u0 wx0 wy0 wz0 wu0 A1 a10 a11 a12 a13 c10 c11 c12 c13 x2 wx2 W I1 m10 m11 m12 m13).mono fun e W' ⟨he, bel⟩ => ?_
  subst he
  exact ⟨_, rfl, _, _, _, [], _, [], hW', trodAll_mk1 (shut_bool Try.underlying4 _), (trodAll_cons_mk (Below.trod laidOut (by kernel_rfl) (of_decide_eq_true (by kernel_rfl)) k0 bel lt0) (trodAll_cons_mk (Below.trod laidOut (by kernel_rfl) (of_decide_eq_true (by kernel_rfl)) k1 bel lt1) (trodAll_cons_mk (Below.trod laidOut (by kernel_rfl) (of_decide_eq_true (by kernel_rfl)) k2 bel lt2) trodAll_mk0))), rfl, bel.frame _, fun h => by cases h⟩

/-- The given statement. -/
theorem nodesAt_holds : Rows.FnExactNodesAtSaid :=
  OpenClaim.holds_of_wide 3 Try.f3 rfl rfl rfl rfl rfl rfl rfl ⟨rfl, rfl, rfl, rfl, rfl⟩ rfl rfl rfl rfl rfl (by kernel_rfl) Try.func3 (by kernel_rfl)
    (of_decide_eq_true (by kernel_rfl)) (by unfold Func.isWrapper; first | (rw [if_pos (by decide +kernel)]; kernel_rfl) | (rw [if_neg (by decide +kernel)]; exact ⟨rfl, rfl⟩))
    (fun os started H enc _ => nodesAt_lifted os started H enc)
#print axioms nodesAt_holds

end Go.Proofs.Ytnmnjkjkhbcdfaa
