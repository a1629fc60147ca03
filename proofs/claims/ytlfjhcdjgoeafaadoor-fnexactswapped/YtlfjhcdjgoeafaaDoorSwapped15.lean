/-
  What the law's proof goes by, part 16.
-/
import Derived.Deep.Cut
import Derived.Test.YtlfjhcdjgoeafaaDoorSwapped00
import Derived.Test.YtlfjhcdjgoeafaaDoorSwapped02
import Derived.Test.YtlfjhcdjgoeafaaDoorSwapped03
import Derived.Test.YtlfjhcdjgoeafaaDoorSwapped05
import Derived.Test.YtlfjhcdjgoeafaaDoorSwapped06
import Derived.Test.YtlfjhcdjgoeafaaDoorSwapped13
import Derived.Test.YtlfjhcdjgoeafaaDoorSwapped14
namespace Go.Proofs.YtlfjhcdjgoeafaaDoor
open Go.ChangeShapes Go.WideShapes Go.ChangeAt Go.RowKit
set_option maxRecDepth 100000
set_option maxHeartbeats 16000000
set_option linter.unusedVariables false
set_option linter.unusedSimpArgs false
set_option linter.unnecessarySimpa false
set_option linter.unusedSectionVars false
section
attribute [local go_sem ↓] Go.wp_at_zero Go.wp_at_succ
def qz4q (lo : Nat) (x y z u : Int) (A A9 : Ar) (kk : Int) (node v nx : Int) (go : Bool) (kd : Int) (q0 q1 q2 q3 : Nat) (a0 a1 a2 a3 : Option Addr) (c0 c1 c2 c3 : Nat) : Nat -> Value -> World -> Prop
 | 0, v', _ => v' = .agg #[.int .i64 x, .int .i64 y, .int .i64 z, .int .i64 u]
 | 1, v', _ => v' = .agg #[.int .i64 x, .int .i64 y, .int .i64 z, .int .i64 u]
 | 2, v', _ => v' = .agg #[.int .i64 A.camera, .slice a0 A.slots.length c0, .slice a1 A.guides.length c1, .slice a2 A.nodes.length c2, .slice a3 A.vers.length c3]
 | 3, v', w => ∃ p0 p1 p2 p3, v' = .agg #[.int .i64 A.camera, .slice (some ⟨p0, 0, none⟩) A.slots.length A.slots.length, .slice (some ⟨p1, 0, none⟩) A.guides.length A.guides.length, .slice (some ⟨p2, 0, none⟩) A.nodes.length A.nodes.length, .slice (some ⟨p3, 0, none⟩) A.vers.length A.vers.length] /\ qzd w.heap.size w (.slice (some ⟨p0, 0, none⟩) A.slots.length A.slots.length) (.slice (some ⟨p1, 0, none⟩) A.guides.length A.guides.length) (.slice (some ⟨p2, 0, none⟩) A.nodes.length A.nodes.length) (.slice (some ⟨p3, 0, none⟩) A.vers.length A.vers.length) A
 | 4, v', _ => v' = .int .i64 node
 | 5, v', _ => v' = .int .i64 v
 | 6, v', _ => v' = .int .i64 nx
 | 7, v', _ => v' = .bool go
 | 8, v', _ => v' = .int .i64 kd
 | 9, v', w => ∃ s0 s1 s2 s3 t0 t1 t2 t3, v' = .tuple #[.agg #[.int .i64 A9.camera, .slice s0 A9.slots.length t0, .slice s1 A9.guides.length t1, .slice s2 A9.nodes.length t2, .slice s3 A9.vers.length t3], .int .i64 kk] /\ qz19 lo w (.slice s0 A9.slots.length t0) (.slice s1 A9.guides.length t1) (.slice s2 A9.nodes.length t2) (.slice s3 A9.vers.length t3) A9
 | 10, v', w => ∃ s0 s1 s2 s3 t0 t1 t2 t3, v' = .tuple #[.agg #[.int .i64 A9.camera, .slice s0 A9.slots.length t0, .slice s1 A9.guides.length t1, .slice s2 A9.nodes.length t2, .slice s3 A9.vers.length t3], .int .i64 kk] /\ qz19 lo w (.slice s0 A9.slots.length t0) (.slice s1 A9.guides.length t1) (.slice s2 A9.nodes.length t2) (.slice s3 A9.vers.length t3) A9
 | 11, v', w => ∃ s0 s1 s2 s3 t0 t1 t2 t3, v' = .agg #[.int .i64 A9.camera, .slice s0 A9.slots.length t0, .slice s1 A9.guides.length t1, .slice s2 A9.nodes.length t2, .slice s3 A9.vers.length t3] /\ qz19 lo w (.slice s0 A9.slots.length t0) (.slice s1 A9.guides.length t1) (.slice s2 A9.nodes.length t2) (.slice s3 A9.vers.length t3) A9
 | 12, v', _ => v' = .int .i64 kk
 | 13, v', w => ∃ b, v' = .pointer (some ⟨b, 0, none⟩) /\ lo <= b /\ Blk w b 33 5
 | _, _, _ => True
theorem qz4x {lo : Nat} {x y z u : Int} {A A9 : Ar} {kk : Int} {node v nx : Int} {go : Bool} {kd : Int} {q0 q1 q2 q3 : Nat} {a0 a1 a2 a3 : Option Addr} {c0 c1 c2 c3 : Nat} (i : Nat) (v' : Value) (w w' : World) (hq : qz4q lo x y z u A A9 kk node v nx go kd q0 q1 q2 q3 a0 a1 a2 a3 c0 c1 c2 c3 i v' w) (hb : Below w.heap.size w w') : qz4q lo x y z u A A9 kk node v nx go kd q0 q1 q2 q3 a0 a1 a2 a3 c0 c1 c2 c3 i v' w' := by
 match i, hq with
 | 0, h | 1, h | 2, h | 4, h | 5, h | 6, h | 7, h | 8, h | 12, h => exact h
 | 3, h =>
  obtain ⟨p0, p1, p2, p3, e, J⟩ := h
  exact ⟨p0, p1, p2, p3, e, (J.below hb).weaken hb.size⟩
 | 9, h =>
  obtain ⟨s0, s1, s2, s3, t0, t1, t2, t3, e, J⟩ := h
  exact ⟨s0, s1, s2, s3, t0, t1, t2, t3, e, J.below hb⟩
 | 10, h =>
  obtain ⟨s0, s1, s2, s3, t0, t1, t2, t3, e, J⟩ := h
  exact ⟨s0, s1, s2, s3, t0, t1, t2, t3, e, J.below hb⟩
 | 11, h =>
  obtain ⟨s0, s1, s2, s3, t0, t1, t2, t3, e, J⟩ := h
  exact ⟨s0, s1, s2, s3, t0, t1, t2, t3, e, J.below hb⟩
 | 13, h =>
  obtain ⟨b, e, h1, h2⟩ := h
  exact ⟨b, e, h1, h2.grown hb⟩
 | n + 14, h => exact trivial
def qz4r (lo : Nat) (x y z u : Int) (A A9 : Ar) (kk : Int) (node v nx : Int) (go : Bool) (kd : Int) (q0 q1 q2 q3 : Nat) (a0 a1 a2 a3 : Option Addr) (c0 c1 c2 c3 : Nat) : Nat -> Value -> World -> Prop
 | 0, v', _ => v' = .agg #[.int .i64 x, .int .i64 y, .int .i64 z, .int .i64 u]
 | 1, v', _ => v' = .agg #[.int .i64 x, .int .i64 y, .int .i64 z, .int .i64 u]
 | 2, v', _ => v' = .agg #[.int .i64 A.camera, .slice (some ⟨q0, 0, none⟩) A.slots.length A.slots.length, .slice (some ⟨q1, 0, none⟩) A.guides.length A.guides.length, .slice (some ⟨q2, 0, none⟩) A.nodes.length A.nodes.length, .slice (some ⟨q3, 0, none⟩) A.vers.length A.vers.length]
 | 3, v', _ => v' = .int .i64 node
 | 4, v', _ => v' = .int .i64 v
 | 5, v', _ => v' = .int .i64 nx
 | 6, v', _ => v' = .bool go
 | 7, v', _ => v' = .int .i64 kd
 | 8, v', w => ∃ s0 s1 s2 s3 t0 t1 t2 t3, v' = .tuple #[.agg #[.int .i64 A9.camera, .slice s0 A9.slots.length t0, .slice s1 A9.guides.length t1, .slice s2 A9.nodes.length t2, .slice s3 A9.vers.length t3], .int .i64 kk] /\ (∃ b0 b1 b2 b3, qza lo w (.slice s0 A9.slots.length t0) (.slice s1 A9.guides.length t1) (.slice s2 A9.nodes.length t2) (.slice s3 A9.vers.length t3) A9 b0 b1 b2 b3 /\ TypA w A9 b0 b1 b2 b3)
 | 9, v', w => ∃ s0 s1 s2 s3 t0 t1 t2 t3, v' = .tuple #[.agg #[.int .i64 A9.camera, .slice s0 A9.slots.length t0, .slice s1 A9.guides.length t1, .slice s2 A9.nodes.length t2, .slice s3 A9.vers.length t3], .int .i64 kk] /\ (∃ b0 b1 b2 b3, qza lo w (.slice s0 A9.slots.length t0) (.slice s1 A9.guides.length t1) (.slice s2 A9.nodes.length t2) (.slice s3 A9.vers.length t3) A9 b0 b1 b2 b3 /\ TypA w A9 b0 b1 b2 b3)
 | 10, v', w => ∃ s0 s1 s2 s3 t0 t1 t2 t3, v' = .agg #[.int .i64 A9.camera, .slice s0 A9.slots.length t0, .slice s1 A9.guides.length t1, .slice s2 A9.nodes.length t2, .slice s3 A9.vers.length t3] /\ (∃ b0 b1 b2 b3, qza lo w (.slice s0 A9.slots.length t0) (.slice s1 A9.guides.length t1) (.slice s2 A9.nodes.length t2) (.slice s3 A9.vers.length t3) A9 b0 b1 b2 b3 /\ TypA w A9 b0 b1 b2 b3)
 | 11, v', _ => v' = .int .i64 kk
 | 12, v', w => ∃ b, v' = .pointer (some ⟨b, 0, none⟩) /\ lo <= b /\ Blk w b 33 5
 | _, _, _ => True
theorem qz4v {lo : Nat} {x y z u : Int} {A A9 : Ar} {kk : Int} {node v nx : Int} {go : Bool} {kd : Int} {q0 q1 q2 q3 : Nat} {a0 a1 a2 a3 : Option Addr} {c0 c1 c2 c3 : Nat} (i : Nat) (v' : Value) (w w' : World) (hq : qz4r lo x y z u A A9 kk node v nx go kd q0 q1 q2 q3 a0 a1 a2 a3 c0 c1 c2 c3 i v' w) (hb : Below w.heap.size w w') : qz4r lo x y z u A A9 kk node v nx go kd q0 q1 q2 q3 a0 a1 a2 a3 c0 c1 c2 c3 i v' w' := by
 match i, hq with
 | 0, h | 1, h | 2, h | 3, h | 4, h | 5, h | 6, h | 7, h | 11, h => exact h
 | 8, h =>
  obtain ⟨s0, s1, s2, s3, t0, t1, t2, t3, e, b0, b1, b2, b3, N, Ty⟩ := h
  exact ⟨s0, s1, s2, s3, t0, t1, t2, t3, e, b0, b1, b2, b3, N.below hb, Ty.kept hb⟩
 | 9, h =>
  obtain ⟨s0, s1, s2, s3, t0, t1, t2, t3, e, b0, b1, b2, b3, N, Ty⟩ := h
  exact ⟨s0, s1, s2, s3, t0, t1, t2, t3, e, b0, b1, b2, b3, N.below hb, Ty.kept hb⟩
 | 10, h =>
  obtain ⟨s0, s1, s2, s3, t0, t1, t2, t3, e, b0, b1, b2, b3, N, Ty⟩ := h
  exact ⟨s0, s1, s2, s3, t0, t1, t2, t3, e, b0, b1, b2, b3, N.below hb, Ty.kept hb⟩
 | 12, h =>
  obtain ⟨b, e, h1, h2⟩ := h
  exact ⟨b, e, h1, h2.grown hb⟩
 | n + 13, h => exact trivial
def qz3i (lo : Nat) (x y z u : Int) (A A9 : Ar) (kk : Int) (node v nx : Int) (go : Bool) (kd : Int) (q0 q1 q2 q3 : Nat) (a0 a1 a2 a3 : Option Addr) (c0 c1 c2 c3 : Nat) : Nat -> Value -> World -> Prop
 | 0, v', _ => v' = .agg #[.int .i64 x, .int .i64 y, .int .i64 z, .int .i64 u]
 | 1, v', _ => v' = .agg #[.int .i64 x, .int .i64 y, .int .i64 z, .int .i64 u]
 | 2, v', _ => v' = .agg #[.int .i64 A.camera, .slice a0 A.slots.length c0, .slice a1 A.guides.length c1, .slice a2 A.nodes.length c2, .slice a3 A.vers.length c3]
 | 3, v', w => ∃ p0 p1 p2 p3, v' = .agg #[.int .i64 A.camera, .slice (some ⟨p0, 0, none⟩) A.slots.length A.slots.length, .slice (some ⟨p1, 0, none⟩) A.guides.length A.guides.length, .slice (some ⟨p2, 0, none⟩) A.nodes.length A.nodes.length, .slice (some ⟨p3, 0, none⟩) A.vers.length A.vers.length] /\ qzd w.heap.size w (.slice (some ⟨p0, 0, none⟩) A.slots.length A.slots.length) (.slice (some ⟨p1, 0, none⟩) A.guides.length A.guides.length) (.slice (some ⟨p2, 0, none⟩) A.nodes.length A.nodes.length) (.slice (some ⟨p3, 0, none⟩) A.vers.length A.vers.length) A
 | 4, v', _ => v' = .int .i64 node
 | 5, v', _ => v' = .int .i64 v
 | 6, v', _ => v' = .int .i64 nx
 | 7, v', _ => v' = .bool go
 | 8, v', _ => v' = .int .i64 kd
 | 9, v', w => ∃ s0 s1 s2 s3 t0 t1 t2 t3, v' = .tuple #[.agg #[.int .i64 A9.camera, .slice s0 A9.slots.length t0, .slice s1 A9.guides.length t1, .slice s2 A9.nodes.length t2, .slice s3 A9.vers.length t3], .int .i64 kk] /\ (∃ b0 b1 b2 b3, qza lo w (.slice s0 A9.slots.length t0) (.slice s1 A9.guides.length t1) (.slice s2 A9.nodes.length t2) (.slice s3 A9.vers.length t3) A9 b0 b1 b2 b3 /\ TypA w A9 b0 b1 b2 b3)
 | 10, v', w => ∃ s0 s1 s2 s3 t0 t1 t2 t3, v' = .tuple #[.agg #[.int .i64 A9.camera, .slice s0 A9.slots.length t0, .slice s1 A9.guides.length t1, .slice s2 A9.nodes.length t2, .slice s3 A9.vers.length t3], .int .i64 kk] /\ (∃ b0 b1 b2 b3, qza lo w (.slice s0 A9.slots.length t0) (.slice s1 A9.guides.length t1) (.slice s2 A9.nodes.length t2) (.slice s3 A9.vers.length t3) A9 b0 b1 b2 b3 /\ TypA w A9 b0 b1 b2 b3)
 | 11, v', w => ∃ s0 s1 s2 s3 t0 t1 t2 t3, v' = .agg #[.int .i64 A9.camera, .slice s0 A9.slots.length t0, .slice s1 A9.guides.length t1, .slice s2 A9.nodes.length t2, .slice s3 A9.vers.length t3] /\ (∃ b0 b1 b2 b3, qza lo w (.slice s0 A9.slots.length t0) (.slice s1 A9.guides.length t1) (.slice s2 A9.nodes.length t2) (.slice s3 A9.vers.length t3) A9 b0 b1 b2 b3 /\ TypA w A9 b0 b1 b2 b3)
 | 12, v', _ => v' = .int .i64 kk
 | 13, v', w => ∃ b, v' = .pointer (some ⟨b, 0, none⟩) /\ lo <= b /\ Blk w b 33 5
 | _, _, _ => True
theorem qz40 {lo : Nat} {x y z u : Int} {A A9 : Ar} {kk : Int} {node v nx : Int} {go : Bool} {kd : Int} {q0 q1 q2 q3 : Nat} {a0 a1 a2 a3 : Option Addr} {c0 c1 c2 c3 : Nat} (i : Nat) (v' : Value) (w w' : World) (hq : qz3i lo x y z u A A9 kk node v nx go kd q0 q1 q2 q3 a0 a1 a2 a3 c0 c1 c2 c3 i v' w) (hb : Below w.heap.size w w') : qz3i lo x y z u A A9 kk node v nx go kd q0 q1 q2 q3 a0 a1 a2 a3 c0 c1 c2 c3 i v' w' := by
 match i, hq with
 | 0, h | 1, h | 2, h | 4, h | 5, h | 6, h | 7, h | 8, h | 12, h => exact h
 | 3, h =>
  obtain ⟨p0, p1, p2, p3, e, J⟩ := h
  exact ⟨p0, p1, p2, p3, e, (J.below hb).weaken hb.size⟩
 | 9, h =>
  obtain ⟨s0, s1, s2, s3, t0, t1, t2, t3, e, b0, b1, b2, b3, N, Ty⟩ := h
  exact ⟨s0, s1, s2, s3, t0, t1, t2, t3, e, b0, b1, b2, b3, N.below hb, Ty.kept hb⟩
 | 10, h =>
  obtain ⟨s0, s1, s2, s3, t0, t1, t2, t3, e, b0, b1, b2, b3, N, Ty⟩ := h
  exact ⟨s0, s1, s2, s3, t0, t1, t2, t3, e, b0, b1, b2, b3, N.below hb, Ty.kept hb⟩
 | 11, h =>
  obtain ⟨s0, s1, s2, s3, t0, t1, t2, t3, e, b0, b1, b2, b3, N, Ty⟩ := h
  exact ⟨s0, s1, s2, s3, t0, t1, t2, t3, e, b0, b1, b2, b3, N.below hb, Ty.kept hb⟩
 | 13, h =>
  obtain ⟨b, e, h1, h2⟩ := h
  exact ⟨b, e, h1, h2.grown hb⟩
 | n + 14, h => exact trivial
theorem qz3u (x y z u : Int) (wx : (Lit.int .i64 x).wf = true) (wy : (Lit.int .i64 y).wf = true) (wz : (Lit.int .i64 z).wf = true) (wu : (Lit.int .i64 u).wf = true) (A : Ar) (a0 a1 a2 a3 : Option Addr) (c0 c1 c2 c3 : Nat) (node : Int) (wnode : (Lit.int .i64 node).wf = true) (v : Int) (wv : (Lit.int .i64 v).wf = true) (nx : Int) (wnx : (Lit.int .i64 nx).wf = true) (go : Bool) (kd : Int) (wkd : (Lit.int .i64 kd).wf = true) (eN eF eU : Addr) (w : World)
  (I : qzd w.heap.size w (.slice a0 A.slots.length c0) (.slice a1 A.guides.length c1) (.slice a2 A.nodes.length c2) (.slice a3 A.vers.length c3) A) (m0 : A.slots.length <= maxLen) (m1 : A.guides.length <= maxLen) (m2 : A.nodes.length <= maxLen) (m3 : A.vers.length <= maxLen) (hE : Errs w.heap.size w eN eF eU) (hT : ErrT w.heap.size w) :
  Calls Tryd.prog 3 #[.agg #[.int .i64 x, .int .i64 y, .int .i64 z, .int .i64 u], .agg #[.int .i64 A.camera, .slice a0 A.slots.length c0, .slice a1 A.guides.length c1, .slice a2 A.nodes.length c2, .slice a3 A.vers.length c3], .int .i64 node, .int .i64 v, .int .i64 nx, .bool go, .int .i64 kd] w fun e w' => e = .returned (.bool true) /\ Below w.heap.size w w' := by
 unfold maxLen at m0 m1 m2 m3
 clear wx wy wz wu wnode wv wnx wkd
 have P0 := World.rangeAt_alloc (qz6 w [.int .i64 x, .int .i64 y, .int .i64 z, .int .i64 u] 23) (.cells #[.int .i64 A.camera, .slice a0 A.slots.length c0, .slice a1 A.guides.length c1, .slice a2 A.nodes.length c2, .slice a3 A.vers.length c3] 28)
 have X0 := qz6 (w.alloc (.cells #[.int .i64 x, .int .i64 y, .int .i64 z, .int .i64 u] 23)) [.int .i64 A.camera, .slice a0 A.slots.length c0, .slice a1 A.guides.length c1, .slice a2 A.nodes.length c2, .slice a3 A.vers.length c3] 28
 have K0 := ((Below.refl w.heap.size w).alloc (Nat.le_refl _) (.cells #[.int .i64 x, .int .i64 y, .int .i64 z, .int .i64 u] 23)).alloc (by simp) (.cells #[.int .i64 A.camera, .slice a0 A.slots.length c0, .slice a1 A.guides.length c1, .slice a2 A.nodes.length c2, .slice a3 A.vers.length c3] 28)
 have hz0 : w.heap.size + 1 < ((w.alloc (.cells #[.int .i64 x, .int .i64 y, .int .i64 z, .int .i64 u] 23)).alloc (.cells #[.int .i64 A.camera, .slice a0 A.slots.length c0, .slice a1 A.guides.length c1, .slice a2 A.nodes.length c2, .slice a3 A.vers.length c3] 28)).heap.size := by simp
 simp only [World.size_alloc] at X0
 by_cases hA : A.size <= 1048576
 case neg =>
  unfold Ar.size at hA
  go_enter Tryd.func3, Tryd.ntmps3
  go_wp2_with fail
  refine (qz6q _ _ _ _ _ _ _ _ _ _ _ _ _ _ (by omega) (by omega) (by omega) (by omega) (by omega)).mono ?_
  rintro e w1 ⟨rfl, b1⟩
  go_wp2
  go_ret
  exact ⟨rfl, K0.trans (b1.mono (by omega))⟩
 have hA' : A.slots.length + A.guides.length + A.nodes.length + A.vers.length <= 1048576 := hA
 go_enter Tryd.func3, Tryd.ntmps3
 go_wp2_with fail
 refine (qz6s _ _ _ _ _ _ _ _ _ _ _ _ _ _ hA').mono ?_
 rintro e w1 ⟨rfl, b1⟩
 have P1 := qz0 P0 b1 (by omega)
 have X1 := qz0 X0 b1 (by omega)
 have K1 := K0.trans (b1.mono (by omega))
 have I1 := I.below K1
 have hz1 : w.heap.size + 1 < w1.heap.size := Nat.lt_of_lt_of_le hz0 b1.size
 clear P0 X0 K0 I b1 hz0
 obtain ⟨⟨A9, kk⟩, hR⟩ : ∃ R, Hid (qz1g x y z u A node v nx go kd = R) := ⟨_, rfl⟩
 have hA9 : A9.size <= 1048576 := by
  have := qz56 x y z u A node v nx go kd
  rw [hR.out] at this
  exact this
 have hA9' : A9.slots.length + A9.guides.length + A9.nodes.length + A9.vers.length <= 1048576 := hA9
 go_wp2_with fail
 refine qz1d 14 12 (by decide) (by kernel_rfl) (qz4q w1.heap.size x y z u A A9 kk node v nx go kd 0 0 0 0 a0 a1 a2 a3 c0 c1 c2 c3) (fun _ => false) (by kernel_rfl) (by kernel_rfl) (by kernel_rfl) (by kernel_rfl) (by kernel_rfl) (by rfl) (fun i v' w w' _ hq hb => qz4x i v' w w' hq hb) (fun _ _ _ _ h => by cases h) ?step5 (fun _ _ _ _ h => h) ?float5 ?final5
 case float5 =>
  intro o ho a V hd
  obtain rfl := Option.some.inj ho
  obtain ⟨s0, s1, s2, s3, t0, t1, t2, t3, e1, -⟩ := (show ∃ s0 s1 s2 s3 t0 t1 t2 t3, a.eval (.tmp 31) = .tuple #[.agg #[.int .i64 A9.camera, .slice s0 A9.slots.length t0, .slice s1 A9.guides.length t1, .slice s2 A9.nodes.length t2, .slice s3 A9.vers.length t3], .int .i64 kk] /\ qz19 w1.heap.size V (.slice s0 A9.slots.length t0) (.slice s1 A9.guides.length t1) (.slice s2 A9.nodes.length t2) (.slice s3 A9.vers.length t3) A9 from hd ⟨10, .data⟩ (by simp) rfl 31 rfl)
  refine ⟨.int .i64 kk, fun w' => ?_, rfl, rfl⟩
  generalize a.eval = ev at *
  go_simp
 case step5 =>
  intro i o hik ho a V hb hn hd K hK
  have PW := qz0 P1 hb (by omega)
  have XW := qz0 X1 hb (by omega)
  obtain ⟨x0', x1', x2', x3', x4'⟩ := row5 XW
  match i, ho with
  | 0, ho =>
   obtain rfl := Option.some.inj ho
   exact qz2o 23 (.tmp 7) rfl (w.heap.size) 0 (hn 7 rfl) [.int .i64 x, .int .i64 y, .int .i64 z, .int .i64 u] _ PW Tryd.underlying23 rfl qz4l (hK _ _ rfl (Below.refl _ _) (fun h => by cases h))
  | 1, ho =>
   obtain rfl := Option.some.inj ho
   have e1 : a.eval (.tmp 32) = .agg #[.int .i64 x, .int .i64 y, .int .i64 z, .int .i64 u] := hd ⟨0, .data⟩ (by simp) rfl 32 rfl
   have ef : a.eval (.func 7) = .func (.func 7) #[] #[] := rfl
   refine qzm (f := 7) (args := #[.agg #[.int .i64 x, .int .i64 y, .int .i64 z, .int .i64 u]]) (R := fun v w' => v = .agg #[.int .i64 x, .int .i64 y, .int .i64 z, .int .i64 u] /\ Below V.heap.size V w') ?_ ((qz3n _ _ _ _ _).mono (fun e w' h => ⟨_, h.1, rfl, h.2⟩)) (fun v w' h => hK v w' h.1 h.2 (fun h => by cases h))
   generalize a.eval = ev at *
   go_simp
  | 2, ho =>
   obtain rfl := Option.some.inj ho
   have e1 : a.eval (.tmp 8) = .pointer (some ⟨w.heap.size + 1, 0, none⟩) := hn 8 rfl
   refine qz2 (v := .agg #[.int .i64 A.camera, .slice a0 A.slots.length c0, .slice a1 A.guides.length c1, .slice a2 A.nodes.length c2, .slice a3 A.vers.length c3]) (w' := V) ?_ (hK _ _ rfl (Below.refl _ _) (fun h => by cases h))
   generalize a.eval = ev at *
   go_simp
  | 3, ho =>
   obtain rfl := Option.some.inj ho
   have e1 : a.eval (.tmp 34) = .agg #[.int .i64 A.camera, .slice a0 A.slots.length c0, .slice a1 A.guides.length c1, .slice a2 A.nodes.length c2, .slice a3 A.vers.length c3] := hd ⟨2, .data⟩ (by simp) rfl 34 rfl
   have ef : a.eval (.func 8) = .func (.func 8) #[] #[] := rfl
   refine qzm (f := 8) (args := #[.agg #[.int .i64 A.camera, .slice a0 A.slots.length c0, .slice a1 A.guides.length c1, .slice a2 A.nodes.length c2, .slice a3 A.vers.length c3]]) (R := fun v w' => (∃ p0 p1 p2 p3, v = .agg #[.int .i64 A.camera, .slice (some ⟨p0, 0, none⟩) A.slots.length A.slots.length, .slice (some ⟨p1, 0, none⟩) A.guides.length A.guides.length, .slice (some ⟨p2, 0, none⟩) A.nodes.length A.nodes.length, .slice (some ⟨p3, 0, none⟩) A.vers.length A.vers.length] /\ qzd w'.heap.size w' (.slice (some ⟨p0, 0, none⟩) A.slots.length A.slots.length) (.slice (some ⟨p1, 0, none⟩) A.guides.length A.guides.length) (.slice (some ⟨p2, 0, none⟩) A.nodes.length A.nodes.length) (.slice (some ⟨p3, 0, none⟩) A.vers.length A.vers.length) A) /\ Below V.heap.size V w') ?_ ((qz3d hb (by omega) hA I1).mono (fun e w' h => by obtain ⟨p0, p1, p2, p3, e1, J, bJ⟩ := h; exact ⟨_, e1, ⟨p0, p1, p2, p3, rfl, J⟩, bJ⟩)) (fun v w' h => hK v w' h.1 h.2 (fun h => by cases h))
   generalize a.eval = ev at *
   go_simp
  | 4, ho =>
   obtain rfl := Option.some.inj ho
   have e1 : a.eval (.tmp 2) = .int .i64 node := hn 2 rfl
   refine qz2 (v := .int .i64 node) (w' := V) ?_ (hK _ _ rfl (Below.refl _ _) (fun h => by cases h))
   generalize a.eval = ev at *
   go_simp
  | 5, ho =>
   obtain rfl := Option.some.inj ho
   have e1 : a.eval (.tmp 3) = .int .i64 v := hn 3 rfl
   refine qz2 (v := .int .i64 v) (w' := V) ?_ (hK _ _ rfl (Below.refl _ _) (fun h => by cases h))
   generalize a.eval = ev at *
   go_simp
  | 6, ho =>
   obtain rfl := Option.some.inj ho
   have e1 : a.eval (.tmp 4) = .int .i64 nx := hn 4 rfl
   refine qz2 (v := .int .i64 nx) (w' := V) ?_ (hK _ _ rfl (Below.refl _ _) (fun h => by cases h))
   generalize a.eval = ev at *
   go_simp
  | 7, ho =>
   obtain rfl := Option.some.inj ho
   have e1 : a.eval (.tmp 5) = .bool go := hn 5 rfl
   refine qz2 (v := .bool go) (w' := V) ?_ (hK _ _ rfl (Below.refl _ _) (fun h => by cases h))
   generalize a.eval = ev at *
   go_simp
  | 8, ho =>
   obtain rfl := Option.some.inj ho
   have e1 : a.eval (.tmp 6) = .int .i64 kd := hn 6 rfl
   refine qz2 (v := .int .i64 kd) (w' := V) ?_ (hK _ _ rfl (Below.refl _ _) (fun h => by cases h))
   generalize a.eval = ev at *
   go_simp
  | 9, ho =>
   obtain rfl := Option.some.inj ho
   have e0 : a.eval (.tmp 33) = .agg #[.int .i64 x, .int .i64 y, .int .i64 z, .int .i64 u] := hd ⟨1, .data⟩ (by simp) rfl 33 rfl
   obtain ⟨p0, p1, p2, p3, eA, J⟩ := (show ∃ p0 p1 p2 p3, a.eval (.tmp 35) = .agg #[.int .i64 A.camera, .slice (some ⟨p0, 0, none⟩) A.slots.length A.slots.length, .slice (some ⟨p1, 0, none⟩) A.guides.length A.guides.length, .slice (some ⟨p2, 0, none⟩) A.nodes.length A.nodes.length, .slice (some ⟨p3, 0, none⟩) A.vers.length A.vers.length] /\ qzd V.heap.size V (.slice (some ⟨p0, 0, none⟩) A.slots.length A.slots.length) (.slice (some ⟨p1, 0, none⟩) A.guides.length A.guides.length) (.slice (some ⟨p2, 0, none⟩) A.nodes.length A.nodes.length) (.slice (some ⟨p3, 0, none⟩) A.vers.length A.vers.length) A from hd ⟨3, .data⟩ (by simp) rfl 35 rfl)
   have e2 : a.eval (.tmp 36) = .int .i64 node := hd ⟨4, .data⟩ (by simp) rfl 36 rfl
   have e3 : a.eval (.tmp 37) = .int .i64 v := hd ⟨5, .data⟩ (by simp) rfl 37 rfl
   have e4 : a.eval (.tmp 38) = .int .i64 nx := hd ⟨6, .data⟩ (by simp) rfl 38 rfl
   have e5 : a.eval (.tmp 39) = .bool go := hd ⟨7, .data⟩ (by simp) rfl 39 rfl
   have e6 : a.eval (.tmp 40) = .int .i64 kd := hd ⟨8, .data⟩ (by simp) rfl 40 rfl
   have ef : a.eval (.func 6) = .func (.func 6) #[] #[] := rfl
   refine qzm (f := 6) (args := #[.agg #[.int .i64 x, .int .i64 y, .int .i64 z, .int .i64 u], .agg #[.int .i64 A.camera, .slice (some ⟨p0, 0, none⟩) A.slots.length A.slots.length, .slice (some ⟨p1, 0, none⟩) A.guides.length A.guides.length, .slice (some ⟨p2, 0, none⟩) A.nodes.length A.nodes.length, .slice (some ⟨p3, 0, none⟩) A.vers.length A.vers.length], .int .i64 node, .int .i64 v, .int .i64 nx, .bool go, .int .i64 kd]) (R := fun v w' => (∃ s0 s1 s2 s3 t0 t1 t2 t3, v = .tuple #[.agg #[.int .i64 A9.camera, .slice s0 A9.slots.length t0, .slice s1 A9.guides.length t1, .slice s2 A9.nodes.length t2, .slice s3 A9.vers.length t3], .int .i64 kk] /\ qz19 V.heap.size w' (.slice s0 A9.slots.length t0) (.slice s1 A9.guides.length t1) (.slice s2 A9.nodes.length t2) (.slice s3 A9.vers.length t3) A9) /\ Below V.heap.size V w') ?_ ((qz3a _ A x y z u node v nx go kd _ _ _ _ _ _ _ _ _ (Nat.le_refl _) hA J).mono (fun e w' h => by rw [hR.out] at h; obtain ⟨s, g, n, r, e1, J, bJ⟩ := h; obtain ⟨s0, t0, rfl⟩ := qz15 J.rs; obtain ⟨s1, t1, rfl⟩ := qz15 J.rg; obtain ⟨s2, t2, rfl⟩ := qz15 J.rn; obtain ⟨s3, t3, rfl⟩ := qz15 J.rr; exact ⟨_, e1, ⟨s0, s1, s2, s3, t0, t1, t2, t3, rfl, J⟩, bJ⟩)) (fun v w' h => hK v w' (by obtain ⟨s0, s1, s2, s3, t0, t1, t2, t3, e, J⟩ := h.1; exact ⟨s0, s1, s2, s3, t0, t1, t2, t3, e, J.lo hb.size⟩) h.2 (fun h => by cases h))
   clear J
   generalize a.eval = ev at *
   go_simp
  | 10, ho =>
   obtain rfl := Option.some.inj ho
   obtain ⟨s0, s1, s2, s3, t0, t1, t2, t3, e1, JJ⟩ := (show ∃ s0 s1 s2 s3 t0 t1 t2 t3, a.eval (.tmp 41) = .tuple #[.agg #[.int .i64 A9.camera, .slice s0 A9.slots.length t0, .slice s1 A9.guides.length t1, .slice s2 A9.nodes.length t2, .slice s3 A9.vers.length t3], .int .i64 kk] /\ qz19 w1.heap.size V (.slice s0 A9.slots.length t0) (.slice s1 A9.guides.length t1) (.slice s2 A9.nodes.length t2) (.slice s3 A9.vers.length t3) A9 from hd ⟨9, .data⟩ (by simp) rfl 41 rfl)
   refine qz2 (v := .tuple #[.agg #[.int .i64 A9.camera, .slice s0 A9.slots.length t0, .slice s1 A9.guides.length t1, .slice s2 A9.nodes.length t2, .slice s3 A9.vers.length t3], .int .i64 kk]) (w' := V) ?_ (hK _ _ ⟨s0, s1, s2, s3, t0, t1, t2, t3, rfl, JJ⟩ (Below.refl _ _) (fun h => by cases h))
   clear JJ
   generalize a.eval = ev at *
   go_simp
  | 11, ho =>
   obtain rfl := Option.some.inj ho
   obtain ⟨s0, s1, s2, s3, t0, t1, t2, t3, e1, JJ⟩ := (show ∃ s0 s1 s2 s3 t0 t1 t2 t3, a.eval (.tmp 31) = .tuple #[.agg #[.int .i64 A9.camera, .slice s0 A9.slots.length t0, .slice s1 A9.guides.length t1, .slice s2 A9.nodes.length t2, .slice s3 A9.vers.length t3], .int .i64 kk] /\ qz19 w1.heap.size V (.slice s0 A9.slots.length t0) (.slice s1 A9.guides.length t1) (.slice s2 A9.nodes.length t2) (.slice s3 A9.vers.length t3) A9 from hd ⟨10, .data⟩ (by simp) rfl 31 rfl)
   refine qz2 (v := .agg #[.int .i64 A9.camera, .slice s0 A9.slots.length t0, .slice s1 A9.guides.length t1, .slice s2 A9.nodes.length t2, .slice s3 A9.vers.length t3]) (w' := V) ?_ (hK _ _ ⟨s0, s1, s2, s3, t0, t1, t2, t3, rfl, JJ⟩ (Below.refl _ _) (fun h => by cases h))
   clear JJ
   generalize a.eval = ev at *
   go_simp
  | 12, ho =>
   obtain rfl := Option.some.inj ho
   obtain ⟨s0, s1, s2, s3, t0, t1, t2, t3, e1, JJ⟩ := (show ∃ s0 s1 s2 s3 t0 t1 t2 t3, a.eval (.tmp 31) = .tuple #[.agg #[.int .i64 A9.camera, .slice s0 A9.slots.length t0, .slice s1 A9.guides.length t1, .slice s2 A9.nodes.length t2, .slice s3 A9.vers.length t3], .int .i64 kk] /\ qz19 w1.heap.size V (.slice s0 A9.slots.length t0) (.slice s1 A9.guides.length t1) (.slice s2 A9.nodes.length t2) (.slice s3 A9.vers.length t3) A9 from hd ⟨10, .data⟩ (by simp) rfl 31 rfl)
   refine qz2 (v := .int .i64 kk) (w' := V) ?_ (hK _ _ rfl (Below.refl _ _) (fun h => by cases h))
   clear JJ
   generalize a.eval = ev at *
   go_simp
  | 13, ho =>
   obtain rfl := Option.some.inj ho
   refine qz2 (v := .pointer (some ⟨V.heap.size, 0, none⟩)) (w' := V.alloc (.cells #[.int .i64 0, .slice none 0 0, .slice none 0 0, .slice none 0 0, .slice none 0 0] 33)) ?_ (hK _ _ ⟨V.heap.size, rfl, hb.size, Blk.new _ _ _⟩ ((Below.refl _ _).alloc (Nat.le_refl _) _) (fun h => by cases h))
   generalize a.eval = ev at *
   go_simp
  | n + 14, ho => omega
 case final5 =>
  intro vs5 V5 hb hG _
  obtain ⟨s50, s51, s52, s53, t50, t51, t52, t53, g0, J5⟩ := (show ∃ s0 s1 s2 s3 t0 t1 t2 t3, vs5 11 = .agg #[.int .i64 A9.camera, .slice s0 A9.slots.length t0, .slice s1 A9.guides.length t1, .slice s2 A9.nodes.length t2, .slice s3 A9.vers.length t3] /\ qz19 w1.heap.size V5 (.slice s0 A9.slots.length t0) (.slice s1 A9.guides.length t1) (.slice s2 A9.nodes.length t2) (.slice s3 A9.vers.length t3) A9 from hG 11 (by decide))
  have g1 : vs5 12 = .int .i64 kk := hG 12 (by decide)
  obtain ⟨b5, g2, lb5, BK5⟩ := (show ∃ b, vs5 13 = .pointer (some ⟨b, 0, none⟩) /\ w1.heap.size <= b /\ Blk V5 b 33 5 from hG 13 (by decide))
  have ub5 := BK5.lt
  have T5 := BK5.there 0 5 (by omega)
  generalize hl : laid _ vs5 _ _ _ = A'
  have hA'' : A' = { tmps := #[.agg #[.int .i64 x, .int .i64 y, .int .i64 z, .int .i64 u], .agg #[.int .i64 A.camera, .slice a0 A.slots.length c0, .slice a1 A.guides.length c1, .slice a2 A.nodes.length c2, .slice a3 A.vers.length c3], .int .i64 node, .int .i64 v, .int .i64 nx, .bool go, .int .i64 kd, .pointer (some ⟨w.heap.size, 0, none⟩), .pointer (some ⟨w.heap.size + 1, 0, none⟩), undef, undef, undef, undef, undef, .bool false, .int .i64 (1048576 - (A.slots.length : Int) - (A.guides.length : Int) - (A.nodes.length : Int) - (A.vers.length : Int)), vs5 13, undef, undef, undef, undef, undef, undef, undef, undef, undef, .agg #[.int .i64 A.camera, .slice a0 A.slots.length c0, .slice a1 A.guides.length c1, .slice a2 A.nodes.length c2, .slice a3 A.vers.length c3], .int .i64 1048576, .int .i64 (1048576 - (A.slots.length : Int) - (A.guides.length : Int) - (A.nodes.length : Int) - (A.vers.length : Int)), .int .i64 (1048576 - (A.slots.length : Int) - (A.guides.length : Int) - (A.nodes.length : Int) - (A.vers.length : Int)), .bool (decide ((1048576 - (A.slots.length : Int) - (A.guides.length : Int) - (A.nodes.length : Int) - (A.vers.length : Int)) < 0)), vs5 10, vs5 0, vs5 1, vs5 2, vs5 3, vs5 4, vs5 5, vs5 6, vs5 7, vs5 8, vs5 9, vs5 11, vs5 12, undef, undef, undef, undef, undef, undef, undef, undef, undef, undef, undef, undef, undef, undef, undef, undef, undef, undef, undef, undef, undef, undef, undef, undef, undef, undef, undef, undef, undef, undef, undef, undef, undef, undef, undef, undef, undef, undef, undef, undef, undef, undef, undef, undef, undef, undef, undef, undef, undef, undef, undef, undef, undef, undef, undef, undef, undef, undef, undef, undef, undef, undef, undef, undef, undef, undef, undef, undef, undef, undef, undef, undef, undef, undef, undef, undef, undef, undef, undef, undef, undef, undef, undef, undef, undef], defers := [] } := by
   rw [<- hl]
   kernel_rfl
  subst hA''
  rw [g0, g1, g2]
  clear hl hG g0 g1 g2
  have Hb5 := hb.trans ((qz4 b5 [.int .i64 A9.camera, .slice s50 A9.slots.length t50, .slice s51 A9.guides.length t51, .slice s52 A9.nodes.length t52, .slice s53 A9.vers.length t53] 0 V5).below lb5 hb.size)
  have Y5 : (V5.setCells b5 0 [.int .i64 A9.camera, .slice s50 A9.slots.length t50, .slice s51 A9.guides.length t51, .slice s52 A9.nodes.length t52, .slice s53 A9.vers.length t53]).rangeAt b5 0 [.int .i64 A9.camera, .slice s50 A9.slots.length t50, .slice s51 A9.guides.length t51, .slice s52 A9.nodes.length t52, .slice s53 A9.vers.length t53] := World.rangeAt_setCells_same V5 b5 0 [.int .i64 A9.camera, .slice s50 A9.slots.length t50, .slice s51 A9.guides.length t51, .slice s52 A9.nodes.length t52, .slice s53 A9.vers.length t53] T5
  have hy5 : b5 < (V5.setCells b5 0 [.int .i64 A9.camera, .slice s50 A9.slots.length t50, .slice s51 A9.guides.length t51, .slice s52 A9.nodes.length t52, .slice s53 A9.vers.length t53]).heap.size := Nat.lt_of_lt_of_le ub5 (qz4 b5 [.int .i64 A9.camera, .slice s50 A9.slots.length t50, .slice s51 A9.guides.length t51, .slice s52 A9.nodes.length t52, .slice s53 A9.vers.length t53] 0 V5).size
  have OV5 := qz4 b5 [.int .i64 A9.camera, .slice s50 A9.slots.length t50, .slice s51 A9.guides.length t51, .slice s52 A9.nodes.length t52, .slice s53 A9.vers.length t53] 0 V5
  simp only [List.drop_succ_cons, List.drop_zero]
  refine wpList_store_mid rfl 33 (.tmp 16) (.tmp 42) rfl b5 0 #[.int .i64 A9.camera, .slice s50 A9.slots.length t50, .slice s51 A9.guides.length t51, .slice s52 A9.nodes.length t52, .slice s53 A9.vers.length t53] ?sx5 ?sy5 ?st5 qz1n (by simp [Value.oneCell']) ?_
  case sx5 => rfl
  case sy5 => rfl
  case st5 => exact T5
  rw [List.toList_toArray]
  have J2 := J5.aside BK5 (by decide) (by decide) (by decide) OV5
  go_upto_region 6 with fail
  clear hb T5 ub5 J5 BK5 OV5
  generalize V5.setCells b5 0 [.int .i64 A9.camera, .slice s50 A9.slots.length t50, .slice s51 A9.guides.length t51, .slice s52 A9.nodes.length t52, .slice s53 A9.vers.length t53] = w2 at *
  have P2 := qz0 P1 Hb5 (by omega)
  have X2 := qz0 X1 Hb5 (by omega)
  have K2 := K1.trans (Hb5.mono (by omega))
  have I2 := I1.below (Hb5.mono (by omega))
  have hz2 : w.heap.size + 1 < w2.heap.size := Nat.lt_of_lt_of_le hz1 Hb5.size
  have LJ := J2.lt
  have hs2 := Hb5.size
  clear P1 X1 K1 I1 Hb5
  obtain ⟨x0', x1', x2', x3', x4'⟩ := row5 X2
  go_wp2_with fail
  refine (qz6p (Below.refl w2.heap.size w2) (by omega) hA I2).mono ?_
  rintro e w4 ⟨q0, q1, q2, q3, rfl, N4, b4⟩
  have Y2 := Y5
  clear Y5
  have P4 := qz0 P2 b4 (by omega)
  have X4 := qz0 X2 b4 (by omega)
  have K4 := K2.trans (b4.mono (by omega))
  have I4 := I2.below (b4.mono (by omega))
  have hz4 : w.heap.size + 1 < w4.heap.size := Nat.lt_of_lt_of_le hz2 b4.size
  have ws4 := b4.size
  have Y4 := qz0 Y2 b4 (by omega)
  have J4 := J2.below b4
  clear P2 X2 K2 I2 Y2 J2
  clear b4 x0' x1' x2' x3' x4'
  have ln0 := N4.s.lt
  have ln1 := N4.g.lt
  have ln2 := N4.n.lt
  have ln3 := N4.r.lt
  have al := (Below.refl w4.heap.size w4).alloc (Nat.le_refl _) (.cells #[.int .i64 A.camera, .slice (some ⟨q0, 0, none⟩) A.slots.length A.slots.length, .slice (some ⟨q1, 0, none⟩) A.guides.length A.guides.length, .slice (some ⟨q2, 0, none⟩) A.nodes.length A.nodes.length, .slice (some ⟨q3, 0, none⟩) A.vers.length A.vers.length] 33)
  have Z6 := qz6 w4 [.int .i64 A.camera, .slice (some ⟨q0, 0, none⟩) A.slots.length A.slots.length, .slice (some ⟨q1, 0, none⟩) A.guides.length A.guides.length, .slice (some ⟨q2, 0, none⟩) A.nodes.length A.nodes.length, .slice (some ⟨q3, 0, none⟩) A.vers.length A.vers.length] 33
  have N6 := N4.below al
  have J5 := N6.is
  have hx6 : w4.heap.size < (w4.alloc (.cells #[.int .i64 A.camera, .slice (some ⟨q0, 0, none⟩) A.slots.length A.slots.length, .slice (some ⟨q1, 0, none⟩) A.guides.length A.guides.length, .slice (some ⟨q2, 0, none⟩) A.nodes.length A.nodes.length, .slice (some ⟨q3, 0, none⟩) A.vers.length A.vers.length] 33)).heap.size := by simp
  go_upto_region 7 with fail
  generalize hw6 : w4.alloc (.cells #[.int .i64 A.camera, .slice (some ⟨q0, 0, none⟩) A.slots.length A.slots.length, .slice (some ⟨q1, 0, none⟩) A.guides.length A.guides.length, .slice (some ⟨q2, 0, none⟩) A.nodes.length A.nodes.length, .slice (some ⟨q3, 0, none⟩) A.vers.length A.vers.length] 33) = w6 at *
  clear hw6
  have P6 := qz0 P4 al (by omega)
  have X6 := qz0 X4 al (by omega)
  have K6 := K4.trans (al.mono (by omega))
  have I6 := I4.below (al.mono (by omega))
  have hz6 : w.heap.size + 1 < w6.heap.size := Nat.lt_of_lt_of_le hz4 al.size
  have ws6 := al.size
  have Y6 := qz0 Y4 al (by omega)
  have J6 := J4.below al
  clear P4 X4 K4 I4 Y4 J4
  clear al N4
  obtain ⟨xb, hxb⟩ : ∃ xb, xb = w4.heap.size := ⟨_, rfl⟩
  rw [<- hxb] at Z6 hx6 ⊢
  replace hxb : xb <= w4.heap.size /\ w4.heap.size <= xb := by omega
  have hxb1 := hxb.1
  have hxb2 := hxb.2
  clear hxb
  refine qz1d 13 11 (by decide) (by kernel_rfl) (qz4r w6.heap.size x y z u A A9 kk node v nx go kd q0 q1 q2 q3 a0 a1 a2 a3 c0 c1 c2 c3) (fun _ => false) (by kernel_rfl) (by kernel_rfl) (by kernel_rfl) (by kernel_rfl) (by kernel_rfl) (by rfl) (fun i v' w w' _ hq hb => qz4v i v' w w' hq hb) (fun _ _ _ _ h => by cases h) ?step7 (fun _ _ _ _ h => h) ?float7 ?final7
  case float7 =>
   intro o ho a V hd
   obtain rfl := Option.some.inj ho
   obtain ⟨s0, s1, s2, s3, t0, t1, t2, t3, e1, -⟩ := (show ∃ s0 s1 s2 s3 t0 t1 t2 t3, a.eval (.tmp 46) = .tuple #[.agg #[.int .i64 A9.camera, .slice s0 A9.slots.length t0, .slice s1 A9.guides.length t1, .slice s2 A9.nodes.length t2, .slice s3 A9.vers.length t3], .int .i64 kk] /\ (∃ b0 b1 b2 b3, qza w6.heap.size V (.slice s0 A9.slots.length t0) (.slice s1 A9.guides.length t1) (.slice s2 A9.nodes.length t2) (.slice s3 A9.vers.length t3) A9 b0 b1 b2 b3 /\ TypA V A9 b0 b1 b2 b3) from hd ⟨9, .data⟩ (by simp) rfl 46 rfl)
   refine ⟨.int .i64 kk, fun w' => ?_, rfl, rfl⟩
   generalize a.eval = ev at *
   go_simp
  case step7 =>
   intro i o hik ho a V hb hn hd K hK
   have PW := qz0 P6 hb (by omega)
   have XW := qz0 X6 hb (by omega)
   have YW := qz0 Z6 hb (by omega)
   obtain ⟨y0', y1', y2', y3', y4'⟩ := row5 YW
   obtain ⟨x0', x1', x2', x3', x4'⟩ := row5 XW
   match i, ho with
   | 0, ho =>
    obtain rfl := Option.some.inj ho
    exact qz2o 23 (.tmp 7) rfl (w.heap.size) 0 (hn 7 rfl) [.int .i64 x, .int .i64 y, .int .i64 z, .int .i64 u] _ PW Tryd.underlying23 rfl qz4l (hK _ _ rfl (Below.refl _ _) (fun h => by cases h))
   | 1, ho =>
    obtain rfl := Option.some.inj ho
    have e1 : a.eval (.tmp 47) = .agg #[.int .i64 x, .int .i64 y, .int .i64 z, .int .i64 u] := hd ⟨0, .data⟩ (by simp) rfl 47 rfl
    have ef : a.eval (.func 7) = .func (.func 7) #[] #[] := rfl
    refine qzm (f := 7) (args := #[.agg #[.int .i64 x, .int .i64 y, .int .i64 z, .int .i64 u]]) (R := fun v w' => v = .agg #[.int .i64 x, .int .i64 y, .int .i64 z, .int .i64 u] /\ Below V.heap.size V w') ?_ ((qz3n _ _ _ _ _).mono (fun e w' h => ⟨_, h.1, rfl, h.2⟩)) (fun v w' h => hK v w' h.1 h.2 (fun h => by cases h))
    generalize a.eval = ev at *
    go_simp
   | 2, ho =>
    obtain rfl := Option.some.inj ho
    have e1 : a.eval (.tmp 18) = .pointer (some ⟨xb, 0, none⟩) := hn 18 rfl
    refine qz2 (v := .agg #[.int .i64 A.camera, .slice (some ⟨q0, 0, none⟩) A.slots.length A.slots.length, .slice (some ⟨q1, 0, none⟩) A.guides.length A.guides.length, .slice (some ⟨q2, 0, none⟩) A.nodes.length A.nodes.length, .slice (some ⟨q3, 0, none⟩) A.vers.length A.vers.length]) (w' := V) ?_ (hK _ _ rfl (Below.refl _ _) (fun h => by cases h))
    generalize a.eval = ev at *
    go_simp
   | 3, ho =>
    obtain rfl := Option.some.inj ho
    have e1 : a.eval (.tmp 2) = .int .i64 node := hn 2 rfl
    refine qz2 (v := .int .i64 node) (w' := V) ?_ (hK _ _ rfl (Below.refl _ _) (fun h => by cases h))
    generalize a.eval = ev at *
    go_simp
   | 4, ho =>
    obtain rfl := Option.some.inj ho
    have e1 : a.eval (.tmp 3) = .int .i64 v := hn 3 rfl
    refine qz2 (v := .int .i64 v) (w' := V) ?_ (hK _ _ rfl (Below.refl _ _) (fun h => by cases h))
    generalize a.eval = ev at *
    go_simp
   | 5, ho =>
    obtain rfl := Option.some.inj ho
    have e1 : a.eval (.tmp 4) = .int .i64 nx := hn 4 rfl
    refine qz2 (v := .int .i64 nx) (w' := V) ?_ (hK _ _ rfl (Below.refl _ _) (fun h => by cases h))
    generalize a.eval = ev at *
    go_simp
   | 6, ho =>
    obtain rfl := Option.some.inj ho
    have e1 : a.eval (.tmp 5) = .bool go := hn 5 rfl
    refine qz2 (v := .bool go) (w' := V) ?_ (hK _ _ rfl (Below.refl _ _) (fun h => by cases h))
    generalize a.eval = ev at *
    go_simp
   | 7, ho =>
    obtain rfl := Option.some.inj ho
    have e1 : a.eval (.tmp 6) = .int .i64 kd := hn 6 rfl
    refine qz2 (v := .int .i64 kd) (w' := V) ?_ (hK _ _ rfl (Below.refl _ _) (fun h => by cases h))
    generalize a.eval = ev at *
    go_simp
   | 8, ho =>
    obtain rfl := Option.some.inj ho
    have e0 : a.eval (.tmp 48) = .agg #[.int .i64 x, .int .i64 y, .int .i64 z, .int .i64 u] := hd ⟨1, .data⟩ (by simp) rfl 48 rfl
    have eA : a.eval (.tmp 49) = .agg #[.int .i64 A.camera, .slice (some ⟨q0, 0, none⟩) A.slots.length A.slots.length, .slice (some ⟨q1, 0, none⟩) A.guides.length A.guides.length, .slice (some ⟨q2, 0, none⟩) A.nodes.length A.nodes.length, .slice (some ⟨q3, 0, none⟩) A.vers.length A.vers.length] := hd ⟨2, .data⟩ (by simp) rfl 49 rfl
    have J := (J5.below hb).weaken hb.size
    have e2 : a.eval (.tmp 50) = .int .i64 node := hd ⟨3, .data⟩ (by simp) rfl 50 rfl
    have e3 : a.eval (.tmp 51) = .int .i64 v := hd ⟨4, .data⟩ (by simp) rfl 51 rfl
    have e4 : a.eval (.tmp 52) = .int .i64 nx := hd ⟨5, .data⟩ (by simp) rfl 52 rfl
    have e5 : a.eval (.tmp 53) = .bool go := hd ⟨6, .data⟩ (by simp) rfl 53 rfl
    have e6 : a.eval (.tmp 54) = .int .i64 kd := hd ⟨7, .data⟩ (by simp) rfl 54 rfl
    have ef : a.eval (.func 9) = .func (.func 9) #[] #[] := rfl
    have EV := (hE.below (K6.trans (hb.mono K6.size))).raise (Nat.le_trans K6.size hb.size)
    have ET := (hT.below (K6.trans (hb.mono K6.size))).raise (Nat.le_trans K6.size hb.size)
    refine qzm (f := 9) (args := #[.agg #[.int .i64 x, .int .i64 y, .int .i64 z, .int .i64 u], .agg #[.int .i64 A.camera, .slice (some ⟨q0, 0, none⟩) A.slots.length A.slots.length, .slice (some ⟨q1, 0, none⟩) A.guides.length A.guides.length, .slice (some ⟨q2, 0, none⟩) A.nodes.length A.nodes.length, .slice (some ⟨q3, 0, none⟩) A.vers.length A.vers.length], .int .i64 node, .int .i64 v, .int .i64 nx, .bool go, .int .i64 kd]) (R := fun v w' => (∃ s0 s1 s2 s3 t0 t1 t2 t3, v = .tuple #[.agg #[.int .i64 A9.camera, .slice s0 A9.slots.length t0, .slice s1 A9.guides.length t1, .slice s2 A9.nodes.length t2, .slice s3 A9.vers.length t3], .int .i64 kk] /\ (∃ b0 b1 b2 b3, qza V.heap.size w' (.slice s0 A9.slots.length t0) (.slice s1 A9.guides.length t1) (.slice s2 A9.nodes.length t2) (.slice s3 A9.vers.length t3) A9 b0 b1 b2 b3 /\ TypA w' A9 b0 b1 b2 b3)) /\ Below V.heap.size V w') ?_ ((qz3b _ A x y z u node v nx go kd _ _ _ _ _ _ _ _ eN eF eU _ (Nat.le_refl _) hA J EV ET).mono (fun e w' h => by rw [hR.out] at h; obtain ⟨s, g, n, r, b0, b1, b2, b3, e1, N, Ty, bN⟩ := h; obtain ⟨s0, t0, rfl⟩ := qzo N.s; obtain ⟨s1, t1, rfl⟩ := qzo N.g; obtain ⟨s2, t2, rfl⟩ := qzo N.n; obtain ⟨s3, t3, rfl⟩ := qzo N.r; exact ⟨_, e1, ⟨s0, s1, s2, s3, t0, t1, t2, t3, rfl, b0, b1, b2, b3, N, Ty⟩, bN⟩)) (fun v w' h => hK v w' (by obtain ⟨s0, s1, s2, s3, t0, t1, t2, t3, e, b0, b1, b2, b3, N, Ty⟩ := h.1; exact ⟨s0, s1, s2, s3, t0, t1, t2, t3, e, b0, b1, b2, b3, N.lo hb.size, Ty⟩) h.2 (fun h => by cases h))
    clear J
    generalize a.eval = ev at *
    go_simp
   | 9, ho =>
    obtain rfl := Option.some.inj ho
    obtain ⟨s0, s1, s2, s3, t0, t1, t2, t3, e1, JJ⟩ := (show ∃ s0 s1 s2 s3 t0 t1 t2 t3, a.eval (.tmp 55) = .tuple #[.agg #[.int .i64 A9.camera, .slice s0 A9.slots.length t0, .slice s1 A9.guides.length t1, .slice s2 A9.nodes.length t2, .slice s3 A9.vers.length t3], .int .i64 kk] /\ (∃ b0 b1 b2 b3, qza w6.heap.size V (.slice s0 A9.slots.length t0) (.slice s1 A9.guides.length t1) (.slice s2 A9.nodes.length t2) (.slice s3 A9.vers.length t3) A9 b0 b1 b2 b3 /\ TypA V A9 b0 b1 b2 b3) from hd ⟨8, .data⟩ (by simp) rfl 55 rfl)
    refine qz2 (v := .tuple #[.agg #[.int .i64 A9.camera, .slice s0 A9.slots.length t0, .slice s1 A9.guides.length t1, .slice s2 A9.nodes.length t2, .slice s3 A9.vers.length t3], .int .i64 kk]) (w' := V) ?_ (hK _ _ ⟨s0, s1, s2, s3, t0, t1, t2, t3, rfl, JJ⟩ (Below.refl _ _) (fun h => by cases h))
    clear JJ
    generalize a.eval = ev at *
    go_simp
   | 10, ho =>
    obtain rfl := Option.some.inj ho
    obtain ⟨s0, s1, s2, s3, t0, t1, t2, t3, e1, JJ⟩ := (show ∃ s0 s1 s2 s3 t0 t1 t2 t3, a.eval (.tmp 46) = .tuple #[.agg #[.int .i64 A9.camera, .slice s0 A9.slots.length t0, .slice s1 A9.guides.length t1, .slice s2 A9.nodes.length t2, .slice s3 A9.vers.length t3], .int .i64 kk] /\ (∃ b0 b1 b2 b3, qza w6.heap.size V (.slice s0 A9.slots.length t0) (.slice s1 A9.guides.length t1) (.slice s2 A9.nodes.length t2) (.slice s3 A9.vers.length t3) A9 b0 b1 b2 b3 /\ TypA V A9 b0 b1 b2 b3) from hd ⟨9, .data⟩ (by simp) rfl 46 rfl)
    refine qz2 (v := .agg #[.int .i64 A9.camera, .slice s0 A9.slots.length t0, .slice s1 A9.guides.length t1, .slice s2 A9.nodes.length t2, .slice s3 A9.vers.length t3]) (w' := V) ?_ (hK _ _ ⟨s0, s1, s2, s3, t0, t1, t2, t3, rfl, JJ⟩ (Below.refl _ _) (fun h => by cases h))
    clear JJ
    generalize a.eval = ev at *
    go_simp
   | 11, ho =>
    obtain rfl := Option.some.inj ho
    obtain ⟨s0, s1, s2, s3, t0, t1, t2, t3, e1, JJ⟩ := (show ∃ s0 s1 s2 s3 t0 t1 t2 t3, a.eval (.tmp 46) = .tuple #[.agg #[.int .i64 A9.camera, .slice s0 A9.slots.length t0, .slice s1 A9.guides.length t1, .slice s2 A9.nodes.length t2, .slice s3 A9.vers.length t3], .int .i64 kk] /\ (∃ b0 b1 b2 b3, qza w6.heap.size V (.slice s0 A9.slots.length t0) (.slice s1 A9.guides.length t1) (.slice s2 A9.nodes.length t2) (.slice s3 A9.vers.length t3) A9 b0 b1 b2 b3 /\ TypA V A9 b0 b1 b2 b3) from hd ⟨9, .data⟩ (by simp) rfl 46 rfl)
    refine qz2 (v := .int .i64 kk) (w' := V) ?_ (hK _ _ rfl (Below.refl _ _) (fun h => by cases h))
    clear JJ
    generalize a.eval = ev at *
    go_simp
   | 12, ho =>
    obtain rfl := Option.some.inj ho
    refine qz2 (v := .pointer (some ⟨V.heap.size, 0, none⟩)) (w' := V.alloc (.cells #[.int .i64 0, .slice none 0 0, .slice none 0 0, .slice none 0 0, .slice none 0 0] 33)) ?_ (hK _ _ ⟨V.heap.size, rfl, hb.size, Blk.new _ _ _⟩ ((Below.refl _ _).alloc (Nat.le_refl _) _) (fun h => by cases h))
    generalize a.eval = ev at *
    go_simp
   | n + 13, ho => omega
  case final7 =>
   intro vs7 V7 hb hG _
   obtain ⟨s70, s71, s72, s73, t70, t71, t72, t73, g0, J7⟩ := (show ∃ s0 s1 s2 s3 t0 t1 t2 t3, vs7 10 = .agg #[.int .i64 A9.camera, .slice s0 A9.slots.length t0, .slice s1 A9.guides.length t1, .slice s2 A9.nodes.length t2, .slice s3 A9.vers.length t3] /\ (∃ b0 b1 b2 b3, qza w6.heap.size V7 (.slice s0 A9.slots.length t0) (.slice s1 A9.guides.length t1) (.slice s2 A9.nodes.length t2) (.slice s3 A9.vers.length t3) A9 b0 b1 b2 b3 /\ TypA V7 A9 b0 b1 b2 b3) from hG 10 (by decide))
   have g1 : vs7 11 = .int .i64 kk := hG 11 (by decide)
   obtain ⟨b7, g2, lb7, BK7⟩ := (show ∃ b, vs7 12 = .pointer (some ⟨b, 0, none⟩) /\ w6.heap.size <= b /\ Blk V7 b 33 5 from hG 12 (by decide))
   have ub7 := BK7.lt
   have T7 := BK7.there 0 5 (by omega)
   obtain ⟨f70, f71, f72, f73, N7, Ty7⟩ := J7
   have ap7 := Ty7.apart BK7 (by decide) (by decide) (by decide)
   clear Ty7
   generalize hl : laid _ vs7 _ _ _ = A'
   have hA'' : A' = { tmps := #[.agg #[.int .i64 x, .int .i64 y, .int .i64 z, .int .i64 u], .agg #[.int .i64 A.camera, .slice a0 A.slots.length c0, .slice a1 A.guides.length c1, .slice a2 A.nodes.length c2, .slice a3 A.vers.length c3], .int .i64 node, .int .i64 v, .int .i64 nx, .bool go, .int .i64 kd, .pointer (some ⟨w.heap.size, 0, none⟩), .pointer (some ⟨w.heap.size + 1, 0, none⟩), undef, undef, undef, undef, undef, .bool false, .int .i64 (1048576 - (A.slots.length : Int) - (A.guides.length : Int) - (A.nodes.length : Int) - (A.vers.length : Int)), .pointer (some ⟨b5, 0, none⟩), .int .i64 kk, .pointer (some ⟨xb, 0, none⟩), vs7 12, undef, undef, undef, undef, undef, undef, .agg #[.int .i64 A.camera, .slice a0 A.slots.length c0, .slice a1 A.guides.length c1, .slice a2 A.nodes.length c2, .slice a3 A.vers.length c3], .int .i64 1048576, .int .i64 (1048576 - (A.slots.length : Int) - (A.guides.length : Int) - (A.nodes.length : Int) - (A.vers.length : Int)), .int .i64 (1048576 - (A.slots.length : Int) - (A.guides.length : Int) - (A.nodes.length : Int) - (A.vers.length : Int)), .bool (decide ((1048576 - (A.slots.length : Int) - (A.guides.length : Int) - (A.nodes.length : Int) - (A.vers.length : Int)) < 0)), vs5 10, vs5 0, vs5 1, vs5 2, vs5 3, vs5 4, vs5 5, vs5 6, vs5 7, vs5 8, vs5 9, .agg #[.int .i64 A9.camera, .slice s50 A9.slots.length t50, .slice s51 A9.guides.length t51, .slice s52 A9.nodes.length t52, .slice s53 A9.vers.length t53], .int .i64 kk, .agg #[.int .i64 A.camera, .slice a0 A.slots.length c0, .slice a1 A.guides.length c1, .slice a2 A.nodes.length c2, .slice a3 A.vers.length c3], .agg #[.int .i64 A.camera, .slice (some ⟨q0, 0, none⟩) A.slots.length A.slots.length, .slice (some ⟨q1, 0, none⟩) A.guides.length A.guides.length, .slice (some ⟨q2, 0, none⟩) A.nodes.length A.nodes.length, .slice (some ⟨q3, 0, none⟩) A.vers.length A.vers.length], vs7 9, vs7 0, vs7 1, vs7 2, vs7 3, vs7 4, vs7 5, vs7 6, vs7 7, vs7 8, vs7 10, vs7 11, undef, undef, undef, undef, undef, undef, undef, undef, undef, undef, undef, undef, undef, undef, undef, undef, undef, undef, undef, undef, undef, undef, undef, undef, undef, undef, undef, undef, undef, undef, undef, undef, undef, undef, undef, undef, undef, undef, undef, undef, undef, undef, undef, undef, undef, undef, undef, undef, undef, undef, undef, undef, undef, undef, undef, undef, undef, undef, undef, undef, undef, undef, undef, undef, undef, undef, undef, undef, undef, undef, undef], defers := [] } := by
    rw [<- hl]
    kernel_rfl
   subst hA''
   rw [g0, g1, g2]
   clear hl hG g0 g1 g2
   have Hb7 := hb.trans ((qz4 b7 [.int .i64 A9.camera, .slice s70 A9.slots.length t70, .slice s71 A9.guides.length t71, .slice s72 A9.nodes.length t72, .slice s73 A9.vers.length t73] 0 V7).below lb7 hb.size)
   have Y7 : (V7.setCells b7 0 [.int .i64 A9.camera, .slice s70 A9.slots.length t70, .slice s71 A9.guides.length t71, .slice s72 A9.nodes.length t72, .slice s73 A9.vers.length t73]).rangeAt b7 0 [.int .i64 A9.camera, .slice s70 A9.slots.length t70, .slice s71 A9.guides.length t71, .slice s72 A9.nodes.length t72, .slice s73 A9.vers.length t73] := World.rangeAt_setCells_same V7 b7 0 [.int .i64 A9.camera, .slice s70 A9.slots.length t70, .slice s71 A9.guides.length t71, .slice s72 A9.nodes.length t72, .slice s73 A9.vers.length t73] T7
   have hy7 : b7 < (V7.setCells b7 0 [.int .i64 A9.camera, .slice s70 A9.slots.length t70, .slice s71 A9.guides.length t71, .slice s72 A9.nodes.length t72, .slice s73 A9.vers.length t73]).heap.size := Nat.lt_of_lt_of_le ub7 (qz4 b7 [.int .i64 A9.camera, .slice s70 A9.slots.length t70, .slice s71 A9.guides.length t71, .slice s72 A9.nodes.length t72, .slice s73 A9.vers.length t73] 0 V7).size
   have OV7 := qz4 b7 [.int .i64 A9.camera, .slice s70 A9.slots.length t70, .slice s71 A9.guides.length t71, .slice s72 A9.nodes.length t72, .slice s73 A9.vers.length t73] 0 V7
   simp only [List.drop_succ_cons, List.drop_zero]
   refine wpList_store_mid rfl 33 (.tmp 19) (.tmp 56) rfl b7 0 #[.int .i64 A9.camera, .slice s70 A9.slots.length t70, .slice s71 A9.guides.length t71, .slice s72 A9.nodes.length t72, .slice s73 A9.vers.length t73] ?sx7 ?sy7 ?st7 qz1n (by simp [Value.oneCell']) ?_
   case sx7 => rfl
   case sy7 => rfl
   case st7 => exact T7
   rw [List.toList_toArray]
   have B7 : But (fun q => q = b7) V7 (V7.setCells b7 0 [.int .i64 A9.camera, .slice s70 A9.slots.length t70, .slice s71 A9.guides.length t71, .slice s72 A9.nodes.length t72, .slice s73 A9.vers.length t73]) := But.of_only OV7 rfl
   have M8 : qza w6.heap.size (V7.setCells b7 0 [.int .i64 A9.camera, .slice s70 A9.slots.length t70, .slice s71 A9.guides.length t71, .slice s72 A9.nodes.length t72, .slice s73 A9.vers.length t73]) (.slice s70 A9.slots.length t70) (.slice s71 A9.guides.length t71) (.slice s72 A9.nodes.length t72) (.slice s73 A9.vers.length t73) A9 f70 f71 f72 f73 := ⟨N7.s.but B7 (fun hp e => ap7 (Or.inl ⟨hp, e.symm⟩)), N7.g.but B7 (fun hp e => ap7 (Or.inr (Or.inl ⟨hp, e.symm⟩))), N7.n.but B7 (fun hp e => ap7 (Or.inr (Or.inr (Or.inl ⟨hp, e.symm⟩)))), N7.r.but B7 (fun hp e => ap7 (Or.inr (Or.inr (Or.inr ⟨hp, e.symm⟩)))), N7.d01, N7.d02, N7.d03, N7.d12, N7.d13, N7.d23⟩
   go_upto_region 8 with fail
   clear hb T7 ub7 N7 B7 BK7 OV7
   generalize V7.setCells b7 0 [.int .i64 A9.camera, .slice s70 A9.slots.length t70, .slice s71 A9.guides.length t71, .slice s72 A9.nodes.length t72, .slice s73 A9.vers.length t73] = w8 at *
   have Z8 := qz0 Z6 Hb7 (by omega)
   have N8 := N6.below Hb7
   have G8 := Y7
   clear Y7
   have P8 := qz0 P6 Hb7 (by omega)
   have X8 := qz0 X6 Hb7 (by omega)
   have K8 := K6.trans (Hb7.mono (by omega))
   have I8 := I6.below (Hb7.mono (by omega))
   have hz8 : w.heap.size + 1 < w8.heap.size := Nat.lt_of_lt_of_le hz6 Hb7.size
   have ws8 := Hb7.size
   have Y8 := qz0 Y6 Hb7 (by omega)
   have J8 := J6.below Hb7
   clear P6 X6 K6 I6 Y6 J6
   clear Hb7 Z6 N6 J5
   have lm0 := M8.s.lt
   have lm1 := M8.g.lt
   have lm2 := M8.n.lt
   have lm3 := M8.r.lt
   have hcc : (kk != kk) = false := by simp
   go_wp2_with (first | (refine wpList_load_mid rfl 33 (.tmp 19) rfl b7 0 ?la1 [.int .i64 A9.camera, .slice s70 A9.slots.length t70, .slice s71 A9.guides.length t71, .slice s72 A9.nodes.length t72, .slice s73 A9.vers.length t73] _ ?la2 Tryd.underlying33 rfl qz1n ?_) | (refine wpList_load_mid rfl 33 (.tmp 16) rfl b5 0 ?la3 [.int .i64 A9.camera, .slice s50 A9.slots.length t50, .slice s51 A9.guides.length t51, .slice s52 A9.nodes.length t52, .slice s53 A9.vers.length t53] _ ?la4 Tryd.underlying33 rfl qz1n ?_))
   try (case la1 => rfl)
   try (case la2 => exact G8)
   try (case la3 => rfl)
   try (case la4 => exact Y8)
   refine (qz28 w8.heap.size A9 _ _ _ _ _ _ _ _ w8 (Nat.le_refl _) hA9 M8.is J8.is).mono ?_
   rintro e w9 ⟨rfl, b9⟩
   have Z9 := qz0 Z8 b9 (by omega)
   have N9 := N8.below b9
   have P9 := qz0 P8 b9 (by omega)
   have X9 := qz0 X8 b9 (by omega)
   have K9 := K8.trans (b9.mono (by omega))
   have I9 := I8.below (b9.mono (by omega))
   have hz9 : w.heap.size + 1 < w9.heap.size := Nat.lt_of_lt_of_le hz8 b9.size
   have ws9 := b9.size
   have Y9 := qz0 Y8 b9 (by omega)
   have J9 := J8.below b9
   have G9 := qz0 G8 b9 (by omega)
   have M9 := M8.below b9
   clear P8 X8 K8 I8 Y8 J8 G8 M8
   clear b9 Z8 N8
   have hzA : w.heap.size + 1 < w9.heap.size := by omega
   have hzx : xb < w9.heap.size := by omega
   have hzp : w.heap.size <= w9.heap.size := by omega
   have BB := Below.refl w9.heap.size w9
   obtain ⟨x0', x1', x2', x3', x4'⟩ := row5 X9
   obtain ⟨y0', y1', y2', y3', y4'⟩ := row5 Z9
   go_wp2_with fail
   go_region_held3 (fun w' => w'.cell? ⟨xb, 0, none⟩ = some (.int .i64 A.camera) /\ w'.cell? ⟨xb, 1, none⟩ = some (.slice (some ⟨q0, 0, none⟩) A.slots.length A.slots.length) /\ w'.cell? ⟨xb, 2, none⟩ = some (.slice (some ⟨q1, 0, none⟩) A.guides.length A.guides.length) /\ w'.cell? ⟨xb, 3, none⟩ = some (.slice (some ⟨q2, 0, none⟩) A.nodes.length A.nodes.length) /\ w'.cell? ⟨xb, 4, none⟩ = some (.slice (some ⟨q3, 0, none⟩) A.vers.length A.vers.length) /\ w'.cell? ⟨w.heap.size + 1, 0, none⟩ = some (.int .i64 A.camera) /\ w'.cell? ⟨w.heap.size + 1, 1, none⟩ = some (.slice a0 A.slots.length c0) /\ w'.cell? ⟨w.heap.size + 1, 2, none⟩ = some (.slice a1 A.guides.length c1) /\ w'.cell? ⟨w.heap.size + 1, 3, none⟩ = some (.slice a2 A.nodes.length c2) /\ w'.cell? ⟨w.heap.size + 1, 4, none⟩ = some (.slice a3 A.vers.length c3)) (go_keep) (first | (go_at_call 8; refine (qz3d BB.drew (by omega) hA I9).mono ?_; rintro e wi ⟨r0, r1, r2, r3, rfl, J6, bi⟩; replace BB : Below w9.heap.size w9 wi := (by first | exact BB.drew.trans (bi.mono (by exact BB.size)) | exact BB.trans (bi.mono (by exact BB.size))); obtain ⟨x0', x1', x2', x3', x4'⟩ := row5 (qz0 X9 BB hzA); obtain ⟨y0', y1', y2', y3', y4'⟩ := row5 (qz0 Z9 BB hzx)) | (go_at_call 10; refine (qz28 _ A _ _ _ _ _ _ _ _ _ (Nat.le_refl _) hA ((N9.is.below BB).weaken BB.size) J6).mono ?_; rintro e wi ⟨rfl, bi⟩; replace BB : Below w9.heap.size w9 wi := (by first | exact BB.drew.trans (bi.mono (by exact BB.size)) | exact BB.trans (bi.mono (by exact BB.size))); obtain ⟨x0', x1', x2', x3', x4'⟩ := row5 (qz0 X9 BB hzA); obtain ⟨y0', y1', y2', y3', y4'⟩ := row5 (qz0 Z9 BB hzx)))
   obtain ⟨w10, hw10⟩ : ∃ w10 : World, w10 = wi := ⟨_, rfl⟩
   rw [<- hw10] at BB y0' y1' y2' y3' y4' x0' x1' x2' x3' x4' ⊢
   clear hw10 x0' x1' x2' x3' x4'
   have N10 := N9.below BB
   have P10 := qz0 P9 BB (by omega)
   have X10 := qz0 X9 BB (by omega)
   have K10 := K9.trans (BB.mono (by omega))
   have I10 := I9.below (BB.mono (by omega))
   have hz10 : w.heap.size + 1 < w10.heap.size := Nat.lt_of_lt_of_le hz9 BB.size
   have ws10 := BB.size
   have Y10 := qz0 Y9 BB (by omega)
   have J10 := J9.below BB
   have G10 := qz0 G9 BB (by omega)
   have M10 := M9.below BB
   clear P9 X9 K9 I9 Y9 J9 G9 M9
   clear BB Z9 N9 J6
   go_wp2_with fail
   clear y0' y1' y2' y3' y4'
   refine (qz31 A.camera N10 1 hA (by omega) (by omega)).mono ?_
   rintro e w11 ⟨rfl, MX, O11⟩
   have bO : Below w2.heap.size w10 w11 := O11.below (by omega) (fun k h => by unfold qz5o at h; omega)
   have P11 := qz0 P10 bO (by omega)
   have X11 := qz0 X10 bO (by omega)
   have K11 := K10.trans (bO.mono (by omega))
   have I11 := I10.below (bO.mono (by omega))
   have ws11 := O11.size
   have hz11 : w.heap.size + 1 < w11.heap.size := by omega
   have Y11 := qz0 Y10 bO (by omega)
   have J11 := J10.kept O11 (fun q hq h => by have := LJ q hq; unfold qz5o at h; omega)
   have G11 := O11.range G10 (by omega) (fun h => by unfold qz5o at h; omega)
   have M11 : qza w6.heap.size w11 (.slice s70 A9.slots.length t70) (.slice s71 A9.guides.length t71) (.slice s72 A9.nodes.length t72) (.slice s73 A9.vers.length t73) A9 f70 f71 f72 f73 := ⟨M10.s.but O11 (fun hp h => by have := lm0 hp; unfold qz5o at h; omega), M10.g.but O11 (fun hp h => by have := lm1 hp; unfold qz5o at h; omega), M10.n.but O11 (fun hp h => by have := lm2 hp; unfold qz5o at h; omega), M10.r.but O11 (fun hp h => by have := lm3 hp; unfold qz5o at h; omega), M10.d01, M10.d02, M10.d03, M10.d12, M10.d13, M10.d23⟩
   clear P10 X10 K10 I10 Y10 J10 G10 M10 N10 MX O11 bO
   go_wp2_with (first | (refine qz1p (by rfl) 33 (.tmp 19) rfl b7 0 ?lc1 [.int .i64 A9.camera, .slice s70 A9.slots.length t70, .slice s71 A9.guides.length t71, .slice s72 A9.nodes.length t72, .slice s73 A9.vers.length t73] _ ?lc2 Tryd.underlying33 rfl qz1n ?_) | (refine qz1p (by rfl) 33 (.tmp 16) rfl b5 0 ?lc3 [.int .i64 A9.camera, .slice s50 A9.slots.length t50, .slice s51 A9.guides.length t51, .slice s52 A9.nodes.length t52, .slice s53 A9.vers.length t53] _ ?lc4 Tryd.underlying33 rfl qz1n ?_))
   try (case lc1 => rfl)
   try (case lc2 => exact G11)
   try (case lc3 => rfl)
   try (case lc4 => exact Y11)
   refine (qz28 w11.heap.size A9 _ _ _ _ _ _ _ _ w11 (Nat.le_refl _) hA9 M11.is J11.is).mono ?_
   rintro e w12 ⟨rfl, b12⟩
   have P12 := qz0 P11 b12 (by omega)
   have X12 := qz0 X11 b12 (by omega)
   have K12 := K11.trans (b12.mono (by omega))
   have I12 := I11.below (b12.mono (by omega))
   have hz12 : w.heap.size + 1 < w12.heap.size := Nat.lt_of_lt_of_le hz11 b12.size
   have ws12 := b12.size
   have Y12 := qz0 Y11 b12 (by omega)
   have J12 := J11.below b12
   have G12 := qz0 G11 b12 (by omega)
   have M12 := M11.below b12
   clear P11 X11 K11 I11 Y11 J11 G11 M11
   clear b12
   go_wp2_with (refine wpList_load_mid rfl 33 (.tmp 19) rfl b7 0 ?ld1 [.int .i64 A9.camera, .slice s70 A9.slots.length t70, .slice s71 A9.guides.length t71, .slice s72 A9.nodes.length t72, .slice s73 A9.vers.length t73] _ ?ld2 Tryd.underlying33 rfl qz1n ?_)
   try (case ld1 => rfl)
   try (case ld2 => exact G12)
   refine (qz31 A9.camera M12 1 hA9 (by omega) (by omega)).mono ?_
   rintro e w13 ⟨rfl, R13, O13⟩
   have bO : Below w6.heap.size w12 w13 := O13.below (by omega) (fun k h => by unfold qz5o at h; omega)
   have P13 := qz0 P12 bO (by omega)
   have X13 := qz0 X12 bO (by omega)
   have K13 := K12.trans (bO.mono (by omega))
   have I13 := I12.below (bO.mono (by omega))
   have ws13 := O13.size
   have hz13 : w.heap.size + 1 < w13.heap.size := by omega
   have Y13 := qz0 Y12 bO (by omega)
   have J13 := J12.kept O13 (fun q hq h => by have := LJ q hq; unfold qz5o at h; omega)
   have G13 := O13.range G12 (by omega) ap7
   clear P12 X12 K12 I12 Y12 J12 G12 M12 O13 bO
   go_wp2_with (refine wpList_load_mid rfl 33 (.tmp 19) rfl b7 0 ?le1 [.int .i64 A9.camera, .slice s70 A9.slots.length t70, .slice s71 A9.guides.length t71, .slice s72 A9.nodes.length t72, .slice s73 A9.vers.length t73] _ ?le2 Tryd.underlying33 rfl qz1n ?_)
   try (case le1 => rfl)
   try (case le2 => exact G13)
   refine (qz30 A9.camera 1 R13 hA9' (by omega) (by omega)).mono ?_
   rintro e w14 ⟨rfl, b14⟩
   have R14 := R13.below b14
   have P14 := qz0 P13 b14 (by omega)
   have X14 := qz0 X13 b14 (by omega)
   have K14 := K13.trans (b14.mono (by omega))
   have I14 := I13.below (b14.mono (by omega))
   have hz14 : w.heap.size + 1 < w14.heap.size := Nat.lt_of_lt_of_le hz13 b14.size
   have ws14 := b14.size
   have Y14 := qz0 Y13 b14 (by omega)
   have J14 := J13.below b14
   have G14 := qz0 G13 b14 (by omega)
   clear P13 X13 K13 I13 Y13 J13 G13
   clear b14 R13
   obtain ⟨x0', x1', x2', x3', x4'⟩ := row5 X14
   go_wp2_with fail
   clear x0' x1' x2' x3' x4'
   refine qz1d 14 12 (by decide) (by kernel_rfl) (qz3i w14.heap.size x y z u A A9 kk node v nx go kd 0 0 0 0 a0 a1 a2 a3 c0 c1 c2 c3) (fun _ => false) (by kernel_rfl) (by kernel_rfl) (by kernel_rfl) (by kernel_rfl) (by kernel_rfl) (by rfl) (fun i v' w w' _ hq hb => qz40 i v' w w' hq hb) (fun _ _ _ _ h => by cases h) ?step24 (fun _ _ _ _ h => h) ?float24 ?final24
   case float24 =>
    intro o ho a V hd
    obtain rfl := Option.some.inj ho
    obtain ⟨s0, s1, s2, s3, t0, t1, t2, t3, e1, -⟩ := (show ∃ s0 s1 s2 s3 t0 t1 t2 t3, a.eval (.tmp 99) = .tuple #[.agg #[.int .i64 A9.camera, .slice s0 A9.slots.length t0, .slice s1 A9.guides.length t1, .slice s2 A9.nodes.length t2, .slice s3 A9.vers.length t3], .int .i64 kk] /\ (∃ b0 b1 b2 b3, qza w14.heap.size V (.slice s0 A9.slots.length t0) (.slice s1 A9.guides.length t1) (.slice s2 A9.nodes.length t2) (.slice s3 A9.vers.length t3) A9 b0 b1 b2 b3 /\ TypA V A9 b0 b1 b2 b3) from hd ⟨10, .data⟩ (by simp) rfl 99 rfl)
    refine ⟨.int .i64 kk, fun w' => ?_, rfl, rfl⟩
    generalize a.eval = ev at *
    go_simp
   case step24 =>
    intro i o hik ho a V hb hn hd K hK
    have PW := qz0 P14 hb (by omega)
    have XW := qz0 X14 hb (by omega)
    obtain ⟨x0', x1', x2', x3', x4'⟩ := row5 XW
    match i, ho with
    | 0, ho =>
     obtain rfl := Option.some.inj ho
     exact qz2o 23 (.tmp 7) rfl (w.heap.size) 0 (hn 7 rfl) [.int .i64 x, .int .i64 y, .int .i64 z, .int .i64 u] _ PW Tryd.underlying23 rfl qz4l (hK _ _ rfl (Below.refl _ _) (fun h => by cases h))
    | 1, ho =>
     obtain rfl := Option.some.inj ho
     have e1 : a.eval (.tmp 100) = .agg #[.int .i64 x, .int .i64 y, .int .i64 z, .int .i64 u] := hd ⟨0, .data⟩ (by simp) rfl 100 rfl
     have ef : a.eval (.func 7) = .func (.func 7) #[] #[] := rfl
     refine qzm (f := 7) (args := #[.agg #[.int .i64 x, .int .i64 y, .int .i64 z, .int .i64 u]]) (R := fun v w' => v = .agg #[.int .i64 x, .int .i64 y, .int .i64 z, .int .i64 u] /\ Below V.heap.size V w') ?_ ((qz3n _ _ _ _ _).mono (fun e w' h => ⟨_, h.1, rfl, h.2⟩)) (fun v w' h => hK v w' h.1 h.2 (fun h => by cases h))
     generalize a.eval = ev at *
     go_simp
    | 2, ho =>
     obtain rfl := Option.some.inj ho
     have e1 : a.eval (.tmp 8) = .pointer (some ⟨w.heap.size + 1, 0, none⟩) := hn 8 rfl
     refine qz2 (v := .agg #[.int .i64 A.camera, .slice a0 A.slots.length c0, .slice a1 A.guides.length c1, .slice a2 A.nodes.length c2, .slice a3 A.vers.length c3]) (w' := V) ?_ (hK _ _ rfl (Below.refl _ _) (fun h => by cases h))
     generalize a.eval = ev at *
     go_simp
    | 3, ho =>
     obtain rfl := Option.some.inj ho
     have e1 : a.eval (.tmp 102) = .agg #[.int .i64 A.camera, .slice a0 A.slots.length c0, .slice a1 A.guides.length c1, .slice a2 A.nodes.length c2, .slice a3 A.vers.length c3] := hd ⟨2, .data⟩ (by simp) rfl 102 rfl
     have ef : a.eval (.func 8) = .func (.func 8) #[] #[] := rfl
     refine qzm (f := 8) (args := #[.agg #[.int .i64 A.camera, .slice a0 A.slots.length c0, .slice a1 A.guides.length c1, .slice a2 A.nodes.length c2, .slice a3 A.vers.length c3]]) (R := fun v w' => (∃ p0 p1 p2 p3, v = .agg #[.int .i64 A.camera, .slice (some ⟨p0, 0, none⟩) A.slots.length A.slots.length, .slice (some ⟨p1, 0, none⟩) A.guides.length A.guides.length, .slice (some ⟨p2, 0, none⟩) A.nodes.length A.nodes.length, .slice (some ⟨p3, 0, none⟩) A.vers.length A.vers.length] /\ qzd w'.heap.size w' (.slice (some ⟨p0, 0, none⟩) A.slots.length A.slots.length) (.slice (some ⟨p1, 0, none⟩) A.guides.length A.guides.length) (.slice (some ⟨p2, 0, none⟩) A.nodes.length A.nodes.length) (.slice (some ⟨p3, 0, none⟩) A.vers.length A.vers.length) A) /\ Below V.heap.size V w') ?_ ((qz3d hb (by omega) hA I14).mono (fun e w' h => by obtain ⟨p0, p1, p2, p3, e1, J, bJ⟩ := h; exact ⟨_, e1, ⟨p0, p1, p2, p3, rfl, J⟩, bJ⟩)) (fun v w' h => hK v w' h.1 h.2 (fun h => by cases h))
     generalize a.eval = ev at *
     go_simp
    | 4, ho =>
     obtain rfl := Option.some.inj ho
     have e1 : a.eval (.tmp 2) = .int .i64 node := hn 2 rfl
     refine qz2 (v := .int .i64 node) (w' := V) ?_ (hK _ _ rfl (Below.refl _ _) (fun h => by cases h))
     generalize a.eval = ev at *
     go_simp
    | 5, ho =>
     obtain rfl := Option.some.inj ho
     have e1 : a.eval (.tmp 3) = .int .i64 v := hn 3 rfl
     refine qz2 (v := .int .i64 v) (w' := V) ?_ (hK _ _ rfl (Below.refl _ _) (fun h => by cases h))
     generalize a.eval = ev at *
     go_simp
    | 6, ho =>
     obtain rfl := Option.some.inj ho
     have e1 : a.eval (.tmp 4) = .int .i64 nx := hn 4 rfl
     refine qz2 (v := .int .i64 nx) (w' := V) ?_ (hK _ _ rfl (Below.refl _ _) (fun h => by cases h))
     generalize a.eval = ev at *
     go_simp
    | 7, ho =>
     obtain rfl := Option.some.inj ho
     have e1 : a.eval (.tmp 5) = .bool go := hn 5 rfl
     refine qz2 (v := .bool go) (w' := V) ?_ (hK _ _ rfl (Below.refl _ _) (fun h => by cases h))
     generalize a.eval = ev at *
     go_simp
    | 8, ho =>
     obtain rfl := Option.some.inj ho
     have e1 : a.eval (.tmp 6) = .int .i64 kd := hn 6 rfl
     refine qz2 (v := .int .i64 kd) (w' := V) ?_ (hK _ _ rfl (Below.refl _ _) (fun h => by cases h))
     generalize a.eval = ev at *
     go_simp
    | 9, ho =>
     obtain rfl := Option.some.inj ho
     have e0 : a.eval (.tmp 101) = .agg #[.int .i64 x, .int .i64 y, .int .i64 z, .int .i64 u] := hd ⟨1, .data⟩ (by simp) rfl 101 rfl
     obtain ⟨p0, p1, p2, p3, eA, J⟩ := (show ∃ p0 p1 p2 p3, a.eval (.tmp 103) = .agg #[.int .i64 A.camera, .slice (some ⟨p0, 0, none⟩) A.slots.length A.slots.length, .slice (some ⟨p1, 0, none⟩) A.guides.length A.guides.length, .slice (some ⟨p2, 0, none⟩) A.nodes.length A.nodes.length, .slice (some ⟨p3, 0, none⟩) A.vers.length A.vers.length] /\ qzd V.heap.size V (.slice (some ⟨p0, 0, none⟩) A.slots.length A.slots.length) (.slice (some ⟨p1, 0, none⟩) A.guides.length A.guides.length) (.slice (some ⟨p2, 0, none⟩) A.nodes.length A.nodes.length) (.slice (some ⟨p3, 0, none⟩) A.vers.length A.vers.length) A from hd ⟨3, .data⟩ (by simp) rfl 103 rfl)
     have e2 : a.eval (.tmp 104) = .int .i64 node := hd ⟨4, .data⟩ (by simp) rfl 104 rfl
     have e3 : a.eval (.tmp 105) = .int .i64 v := hd ⟨5, .data⟩ (by simp) rfl 105 rfl
     have e4 : a.eval (.tmp 106) = .int .i64 nx := hd ⟨6, .data⟩ (by simp) rfl 106 rfl
     have e5 : a.eval (.tmp 107) = .bool go := hd ⟨7, .data⟩ (by simp) rfl 107 rfl
     have e6 : a.eval (.tmp 108) = .int .i64 kd := hd ⟨8, .data⟩ (by simp) rfl 108 rfl
     have ef : a.eval (.func 9) = .func (.func 9) #[] #[] := rfl
     have EV := (hE.below (K14.trans (hb.mono K14.size))).raise (Nat.le_trans K14.size hb.size)
     have ET := (hT.below (K14.trans (hb.mono K14.size))).raise (Nat.le_trans K14.size hb.size)
     refine qzm (f := 9) (args := #[.agg #[.int .i64 x, .int .i64 y, .int .i64 z, .int .i64 u], .agg #[.int .i64 A.camera, .slice (some ⟨p0, 0, none⟩) A.slots.length A.slots.length, .slice (some ⟨p1, 0, none⟩) A.guides.length A.guides.length, .slice (some ⟨p2, 0, none⟩) A.nodes.length A.nodes.length, .slice (some ⟨p3, 0, none⟩) A.vers.length A.vers.length], .int .i64 node, .int .i64 v, .int .i64 nx, .bool go, .int .i64 kd]) (R := fun v w' => (∃ s0 s1 s2 s3 t0 t1 t2 t3, v = .tuple #[.agg #[.int .i64 A9.camera, .slice s0 A9.slots.length t0, .slice s1 A9.guides.length t1, .slice s2 A9.nodes.length t2, .slice s3 A9.vers.length t3], .int .i64 kk] /\ (∃ b0 b1 b2 b3, qza V.heap.size w' (.slice s0 A9.slots.length t0) (.slice s1 A9.guides.length t1) (.slice s2 A9.nodes.length t2) (.slice s3 A9.vers.length t3) A9 b0 b1 b2 b3 /\ TypA w' A9 b0 b1 b2 b3)) /\ Below V.heap.size V w') ?_ ((qz3b _ A x y z u node v nx go kd _ _ _ _ _ _ _ _ eN eF eU _ (Nat.le_refl _) hA J EV ET).mono (fun e w' h => by rw [hR.out] at h; obtain ⟨s, g, n, r, b0, b1, b2, b3, e1, N, Ty, bN⟩ := h; obtain ⟨s0, t0, rfl⟩ := qzo N.s; obtain ⟨s1, t1, rfl⟩ := qzo N.g; obtain ⟨s2, t2, rfl⟩ := qzo N.n; obtain ⟨s3, t3, rfl⟩ := qzo N.r; exact ⟨_, e1, ⟨s0, s1, s2, s3, t0, t1, t2, t3, rfl, b0, b1, b2, b3, N, Ty⟩, bN⟩)) (fun v w' h => hK v w' (by obtain ⟨s0, s1, s2, s3, t0, t1, t2, t3, e, b0, b1, b2, b3, N, Ty⟩ := h.1; exact ⟨s0, s1, s2, s3, t0, t1, t2, t3, e, b0, b1, b2, b3, N.lo hb.size, Ty⟩) h.2 (fun h => by cases h))
     clear J
     generalize a.eval = ev at *
     go_simp
    | 10, ho =>
     obtain rfl := Option.some.inj ho
     obtain ⟨s0, s1, s2, s3, t0, t1, t2, t3, e1, JJ⟩ := (show ∃ s0 s1 s2 s3 t0 t1 t2 t3, a.eval (.tmp 109) = .tuple #[.agg #[.int .i64 A9.camera, .slice s0 A9.slots.length t0, .slice s1 A9.guides.length t1, .slice s2 A9.nodes.length t2, .slice s3 A9.vers.length t3], .int .i64 kk] /\ (∃ b0 b1 b2 b3, qza w14.heap.size V (.slice s0 A9.slots.length t0) (.slice s1 A9.guides.length t1) (.slice s2 A9.nodes.length t2) (.slice s3 A9.vers.length t3) A9 b0 b1 b2 b3 /\ TypA V A9 b0 b1 b2 b3) from hd ⟨9, .data⟩ (by simp) rfl 109 rfl)
     refine qz2 (v := .tuple #[.agg #[.int .i64 A9.camera, .slice s0 A9.slots.length t0, .slice s1 A9.guides.length t1, .slice s2 A9.nodes.length t2, .slice s3 A9.vers.length t3], .int .i64 kk]) (w' := V) ?_ (hK _ _ ⟨s0, s1, s2, s3, t0, t1, t2, t3, rfl, JJ⟩ (Below.refl _ _) (fun h => by cases h))
     clear JJ
     generalize a.eval = ev at *
     go_simp
    | 11, ho =>
     obtain rfl := Option.some.inj ho
     obtain ⟨s0, s1, s2, s3, t0, t1, t2, t3, e1, JJ⟩ := (show ∃ s0 s1 s2 s3 t0 t1 t2 t3, a.eval (.tmp 99) = .tuple #[.agg #[.int .i64 A9.camera, .slice s0 A9.slots.length t0, .slice s1 A9.guides.length t1, .slice s2 A9.nodes.length t2, .slice s3 A9.vers.length t3], .int .i64 kk] /\ (∃ b0 b1 b2 b3, qza w14.heap.size V (.slice s0 A9.slots.length t0) (.slice s1 A9.guides.length t1) (.slice s2 A9.nodes.length t2) (.slice s3 A9.vers.length t3) A9 b0 b1 b2 b3 /\ TypA V A9 b0 b1 b2 b3) from hd ⟨10, .data⟩ (by simp) rfl 99 rfl)
     refine qz2 (v := .agg #[.int .i64 A9.camera, .slice s0 A9.slots.length t0, .slice s1 A9.guides.length t1, .slice s2 A9.nodes.length t2, .slice s3 A9.vers.length t3]) (w' := V) ?_ (hK _ _ ⟨s0, s1, s2, s3, t0, t1, t2, t3, rfl, JJ⟩ (Below.refl _ _) (fun h => by cases h))
     clear JJ
     generalize a.eval = ev at *
     go_simp
    | 12, ho =>
     obtain rfl := Option.some.inj ho
     obtain ⟨s0, s1, s2, s3, t0, t1, t2, t3, e1, JJ⟩ := (show ∃ s0 s1 s2 s3 t0 t1 t2 t3, a.eval (.tmp 99) = .tuple #[.agg #[.int .i64 A9.camera, .slice s0 A9.slots.length t0, .slice s1 A9.guides.length t1, .slice s2 A9.nodes.length t2, .slice s3 A9.vers.length t3], .int .i64 kk] /\ (∃ b0 b1 b2 b3, qza w14.heap.size V (.slice s0 A9.slots.length t0) (.slice s1 A9.guides.length t1) (.slice s2 A9.nodes.length t2) (.slice s3 A9.vers.length t3) A9 b0 b1 b2 b3 /\ TypA V A9 b0 b1 b2 b3) from hd ⟨10, .data⟩ (by simp) rfl 99 rfl)
     refine qz2 (v := .int .i64 kk) (w' := V) ?_ (hK _ _ rfl (Below.refl _ _) (fun h => by cases h))
     clear JJ
     generalize a.eval = ev at *
     go_simp
    | 13, ho =>
     obtain rfl := Option.some.inj ho
     refine qz2 (v := .pointer (some ⟨V.heap.size, 0, none⟩)) (w' := V.alloc (.cells #[.int .i64 0, .slice none 0 0, .slice none 0 0, .slice none 0 0, .slice none 0 0] 33)) ?_ (hK _ _ ⟨V.heap.size, rfl, hb.size, Blk.new _ _ _⟩ ((Below.refl _ _).alloc (Nat.le_refl _) _) (fun h => by cases h))
     generalize a.eval = ev at *
     go_simp
    | n + 14, ho => omega
   case final24 =>
    intro vs24 V24 hb hG _
    obtain ⟨s240, s241, s242, s243, t240, t241, t242, t243, g0, J24⟩ := (show ∃ s0 s1 s2 s3 t0 t1 t2 t3, vs24 11 = .agg #[.int .i64 A9.camera, .slice s0 A9.slots.length t0, .slice s1 A9.guides.length t1, .slice s2 A9.nodes.length t2, .slice s3 A9.vers.length t3] /\ (∃ b0 b1 b2 b3, qza w14.heap.size V24 (.slice s0 A9.slots.length t0) (.slice s1 A9.guides.length t1) (.slice s2 A9.nodes.length t2) (.slice s3 A9.vers.length t3) A9 b0 b1 b2 b3 /\ TypA V24 A9 b0 b1 b2 b3) from hG 11 (by decide))
    have g1 : vs24 12 = .int .i64 kk := hG 12 (by decide)
    obtain ⟨b24, g2, lb24, BK24⟩ := (show ∃ b, vs24 13 = .pointer (some ⟨b, 0, none⟩) /\ w14.heap.size <= b /\ Blk V24 b 33 5 from hG 13 (by decide))
    have ub24 := BK24.lt
    have T24 := BK24.there 0 5 (by omega)
    obtain ⟨f240, f241, f242, f243, N24, Ty24⟩ := J24
    have ap24 := Ty24.apart BK24 (by decide) (by decide) (by decide)
    clear Ty24
    generalize hl : laid _ vs24 _ _ _ = A'
    have hA'' : A' = { tmps := #[.agg #[.int .i64 x, .int .i64 y, .int .i64 z, .int .i64 u], .agg #[.int .i64 A.camera, .slice a0 A.slots.length c0, .slice a1 A.guides.length c1, .slice a2 A.nodes.length c2, .slice a3 A.vers.length c3], .int .i64 node, .int .i64 v, .int .i64 nx, .bool go, .int .i64 kd, .pointer (some ⟨w.heap.size, 0, none⟩), .pointer (some ⟨w.heap.size + 1, 0, none⟩), undef, undef, undef, undef, undef, .bool false, .int .i64 (1048576 - (A.slots.length : Int) - (A.guides.length : Int) - (A.nodes.length : Int) - (A.vers.length : Int)), .pointer (some ⟨b5, 0, none⟩), .int .i64 kk, .pointer (some ⟨xb, 0, none⟩), .pointer (some ⟨b7, 0, none⟩), .int .i64 kk, .int .i64 (1 + (A.slots.length : Int) + (A.guides.length : Int) + (A.nodes.length : Int) * 3 + (A.vers.length : Int) * 5), .int .i64 (1 + (A9.slots.length : Int) + (A9.guides.length : Int) + (A9.nodes.length : Int) * 3 + (A9.vers.length : Int) * 5), .int .i64 (1 + (A9.slots.length : Int) + (A9.guides.length : Int) + (A9.nodes.length : Int) * 3 + (A9.vers.length : Int) * 5), vs24 13, undef, .agg #[.int .i64 A.camera, .slice a0 A.slots.length c0, .slice a1 A.guides.length c1, .slice a2 A.nodes.length c2, .slice a3 A.vers.length c3], .int .i64 1048576, .int .i64 (1048576 - (A.slots.length : Int) - (A.guides.length : Int) - (A.nodes.length : Int) - (A.vers.length : Int)), .int .i64 (1048576 - (A.slots.length : Int) - (A.guides.length : Int) - (A.nodes.length : Int) - (A.vers.length : Int)), .bool (decide ((1048576 - (A.slots.length : Int) - (A.guides.length : Int) - (A.nodes.length : Int) - (A.vers.length : Int)) < 0)), vs5 10, vs5 0, vs5 1, vs5 2, vs5 3, vs5 4, vs5 5, vs5 6, vs5 7, vs5 8, vs5 9, .agg #[.int .i64 A9.camera, .slice s50 A9.slots.length t50, .slice s51 A9.guides.length t51, .slice s52 A9.nodes.length t52, .slice s53 A9.vers.length t53], .int .i64 kk, .agg #[.int .i64 A.camera, .slice a0 A.slots.length c0, .slice a1 A.guides.length c1, .slice a2 A.nodes.length c2, .slice a3 A.vers.length c3], .agg #[.int .i64 A.camera, .slice (some ⟨q0, 0, none⟩) A.slots.length A.slots.length, .slice (some ⟨q1, 0, none⟩) A.guides.length A.guides.length, .slice (some ⟨q2, 0, none⟩) A.nodes.length A.nodes.length, .slice (some ⟨q3, 0, none⟩) A.vers.length A.vers.length], vs7 9, vs7 0, vs7 1, vs7 2, vs7 3, vs7 4, vs7 5, vs7 6, vs7 7, vs7 8, .agg #[.int .i64 A9.camera, .slice s70 A9.slots.length t70, .slice s71 A9.guides.length t71, .slice s72 A9.nodes.length t72, .slice s73 A9.vers.length t73], .int .i64 kk, .agg #[.int .i64 A9.camera, .slice s70 A9.slots.length t70, .slice s71 A9.guides.length t71, .slice s72 A9.nodes.length t72, .slice s73 A9.vers.length t73], .agg #[.int .i64 A9.camera, .slice s50 A9.slots.length t50, .slice s51 A9.guides.length t51, .slice s52 A9.nodes.length t52, .slice s53 A9.vers.length t53], .bool true, .bool false, .bool false, .int .i64 kk, .int .i64 kk, .bool false, .bool false, .agg #[.int .i64 A.camera, .slice (some ⟨q0, 0, none⟩) A.slots.length A.slots.length, .slice (some ⟨q1, 0, none⟩) A.guides.length A.guides.length, .slice (some ⟨q2, 0, none⟩) A.nodes.length A.nodes.length, .slice (some ⟨q3, 0, none⟩) A.vers.length A.vers.length], .agg #[.int .i64 A.camera, .slice a0 A.slots.length c0, .slice a1 A.guides.length c1, .slice a2 A.nodes.length c2, .slice a3 A.vers.length c3], .agg #[.int .i64 A.camera, .slice (some ⟨r0, 0, none⟩) A.slots.length A.slots.length, .slice (some ⟨r1, 0, none⟩) A.guides.length A.guides.length, .slice (some ⟨r2, 0, none⟩) A.nodes.length A.nodes.length, .slice (some ⟨r3, 0, none⟩) A.vers.length A.vers.length], .bool true, .bool false, .agg #[.int .i64 A.camera, .slice (some ⟨q0, 0, none⟩) A.slots.length A.slots.length, .slice (some ⟨q1, 0, none⟩) A.guides.length A.guides.length, .slice (some ⟨q2, 0, none⟩) A.nodes.length A.nodes.length, .slice (some ⟨q3, 0, none⟩) A.vers.length A.vers.length], .int .i64 1, .int .i64 (1 + (A.slots.length : Int) + (A.guides.length : Int) + (A.nodes.length : Int) * 3 + (A.vers.length : Int) * 5), .int .i64 (1 + (A.slots.length : Int) + (A.guides.length : Int) + (A.nodes.length : Int) * 3 + (A.vers.length : Int) * 5), .bool (decide ((1 + (A.slots.length : Int) + (A.guides.length : Int) + (A.nodes.length : Int) * 3 + (A.vers.length : Int) * 5) < 0)), .bool (decide ((1 + (A.slots.length : Int) + (A.guides.length : Int) + (A.nodes.length : Int) * 3 + (A.vers.length : Int) * 5) < 0)), .agg #[.int .i64 A9.camera, .slice s70 A9.slots.length t70, .slice s71 A9.guides.length t71, .slice s72 A9.nodes.length t72, .slice s73 A9.vers.length t73], .agg #[.int .i64 A9.camera, .slice s50 A9.slots.length t50, .slice s51 A9.guides.length t51, .slice s52 A9.nodes.length t52, .slice s53 A9.vers.length t53], .bool true, .bool false, .bool (decide ((1 + (A.slots.length : Int) + (A.guides.length : Int) + (A.nodes.length : Int) * 3 + (A.vers.length : Int) * 5) < 0)), .bool (decide ((1 + (A.slots.length : Int) + (A.guides.length : Int) + (A.nodes.length : Int) * 3 + (A.vers.length : Int) * 5) < 0)), .int .i64 kk, .int .i64 kk, .bool false, .bool (decide ((1 + (A.slots.length : Int) + (A.guides.length : Int) + (A.nodes.length : Int) * 3 + (A.vers.length : Int) * 5) < 0)), .agg #[.int .i64 A9.camera, .slice s70 A9.slots.length t70, .slice s71 A9.guides.length t71, .slice s72 A9.nodes.length t72, .slice s73 A9.vers.length t73], .int .i64 1, .int .i64 (1 + (A9.slots.length : Int) + (A9.guides.length : Int) + (A9.nodes.length : Int) * 3 + (A9.vers.length : Int) * 5), .agg #[.int .i64 A9.camera, .slice s70 A9.slots.length t70, .slice s71 A9.guides.length t71, .slice s72 A9.nodes.length t72, .slice s73 A9.vers.length t73], .int .i64 1, .int .i64 (1 + (A9.slots.length : Int) + (A9.guides.length : Int) + (A9.nodes.length : Int) * 3 + (A9.vers.length : Int) * 5), .int .i64 (1 + (A9.slots.length : Int) + (A9.guides.length : Int) + (A9.nodes.length : Int) * 3 + (A9.vers.length : Int) * 5), .bool (decide ((1 + (A9.slots.length : Int) + (A9.guides.length : Int) + (A9.nodes.length : Int) * 3 + (A9.vers.length : Int) * 5) < 0)), .int .i64 (1 + (A9.slots.length : Int) + (A9.guides.length : Int) + (A9.nodes.length : Int) * 3 + (A9.vers.length : Int) * 5), .int .i64 (1 + (A9.slots.length : Int) + (A9.guides.length : Int) + (A9.nodes.length : Int) * 3 + (A9.vers.length : Int) * 5), .bool false, vs24 10, vs24 0, vs24 1, vs24 2, vs24 3, vs24 4, vs24 5, vs24 6, vs24 7, vs24 8, vs24 9, vs24 11, vs24 12, undef, undef, undef, undef, undef, undef, undef, undef, undef, undef, undef, undef, undef, undef, undef, undef, undef], defers := [] } := by
     rw [<- hl]
     kernel_rfl
    subst hA''
    rw [g0, g1, g2]
    clear hl hG g0 g1 g2
    have Hb24 := hb.trans ((qz4 b24 [.int .i64 A9.camera, .slice s240 A9.slots.length t240, .slice s241 A9.guides.length t241, .slice s242 A9.nodes.length t242, .slice s243 A9.vers.length t243] 0 V24).below lb24 hb.size)
    have Y24 : (V24.setCells b24 0 [.int .i64 A9.camera, .slice s240 A9.slots.length t240, .slice s241 A9.guides.length t241, .slice s242 A9.nodes.length t242, .slice s243 A9.vers.length t243]).rangeAt b24 0 [.int .i64 A9.camera, .slice s240 A9.slots.length t240, .slice s241 A9.guides.length t241, .slice s242 A9.nodes.length t242, .slice s243 A9.vers.length t243] := World.rangeAt_setCells_same V24 b24 0 [.int .i64 A9.camera, .slice s240 A9.slots.length t240, .slice s241 A9.guides.length t241, .slice s242 A9.nodes.length t242, .slice s243 A9.vers.length t243] T24
    have hy24 : b24 < (V24.setCells b24 0 [.int .i64 A9.camera, .slice s240 A9.slots.length t240, .slice s241 A9.guides.length t241, .slice s242 A9.nodes.length t242, .slice s243 A9.vers.length t243]).heap.size := Nat.lt_of_lt_of_le ub24 (qz4 b24 [.int .i64 A9.camera, .slice s240 A9.slots.length t240, .slice s241 A9.guides.length t241, .slice s242 A9.nodes.length t242, .slice s243 A9.vers.length t243] 0 V24).size
    have OV24 := qz4 b24 [.int .i64 A9.camera, .slice s240 A9.slots.length t240, .slice s241 A9.guides.length t241, .slice s242 A9.nodes.length t242, .slice s243 A9.vers.length t243] 0 V24
    simp only [List.drop_succ_cons, List.drop_zero]
    refine wpList_store_mid rfl 33 (.tmp 24) (.tmp 110) rfl b24 0 #[.int .i64 A9.camera, .slice s240 A9.slots.length t240, .slice s241 A9.guides.length t241, .slice s242 A9.nodes.length t242, .slice s243 A9.vers.length t243] ?sx24 ?sy24 ?st24 qz1n (by simp [Value.oneCell']) ?_
    case sx24 => rfl
    case sy24 => rfl
    case st24 => exact T24
    rw [List.toList_toArray]
    have B24 : But (fun q => q = b24) V24 (V24.setCells b24 0 [.int .i64 A9.camera, .slice s240 A9.slots.length t240, .slice s241 A9.guides.length t241, .slice s242 A9.nodes.length t242, .slice s243 A9.vers.length t243]) := But.of_only OV24 rfl
    have L16 : qza w14.heap.size (V24.setCells b24 0 [.int .i64 A9.camera, .slice s240 A9.slots.length t240, .slice s241 A9.guides.length t241, .slice s242 A9.nodes.length t242, .slice s243 A9.vers.length t243]) (.slice s240 A9.slots.length t240) (.slice s241 A9.guides.length t241) (.slice s242 A9.nodes.length t242) (.slice s243 A9.vers.length t243) A9 f240 f241 f242 f243 := ⟨N24.s.but B24 (fun hp e => ap24 (Or.inl ⟨hp, e.symm⟩)), N24.g.but B24 (fun hp e => ap24 (Or.inr (Or.inl ⟨hp, e.symm⟩))), N24.n.but B24 (fun hp e => ap24 (Or.inr (Or.inr (Or.inl ⟨hp, e.symm⟩)))), N24.r.but B24 (fun hp e => ap24 (Or.inr (Or.inr (Or.inr ⟨hp, e.symm⟩)))), N24.d01, N24.d02, N24.d03, N24.d12, N24.d13, N24.d23⟩
    go_upto_region 25 with fail
    clear hb T24 ub24 N24 B24 BK24 OV24
    generalize V24.setCells b24 0 [.int .i64 A9.camera, .slice s240 A9.slots.length t240, .slice s241 A9.guides.length t241, .slice s242 A9.nodes.length t242, .slice s243 A9.vers.length t243] = w16 at *
    have R16 := R14.below Hb24
    have P16 := qz0 P14 Hb24 (by omega)
    have X16 := qz0 X14 Hb24 (by omega)
    have K16 := K14.trans (Hb24.mono (by omega))
    have I16 := I14.below (Hb24.mono (by omega))
    have hz16 : w.heap.size + 1 < w16.heap.size := Nat.lt_of_lt_of_le hz14 Hb24.size
    have ws16 := Hb24.size
    have Y16 := qz0 Y14 Hb24 (by omega)
    have J16 := J14.below Hb24
    have G16 := qz0 G14 Hb24 (by omega)
    clear P14 X14 K14 I14 Y14 J14 G14
    clear Hb24 R14
    go_wp2_with (first | (refine wpList_load_mid rfl 33 (.tmp 24) rfl b24 0 ?lf1 [.int .i64 A9.camera, .slice s240 A9.slots.length t240, .slice s241 A9.guides.length t241, .slice s242 A9.nodes.length t242, .slice s243 A9.vers.length t243] _ ?lf2 Tryd.underlying33 rfl qz1n ?_) | (refine wpList_load_mid rfl 33 (.tmp 16) rfl b5 0 ?lf3 [.int .i64 A9.camera, .slice s50 A9.slots.length t50, .slice s51 A9.guides.length t51, .slice s52 A9.nodes.length t52, .slice s53 A9.vers.length t53] _ ?lf4 Tryd.underlying33 rfl qz1n ?_))
    try (case lf1 => rfl)
    try (case lf2 => exact Y24)
    try (case lf3 => rfl)
    try (case lf4 => exact Y16)
    refine (qz28 w16.heap.size A9 _ _ _ _ _ _ _ _ w16 (Nat.le_refl _) hA9 L16.is J16.is).mono ?_
    rintro e w17 ⟨rfl, b17⟩
    have R17 := R16.below b17
    have G17 := qz0 G16 b17 (by omega)
    have K17 := K16.trans (b17.mono (by omega))
    clear R16 G16 K16 b17 L16 J16 Y16 Y24 P16 X16 I16
    go_wp2_with (refine wpList_load_mid rfl 33 (.tmp 19) rfl b7 0 ?lg1 [.int .i64 A9.camera, .slice s70 A9.slots.length t70, .slice s71 A9.guides.length t71, .slice s72 A9.nodes.length t72, .slice s73 A9.vers.length t73] _ ?lg2 Tryd.underlying33 rfl qz1n ?_)
    try (case lg1 => rfl)
    try (case lg2 => exact G17)
    refine (qz30 A9.camera 1 R17 hA9' (by omega) (by omega)).mono ?_
    rintro e w18 ⟨rfl, b18⟩
    have K18 := K17.trans (b18.mono K17.size)
    clear R17 G17 K17 b18
    go_wp2
    go_ret
    exact ⟨rfl, K18⟩
end
end Go.Proofs.YtlfjhcdjgoeafaaDoor
