/-
  What the law's proof goes by, part 24.
-/
import Derived.Test.YthjkdnlmopafkaaFnRest00
import Derived.Test.YthjkdnlmopafkaaFnRest16
import Derived.Test.YthjkdnlmopafkaaFnRest18
import Derived.Test.YthjkdnlmopafkaaFnRest19
import Derived.Test.YthjkdnlmopafkaaFnRest20
import Derived.Test.YthjkdnlmopafkaaFnRest21
import Derived.Test.YthjkdnlmopafkaaFnRest22
namespace Go.Proofs.Ythjkdnlmopafkaa
open Go.ChangeShapes Go.WideShapes Go.ChangeAt Go.RowKit
set_option maxRecDepth 100000
set_option maxHeartbeats 16000000
set_option linter.unusedVariables false
set_option linter.unusedSimpArgs false
set_option linter.unnecessarySimpa false
set_option linter.unusedSectionVars false
section
attribute [local go_sem ↓] Go.wp_at_zero Go.wp_at_succ
def qz14 (x y z u : Int) (A : Ar) (h : Hd) (d : Dd) (tk : Bool) (me clock : Int) : Ar × Hd × Dd × Bool :=
 if h.at_ = 1 ∨ h.at_ = 6 then ((qz1u x y z u A h).1, (qz1u x y z u A h).2, d, tk)
 else if h.at_ <= 5 then ((qz1z A h d clock).1, (qz1z A h d clock).2.1, (qz1z A h d clock).2.2, tk)
 else if h.at_ <= 12 then ((qzw x y z u A h).1, (qzw x y z u A h).2, d, tk)
 else if h.at_ <= 18 then ((qzl A h me tk).1, (qzl A h me tk).2.1, d, (qzl A h me tk).2.2)
 else if h.at_ = 19 then (A, qz84 A h, d, tk)
 else if h.at_ = 21 then (A, qz6i A h, d, tk)
 else ((qz3v A h).1, (qz3v A h).2, d, tk)
def qz1y (A : Ar) (h : Hd) (tk : Bool) (me : Int) : Int := if 13 <= h.at_ /\ h.at_ <= 18 then (qzl A h me tk).1.camera else A.camera
structure qz9u (A : Ar) (h : Hd) (me : Int) : Prop where
 v0 : 0 <= h.ver
 v1 : h.ver < (A.vers.length : Int)
 x0 : 0 <= h.x_
 x1 : h.x_ < (A.nodes.length : Int)
 p0 : 0 <= h.pred
 p1 : h.pred < (A.nodes.length : Int)
 c0 : 0 <= h.currVer
 c1 : h.currVer < (A.vers.length : Int)
 u1 : h.curr < (A.nodes.length : Int)
 n1 : h.new_ < (A.nodes.length : Int)
 o0 : 0 <= h.out
 o1 : h.out <= 1000000
 s0 : 0 <= h.sum
 s1 : h.sum <= 1000000
 cm : 0 <= h.cam
 r0 : 0 <= h.round
 r1 : h.round <= 20000
 i0 : 0 <= h.index
 i1 : h.index <= 60
 m0 : 0 <= me
 m1 : me < (A.slots.length : Int)
 k0 : 0 <= A.camera
 k1 : A.camera <= 100
theorem qz9h (base : Nat) (A : Ar) (h : Hd) (d : Dd) (tk : Bool) (me clock : Int) (s g n r : Value) (w : World) (hbase : base <= w.heap.size) (hA : A.size <= 1048576) (O : qz32 base w s g n r A) (x y z u : Int) (hOk : qz1i x y z u A = true) (R : qz9u A h me) (e : h.at_ = 1) :
  Calls Try.prog 102 #[.agg #[.int .i64 x, .int .i64 y, .int .i64 z, .int .i64 u], .agg (qze A.camera s g n r h d tk).toArray, .int .i64 me, .int .i64 clock] w fun e w' => ∃ s' g' n' r', e = .returned (.agg (qze (qz1y A h tk me) s' g' n' r' (qz14 x y z u A h d tk me clock).2.1 (qz14 x y z u A h d tk me clock).2.2.1 (qz14 x y z u A h d tk me clock).2.2.2).toArray) /\ qz25 base w w' s g n r s' g' n' r' (qz14 x y z u A h d tk me clock).1 := by
 have hA' := hA
 unfold Ar.size at hA
 obtain ⟨sa, sc, rfl⟩ := qzi O.rs
 obtain ⟨ga, gc, rfl⟩ := qzi O.rg
 obtain ⟨na, nc, rfl⟩ := qzi O.rn
 obtain ⟨ra, rc, rfl⟩ := qzi O.rr
 obtain ⟨S0, P0⟩ := qz1e base w (.slice sa A.slots.length sc) (.slice ga A.guides.length gc) (.slice na A.nodes.length nc) (.slice ra A.vers.length rc) A (qze A.camera (.slice sa A.slots.length sc) (.slice ga A.guides.length gc) (.slice na A.nodes.length nc) (.slice ra A.vers.length rc) h d tk) [.int .i64 0, .slice none 0 0, .slice none 0 0, .slice none 0 0, .slice none 0 0, .int .i64 0, .int .i64 0, .int .i64 0, .int .i64 0, .int .i64 0, .int .i64 0, .int .i64 0, .int .i64 0, .int .i64 0, .int .i64 0, .int .i64 0, .int .i64 0, .int .i64 0, .int .i64 0, .int .i64 0, .int .i64 0, .int .i64 0, .int .i64 0, .int .i64 0, .int .i64 0, .int .i64 0, .int .i64 0, .int .i64 0, .int .i64 0, .int .i64 0, .int .i64 0, .int .i64 0, .bool false] 143 25 x y z u O rfl rfl
 have hd : Hid ((qz14 x y z u A h d tk me clock) = ((qz1u x y z u A h).1, (qz1u x y z u A h).2, d, tk)) := by show _ = _; unfold qz14; rw [if_pos (by omega)]
 have hdc : Hid (qz1y A h tk me = A.camera) := by show _ = _; unfold qz1y; rw [if_neg (by omega)]
 have eH : Hid (h.at_ = 1) := e
 go_enter Try.func102, Try.ntmps102
 have tok : True := trivial
 go_wp2_with (clear tok; refine qz2r (((w.alloc (.cells #[.int .i64 x, .int .i64 y, .int .i64 z, .int .i64 u] 25)).alloc (.cells (qze A.camera (.slice sa A.slots.length sc) (.slice ga A.guides.length gc) (.slice na A.nodes.length nc) (.slice ra A.vers.length rc) h d tk).toArray 143)).alloc (.cells #[.int .i64 0, .slice none 0 0, .slice none 0 0, .slice none 0 0, .slice none 0 0, .int .i64 0, .int .i64 0, .int .i64 0, .int .i64 0, .int .i64 0, .int .i64 0, .int .i64 0, .int .i64 0, .int .i64 0, .int .i64 0, .int .i64 0, .int .i64 0, .int .i64 0, .int .i64 0, .int .i64 0, .int .i64 0, .int .i64 0, .int .i64 0, .int .i64 0, .int .i64 0, .int .i64 0, .int .i64 0, .int .i64 0, .int .i64 0, .int .i64 0, .int .i64 0, .int .i64 0, .bool false] 143)) ?_)
 generalize hw0 : ((w.alloc (.cells #[.int .i64 x, .int .i64 y, .int .i64 z, .int .i64 u] 25)).alloc (.cells (qze A.camera (.slice sa A.slots.length sc) (.slice ga A.guides.length gc) (.slice na A.nodes.length nc) (.slice ra A.vers.length rc) h d tk).toArray 143)).alloc (.cells #[.int .i64 0, .slice none 0 0, .slice none 0 0, .slice none 0 0, .slice none 0 0, .int .i64 0, .int .i64 0, .int .i64 0, .int .i64 0, .int .i64 0, .int .i64 0, .int .i64 0, .int .i64 0, .int .i64 0, .int .i64 0, .int .i64 0, .int .i64 0, .int .i64 0, .int .i64 0, .int .i64 0, .int .i64 0, .int .i64 0, .int .i64 0, .int .i64 0, .int .i64 0, .int .i64 0, .int .i64 0, .int .i64 0, .int .i64 0, .int .i64 0, .int .i64 0, .int .i64 0, .bool false] 143) = w0 at *
 clear hw0
 show wpList _ _ _ _ _ w0
 have q5 := S0.cell 5 rfl
 obtain ⟨p0, p1, p2, p3⟩ := id P0
 rw [e] at q5
 clear e
 go_wp2_with (first | (refine wpList_load_mid rfl 143 (.tmp 5) rfl (w.heap.size + 1) 0 ?lx (qze A.camera (.slice sa A.slots.length sc) (.slice ga A.guides.length gc) (.slice na A.nodes.length nc) (.slice ra A.vers.length rc) h d tk) _ ?lc Try.underlying143 rfl (qz7 _ _ _ _ _ _ _ _) ?_) | (go_at_call 106; refine (qz7n base A h d tk _ _ _ _ _ (Nat.le_trans hbase S0.but.size) hA' S0.own x y z u hOk R.p0 R.p1 R.c0 R.c1 R.r0 R.r1).mono ?_; rintro e w2 ⟨s2, g2, n2, r2, rfl, E⟩; have S3 := S0.swap E; clear E; obtain ⟨sa2, sc2, rfl⟩ := qzi S3.own.rs; obtain ⟨ga2, gc2, rfl⟩ := qzi S3.own.rg; obtain ⟨na2, nc2, rfl⟩ := qzi S3.own.rn; obtain ⟨ra2, rc2, rfl⟩ := qzi S3.own.rr) | (refine wpList_store_mid rfl 143 (.tmp 8) _ rfl (w.heap.size + 1 + 1) 0 (qze A.camera (.slice sa2 (qz1u x y z u A h).1.slots.length sc2) (.slice ga2 (qz1u x y z u A h).1.guides.length gc2) (.slice na2 (qz1u x y z u A h).1.nodes.length nc2) (.slice ra2 (qz1u x y z u A h).1.vers.length rc2) (qz1u x y z u A h).2 d tk).toArray ?dx ?dy ?dt (qzq _ _ _ _ _ _ _ _) (qz10 _ _ _ _ _ _ _ _ _ _ _ _ _ _ _ _) ?_))
 try (case lx => rfl)
 try (case lc => exact S0.row)
 try (case dx => rfl)
 try (case dy => rfl)
 try (case dt => exact S3.to)
 refine bodyPost_ret (v := .agg (qze A.camera (.slice sa2 (qz1u x y z u A h).1.slots.length sc2) (.slice ga2 (qz1u x y z u A h).1.guides.length gc2) (.slice na2 (qz1u x y z u A h).1.nodes.length nc2) (.slice ra2 (qz1u x y z u A h).1.vers.length rc2) (qz1u x y z u A h).2 d tk).toArray) ?_ rfl ⟨_, _, _, _, by rw [hd.out, hdc.out], by rw [hd.out]; exact S3.fin2 _⟩
 exact qz4 Try.results102 _ _ (w.heap.size + 1 + 1) 0 rfl (qze A.camera (.slice sa2 (qz1u x y z u A h).1.slots.length sc2) (.slice ga2 (qz1u x y z u A h).1.guides.length gc2) (.slice na2 (qz1u x y z u A h).1.nodes.length nc2) (.slice ra2 (qz1u x y z u A h).1.vers.length rc2) (qz1u x y z u A h).2 d tk) _ (S3.out2 _ rfl) Try.underlying143 rfl (qz7 _ _ _ _ _ _ _ _)
theorem qz9i (base : Nat) (A : Ar) (h : Hd) (d : Dd) (tk : Bool) (me clock : Int) (s g n r : Value) (w : World) (hbase : base <= w.heap.size) (hA : A.size <= 1048576) (O : qz32 base w s g n r A) (x y z u : Int) (hOk : qz1i x y z u A = true) (R : qz9u A h me) (e : h.at_ = 6) :
  Calls Try.prog 102 #[.agg #[.int .i64 x, .int .i64 y, .int .i64 z, .int .i64 u], .agg (qze A.camera s g n r h d tk).toArray, .int .i64 me, .int .i64 clock] w fun e w' => ∃ s' g' n' r', e = .returned (.agg (qze (qz1y A h tk me) s' g' n' r' (qz14 x y z u A h d tk me clock).2.1 (qz14 x y z u A h d tk me clock).2.2.1 (qz14 x y z u A h d tk me clock).2.2.2).toArray) /\ qz25 base w w' s g n r s' g' n' r' (qz14 x y z u A h d tk me clock).1 := by
 have hA' := hA
 unfold Ar.size at hA
 obtain ⟨sa, sc, rfl⟩ := qzi O.rs
 obtain ⟨ga, gc, rfl⟩ := qzi O.rg
 obtain ⟨na, nc, rfl⟩ := qzi O.rn
 obtain ⟨ra, rc, rfl⟩ := qzi O.rr
 obtain ⟨S0, P0⟩ := qz1e base w (.slice sa A.slots.length sc) (.slice ga A.guides.length gc) (.slice na A.nodes.length nc) (.slice ra A.vers.length rc) A (qze A.camera (.slice sa A.slots.length sc) (.slice ga A.guides.length gc) (.slice na A.nodes.length nc) (.slice ra A.vers.length rc) h d tk) [.int .i64 0, .slice none 0 0, .slice none 0 0, .slice none 0 0, .slice none 0 0, .int .i64 0, .int .i64 0, .int .i64 0, .int .i64 0, .int .i64 0, .int .i64 0, .int .i64 0, .int .i64 0, .int .i64 0, .int .i64 0, .int .i64 0, .int .i64 0, .int .i64 0, .int .i64 0, .int .i64 0, .int .i64 0, .int .i64 0, .int .i64 0, .int .i64 0, .int .i64 0, .int .i64 0, .int .i64 0, .int .i64 0, .int .i64 0, .int .i64 0, .int .i64 0, .int .i64 0, .bool false] 143 25 x y z u O rfl rfl
 have hd : Hid ((qz14 x y z u A h d tk me clock) = ((qz1u x y z u A h).1, (qz1u x y z u A h).2, d, tk)) := by show _ = _; unfold qz14; rw [if_pos (by omega)]
 have hdc : Hid (qz1y A h tk me = A.camera) := by show _ = _; unfold qz1y; rw [if_neg (by omega)]
 have eH : Hid (h.at_ = 6) := e
 go_enter Try.func102, Try.ntmps102
 have tok : True := trivial
 go_wp2_with (clear tok; refine qz2r (((w.alloc (.cells #[.int .i64 x, .int .i64 y, .int .i64 z, .int .i64 u] 25)).alloc (.cells (qze A.camera (.slice sa A.slots.length sc) (.slice ga A.guides.length gc) (.slice na A.nodes.length nc) (.slice ra A.vers.length rc) h d tk).toArray 143)).alloc (.cells #[.int .i64 0, .slice none 0 0, .slice none 0 0, .slice none 0 0, .slice none 0 0, .int .i64 0, .int .i64 0, .int .i64 0, .int .i64 0, .int .i64 0, .int .i64 0, .int .i64 0, .int .i64 0, .int .i64 0, .int .i64 0, .int .i64 0, .int .i64 0, .int .i64 0, .int .i64 0, .int .i64 0, .int .i64 0, .int .i64 0, .int .i64 0, .int .i64 0, .int .i64 0, .int .i64 0, .int .i64 0, .int .i64 0, .int .i64 0, .int .i64 0, .int .i64 0, .int .i64 0, .bool false] 143)) ?_)
 generalize hw0 : ((w.alloc (.cells #[.int .i64 x, .int .i64 y, .int .i64 z, .int .i64 u] 25)).alloc (.cells (qze A.camera (.slice sa A.slots.length sc) (.slice ga A.guides.length gc) (.slice na A.nodes.length nc) (.slice ra A.vers.length rc) h d tk).toArray 143)).alloc (.cells #[.int .i64 0, .slice none 0 0, .slice none 0 0, .slice none 0 0, .slice none 0 0, .int .i64 0, .int .i64 0, .int .i64 0, .int .i64 0, .int .i64 0, .int .i64 0, .int .i64 0, .int .i64 0, .int .i64 0, .int .i64 0, .int .i64 0, .int .i64 0, .int .i64 0, .int .i64 0, .int .i64 0, .int .i64 0, .int .i64 0, .int .i64 0, .int .i64 0, .int .i64 0, .int .i64 0, .int .i64 0, .int .i64 0, .int .i64 0, .int .i64 0, .int .i64 0, .int .i64 0, .bool false] 143) = w0 at *
 clear hw0
 show wpList _ _ _ _ _ w0
 have q5 := S0.cell 5 rfl
 obtain ⟨p0, p1, p2, p3⟩ := id P0
 rw [e] at q5
 clear e
 go_wp2_with (first | (refine wpList_load_mid rfl 143 (.tmp 5) rfl (w.heap.size + 1) 0 ?lx (qze A.camera (.slice sa A.slots.length sc) (.slice ga A.guides.length gc) (.slice na A.nodes.length nc) (.slice ra A.vers.length rc) h d tk) _ ?lc Try.underlying143 rfl (qz7 _ _ _ _ _ _ _ _) ?_) | (go_at_call 106; refine (qz7n base A h d tk _ _ _ _ _ (Nat.le_trans hbase S0.but.size) hA' S0.own x y z u hOk R.p0 R.p1 R.c0 R.c1 R.r0 R.r1).mono ?_; rintro e w2 ⟨s2, g2, n2, r2, rfl, E⟩; have S3 := S0.swap E; clear E; obtain ⟨sa2, sc2, rfl⟩ := qzi S3.own.rs; obtain ⟨ga2, gc2, rfl⟩ := qzi S3.own.rg; obtain ⟨na2, nc2, rfl⟩ := qzi S3.own.rn; obtain ⟨ra2, rc2, rfl⟩ := qzi S3.own.rr) | (refine wpList_store_mid rfl 143 (.tmp 8) _ rfl (w.heap.size + 1 + 1) 0 (qze A.camera (.slice sa2 (qz1u x y z u A h).1.slots.length sc2) (.slice ga2 (qz1u x y z u A h).1.guides.length gc2) (.slice na2 (qz1u x y z u A h).1.nodes.length nc2) (.slice ra2 (qz1u x y z u A h).1.vers.length rc2) (qz1u x y z u A h).2 d tk).toArray ?dx ?dy ?dt (qzq _ _ _ _ _ _ _ _) (qz10 _ _ _ _ _ _ _ _ _ _ _ _ _ _ _ _) ?_))
 try (case lx => rfl)
 try (case lc => exact S0.row)
 try (case dx => rfl)
 try (case dy => rfl)
 try (case dt => exact S3.to)
 refine bodyPost_ret (v := .agg (qze A.camera (.slice sa2 (qz1u x y z u A h).1.slots.length sc2) (.slice ga2 (qz1u x y z u A h).1.guides.length gc2) (.slice na2 (qz1u x y z u A h).1.nodes.length nc2) (.slice ra2 (qz1u x y z u A h).1.vers.length rc2) (qz1u x y z u A h).2 d tk).toArray) ?_ rfl ⟨_, _, _, _, by rw [hd.out, hdc.out], by rw [hd.out]; exact S3.fin2 _⟩
 exact qz4 Try.results102 _ _ (w.heap.size + 1 + 1) 0 rfl (qze A.camera (.slice sa2 (qz1u x y z u A h).1.slots.length sc2) (.slice ga2 (qz1u x y z u A h).1.guides.length gc2) (.slice na2 (qz1u x y z u A h).1.nodes.length nc2) (.slice ra2 (qz1u x y z u A h).1.vers.length rc2) (qz1u x y z u A h).2 d tk) _ (S3.out2 _ rfl) Try.underlying143 rfl (qz7 _ _ _ _ _ _ _ _)
theorem qz9a (base : Nat) (A : Ar) (h : Hd) (d : Dd) (tk : Bool) (me clock : Int) (s g n r : Value) (w : World) (hbase : base <= w.heap.size) (hA : A.size <= 1048576) (O : qz32 base w s g n r A) (x y z u : Int) (hOk : qz1i x y z u A = true) (R : qz9u A h me) (e : 2 <= h.at_ /\ h.at_ <= 5) :
  Calls Try.prog 102 #[.agg #[.int .i64 x, .int .i64 y, .int .i64 z, .int .i64 u], .agg (qze A.camera s g n r h d tk).toArray, .int .i64 me, .int .i64 clock] w fun e w' => ∃ s' g' n' r', e = .returned (.agg (qze (qz1y A h tk me) s' g' n' r' (qz14 x y z u A h d tk me clock).2.1 (qz14 x y z u A h d tk me clock).2.2.1 (qz14 x y z u A h d tk me clock).2.2.2).toArray) /\ qz25 base w w' s g n r s' g' n' r' (qz14 x y z u A h d tk me clock).1 := by
 have hA' := hA
 unfold Ar.size at hA
 obtain ⟨sa, sc, rfl⟩ := qzi O.rs
 obtain ⟨ga, gc, rfl⟩ := qzi O.rg
 obtain ⟨na, nc, rfl⟩ := qzi O.rn
 obtain ⟨ra, rc, rfl⟩ := qzi O.rr
 obtain ⟨S0, P0⟩ := qz1e base w (.slice sa A.slots.length sc) (.slice ga A.guides.length gc) (.slice na A.nodes.length nc) (.slice ra A.vers.length rc) A (qze A.camera (.slice sa A.slots.length sc) (.slice ga A.guides.length gc) (.slice na A.nodes.length nc) (.slice ra A.vers.length rc) h d tk) [.int .i64 0, .slice none 0 0, .slice none 0 0, .slice none 0 0, .slice none 0 0, .int .i64 0, .int .i64 0, .int .i64 0, .int .i64 0, .int .i64 0, .int .i64 0, .int .i64 0, .int .i64 0, .int .i64 0, .int .i64 0, .int .i64 0, .int .i64 0, .int .i64 0, .int .i64 0, .int .i64 0, .int .i64 0, .int .i64 0, .int .i64 0, .int .i64 0, .int .i64 0, .int .i64 0, .int .i64 0, .int .i64 0, .int .i64 0, .int .i64 0, .int .i64 0, .int .i64 0, .bool false] 143 25 x y z u O rfl rfl
 have hd : Hid ((qz14 x y z u A h d tk me clock) = ((qz1z A h d clock).1, (qz1z A h d clock).2.1, (qz1z A h d clock).2.2, tk)) := by show _ = _; unfold qz14; rw [if_neg (by omega), if_pos (by omega)]
 have hdc : Hid (qz1y A h tk me = A.camera) := by show _ = _; unfold qz1y; rw [if_neg (by omega)]
 have eH : Hid (2 <= h.at_ /\ h.at_ <= 5) := e
 go_enter Try.func102, Try.ntmps102
 have tok : True := trivial
 go_wp2_with (clear tok; refine qz2r (((w.alloc (.cells #[.int .i64 x, .int .i64 y, .int .i64 z, .int .i64 u] 25)).alloc (.cells (qze A.camera (.slice sa A.slots.length sc) (.slice ga A.guides.length gc) (.slice na A.nodes.length nc) (.slice ra A.vers.length rc) h d tk).toArray 143)).alloc (.cells #[.int .i64 0, .slice none 0 0, .slice none 0 0, .slice none 0 0, .slice none 0 0, .int .i64 0, .int .i64 0, .int .i64 0, .int .i64 0, .int .i64 0, .int .i64 0, .int .i64 0, .int .i64 0, .int .i64 0, .int .i64 0, .int .i64 0, .int .i64 0, .int .i64 0, .int .i64 0, .int .i64 0, .int .i64 0, .int .i64 0, .int .i64 0, .int .i64 0, .int .i64 0, .int .i64 0, .int .i64 0, .int .i64 0, .int .i64 0, .int .i64 0, .int .i64 0, .int .i64 0, .bool false] 143)) ?_)
 generalize hw0 : ((w.alloc (.cells #[.int .i64 x, .int .i64 y, .int .i64 z, .int .i64 u] 25)).alloc (.cells (qze A.camera (.slice sa A.slots.length sc) (.slice ga A.guides.length gc) (.slice na A.nodes.length nc) (.slice ra A.vers.length rc) h d tk).toArray 143)).alloc (.cells #[.int .i64 0, .slice none 0 0, .slice none 0 0, .slice none 0 0, .slice none 0 0, .int .i64 0, .int .i64 0, .int .i64 0, .int .i64 0, .int .i64 0, .int .i64 0, .int .i64 0, .int .i64 0, .int .i64 0, .int .i64 0, .int .i64 0, .int .i64 0, .int .i64 0, .int .i64 0, .int .i64 0, .int .i64 0, .int .i64 0, .int .i64 0, .int .i64 0, .int .i64 0, .int .i64 0, .int .i64 0, .int .i64 0, .int .i64 0, .int .i64 0, .int .i64 0, .int .i64 0, .bool false] 143) = w0 at *
 clear hw0
 show wpList _ _ _ _ _ w0
 have q5 := S0.cell 5 rfl
 obtain ⟨p0, p1, p2, p3⟩ := id P0
 have b1 : (h.at_ == 1) = false := by simp; omega
 have b6 : (h.at_ == 6) = false := by simp; omega
 have c5 : h.at_ <= 5 := by omega
 clear e
 go_wp2_with (first | (refine wpList_load_mid rfl 143 (.tmp 5) rfl (w.heap.size + 1) 0 ?lx (qze A.camera (.slice sa A.slots.length sc) (.slice ga A.guides.length gc) (.slice na A.nodes.length nc) (.slice ra A.vers.length rc) h d tk) _ ?lc Try.underlying143 rfl (qz7 _ _ _ _ _ _ _ _) ?_) | (go_at_call 107; refine (qzae base A h d tk clock _ _ _ _ _ (Nat.le_trans hbase S0.but.size) hA' S0.own x y z u hOk R.v0 R.v1 R.x0 R.x1 R.u1 R.o0 R.o1 R.s0 R.s1 R.cm).mono ?_; rintro e w2 ⟨s2, g2, n2, r2, rfl, E⟩; have S3 := S0.swap E; clear E; obtain ⟨sa2, sc2, rfl⟩ := qzi S3.own.rs; obtain ⟨ga2, gc2, rfl⟩ := qzi S3.own.rg; obtain ⟨na2, nc2, rfl⟩ := qzi S3.own.rn; obtain ⟨ra2, rc2, rfl⟩ := qzi S3.own.rr) | (refine wpList_store_mid rfl 143 (.tmp 8) _ rfl (w.heap.size + 1 + 1) 0 (qze A.camera (.slice sa2 (qz1z A h d clock).1.slots.length sc2) (.slice ga2 (qz1z A h d clock).1.guides.length gc2) (.slice na2 (qz1z A h d clock).1.nodes.length nc2) (.slice ra2 (qz1z A h d clock).1.vers.length rc2) (qz1z A h d clock).2.1 (qz1z A h d clock).2.2 tk).toArray ?dx ?dy ?dt (qzq _ _ _ _ _ _ _ _) (qz10 _ _ _ _ _ _ _ _ _ _ _ _ _ _ _ _) ?_))
 try (case lx => rfl)
 try (case lc => exact S0.row)
 try (case dx => rfl)
 try (case dy => rfl)
 try (case dt => exact S3.to)
 refine bodyPost_ret (v := .agg (qze A.camera (.slice sa2 (qz1z A h d clock).1.slots.length sc2) (.slice ga2 (qz1z A h d clock).1.guides.length gc2) (.slice na2 (qz1z A h d clock).1.nodes.length nc2) (.slice ra2 (qz1z A h d clock).1.vers.length rc2) (qz1z A h d clock).2.1 (qz1z A h d clock).2.2 tk).toArray) ?_ rfl ⟨_, _, _, _, by rw [hd.out, hdc.out], by rw [hd.out]; exact S3.fin2 _⟩
 exact qz4 Try.results102 _ _ (w.heap.size + 1 + 1) 0 rfl (qze A.camera (.slice sa2 (qz1z A h d clock).1.slots.length sc2) (.slice ga2 (qz1z A h d clock).1.guides.length gc2) (.slice na2 (qz1z A h d clock).1.nodes.length nc2) (.slice ra2 (qz1z A h d clock).1.vers.length rc2) (qz1z A h d clock).2.1 (qz1z A h d clock).2.2 tk) _ (S3.out2 _ rfl) Try.underlying143 rfl (qz7 _ _ _ _ _ _ _ _)
theorem qz9o (base : Nat) (A : Ar) (h : Hd) (d : Dd) (tk : Bool) (me clock : Int) (s g n r : Value) (w : World) (hbase : base <= w.heap.size) (hA : A.size <= 1048576) (O : qz32 base w s g n r A) (x y z u : Int) (hOk : qz1i x y z u A = true) (R : qz9u A h me) (e : 7 <= h.at_ /\ h.at_ <= 12) :
  Calls Try.prog 102 #[.agg #[.int .i64 x, .int .i64 y, .int .i64 z, .int .i64 u], .agg (qze A.camera s g n r h d tk).toArray, .int .i64 me, .int .i64 clock] w fun e w' => ∃ s' g' n' r', e = .returned (.agg (qze (qz1y A h tk me) s' g' n' r' (qz14 x y z u A h d tk me clock).2.1 (qz14 x y z u A h d tk me clock).2.2.1 (qz14 x y z u A h d tk me clock).2.2.2).toArray) /\ qz25 base w w' s g n r s' g' n' r' (qz14 x y z u A h d tk me clock).1 := by
 have hA' := hA
 unfold Ar.size at hA
 obtain ⟨sa, sc, rfl⟩ := qzi O.rs
 obtain ⟨ga, gc, rfl⟩ := qzi O.rg
 obtain ⟨na, nc, rfl⟩ := qzi O.rn
 obtain ⟨ra, rc, rfl⟩ := qzi O.rr
 obtain ⟨S0, P0⟩ := qz1e base w (.slice sa A.slots.length sc) (.slice ga A.guides.length gc) (.slice na A.nodes.length nc) (.slice ra A.vers.length rc) A (qze A.camera (.slice sa A.slots.length sc) (.slice ga A.guides.length gc) (.slice na A.nodes.length nc) (.slice ra A.vers.length rc) h d tk) [.int .i64 0, .slice none 0 0, .slice none 0 0, .slice none 0 0, .slice none 0 0, .int .i64 0, .int .i64 0, .int .i64 0, .int .i64 0, .int .i64 0, .int .i64 0, .int .i64 0, .int .i64 0, .int .i64 0, .int .i64 0, .int .i64 0, .int .i64 0, .int .i64 0, .int .i64 0, .int .i64 0, .int .i64 0, .int .i64 0, .int .i64 0, .int .i64 0, .int .i64 0, .int .i64 0, .int .i64 0, .int .i64 0, .int .i64 0, .int .i64 0, .int .i64 0, .int .i64 0, .bool false] 143 25 x y z u O rfl rfl
 have hd : Hid ((qz14 x y z u A h d tk me clock) = ((qzw x y z u A h).1, (qzw x y z u A h).2, d, tk)) := by show _ = _; unfold qz14; rw [if_neg (by omega), if_neg (by omega), if_pos (by omega)]
 have hdc : Hid (qz1y A h tk me = A.camera) := by show _ = _; unfold qz1y; rw [if_neg (by omega)]
 have eH : Hid (7 <= h.at_ /\ h.at_ <= 12) := e
 go_enter Try.func102, Try.ntmps102
 have tok : True := trivial
 go_wp2_with (clear tok; refine qz2r (((w.alloc (.cells #[.int .i64 x, .int .i64 y, .int .i64 z, .int .i64 u] 25)).alloc (.cells (qze A.camera (.slice sa A.slots.length sc) (.slice ga A.guides.length gc) (.slice na A.nodes.length nc) (.slice ra A.vers.length rc) h d tk).toArray 143)).alloc (.cells #[.int .i64 0, .slice none 0 0, .slice none 0 0, .slice none 0 0, .slice none 0 0, .int .i64 0, .int .i64 0, .int .i64 0, .int .i64 0, .int .i64 0, .int .i64 0, .int .i64 0, .int .i64 0, .int .i64 0, .int .i64 0, .int .i64 0, .int .i64 0, .int .i64 0, .int .i64 0, .int .i64 0, .int .i64 0, .int .i64 0, .int .i64 0, .int .i64 0, .int .i64 0, .int .i64 0, .int .i64 0, .int .i64 0, .int .i64 0, .int .i64 0, .int .i64 0, .int .i64 0, .bool false] 143)) ?_)
 generalize hw0 : ((w.alloc (.cells #[.int .i64 x, .int .i64 y, .int .i64 z, .int .i64 u] 25)).alloc (.cells (qze A.camera (.slice sa A.slots.length sc) (.slice ga A.guides.length gc) (.slice na A.nodes.length nc) (.slice ra A.vers.length rc) h d tk).toArray 143)).alloc (.cells #[.int .i64 0, .slice none 0 0, .slice none 0 0, .slice none 0 0, .slice none 0 0, .int .i64 0, .int .i64 0, .int .i64 0, .int .i64 0, .int .i64 0, .int .i64 0, .int .i64 0, .int .i64 0, .int .i64 0, .int .i64 0, .int .i64 0, .int .i64 0, .int .i64 0, .int .i64 0, .int .i64 0, .int .i64 0, .int .i64 0, .int .i64 0, .int .i64 0, .int .i64 0, .int .i64 0, .int .i64 0, .int .i64 0, .int .i64 0, .int .i64 0, .int .i64 0, .int .i64 0, .bool false] 143) = w0 at *
 clear hw0
 show wpList _ _ _ _ _ w0
 have q5 := S0.cell 5 rfl
 obtain ⟨p0, p1, p2, p3⟩ := id P0
 have b1 : (h.at_ == 1) = false := by simp; omega
 have b6 : (h.at_ == 6) = false := by simp; omega
 have c5 : ¬ (h.at_ <= 5) := by omega
 have c12 : h.at_ <= 12 := by omega
 clear e
 go_wp2_with (first | (refine wpList_load_mid rfl 143 (.tmp 5) rfl (w.heap.size + 1) 0 ?lx (qze A.camera (.slice sa A.slots.length sc) (.slice ga A.guides.length gc) (.slice na A.nodes.length nc) (.slice ra A.vers.length rc) h d tk) _ ?lc Try.underlying143 rfl (qz7 _ _ _ _ _ _ _ _) ?_) | (go_at_call 108; refine (qz7p base A h d tk _ _ _ _ _ (Nat.le_trans hbase S0.but.size) hA' S0.own x y z u hOk (by have := eH.out; omega) (by have := eH.out; omega) R.p0 R.p1 R.u1 R.c0 R.c1 R.n1).mono ?_; rintro e w2 ⟨s2, g2, n2, r2, rfl, E⟩; have S3 := S0.swap E; clear E; obtain ⟨sa2, sc2, rfl⟩ := qzi S3.own.rs; obtain ⟨ga2, gc2, rfl⟩ := qzi S3.own.rg; obtain ⟨na2, nc2, rfl⟩ := qzi S3.own.rn; obtain ⟨ra2, rc2, rfl⟩ := qzi S3.own.rr) | (refine wpList_store_mid rfl 143 (.tmp 8) _ rfl (w.heap.size + 1 + 1) 0 (qze A.camera (.slice sa2 (qzw x y z u A h).1.slots.length sc2) (.slice ga2 (qzw x y z u A h).1.guides.length gc2) (.slice na2 (qzw x y z u A h).1.nodes.length nc2) (.slice ra2 (qzw x y z u A h).1.vers.length rc2) (qzw x y z u A h).2 d tk).toArray ?dx ?dy ?dt (qzq _ _ _ _ _ _ _ _) (qz10 _ _ _ _ _ _ _ _ _ _ _ _ _ _ _ _) ?_))
 try (case lx => rfl)
 try (case lc => exact S0.row)
 try (case dx => rfl)
 try (case dy => rfl)
 try (case dt => exact S3.to)
 refine bodyPost_ret (v := .agg (qze A.camera (.slice sa2 (qzw x y z u A h).1.slots.length sc2) (.slice ga2 (qzw x y z u A h).1.guides.length gc2) (.slice na2 (qzw x y z u A h).1.nodes.length nc2) (.slice ra2 (qzw x y z u A h).1.vers.length rc2) (qzw x y z u A h).2 d tk).toArray) ?_ rfl ⟨_, _, _, _, by rw [hd.out, hdc.out], by rw [hd.out]; exact S3.fin2 _⟩
 exact qz4 Try.results102 _ _ (w.heap.size + 1 + 1) 0 rfl (qze A.camera (.slice sa2 (qzw x y z u A h).1.slots.length sc2) (.slice ga2 (qzw x y z u A h).1.guides.length gc2) (.slice na2 (qzw x y z u A h).1.nodes.length nc2) (.slice ra2 (qzw x y z u A h).1.vers.length rc2) (qzw x y z u A h).2 d tk) _ (S3.out2 _ rfl) Try.underlying143 rfl (qz7 _ _ _ _ _ _ _ _)
theorem qz8g (base : Nat) (A : Ar) (h : Hd) (d : Dd) (tk : Bool) (me clock : Int) (s g n r : Value) (w : World) (hbase : base <= w.heap.size) (hA : A.size <= 1048576) (O : qz32 base w s g n r A) (x y z u : Int) (hOk : qz1i x y z u A = true) (R : qz9u A h me) (e : 13 <= h.at_ /\ h.at_ <= 18) :
  Calls Try.prog 102 #[.agg #[.int .i64 x, .int .i64 y, .int .i64 z, .int .i64 u], .agg (qze A.camera s g n r h d tk).toArray, .int .i64 me, .int .i64 clock] w fun e w' => ∃ s' g' n' r', e = .returned (.agg (qze (qz1y A h tk me) s' g' n' r' (qz14 x y z u A h d tk me clock).2.1 (qz14 x y z u A h d tk me clock).2.2.1 (qz14 x y z u A h d tk me clock).2.2.2).toArray) /\ qz25 base w w' s g n r s' g' n' r' (qz14 x y z u A h d tk me clock).1 := by
 have hA' := hA
 unfold Ar.size at hA
 obtain ⟨sa, sc, rfl⟩ := qzi O.rs
 obtain ⟨ga, gc, rfl⟩ := qzi O.rg
 obtain ⟨na, nc, rfl⟩ := qzi O.rn
 obtain ⟨ra, rc, rfl⟩ := qzi O.rr
 obtain ⟨S0, P0⟩ := qz1e base w (.slice sa A.slots.length sc) (.slice ga A.guides.length gc) (.slice na A.nodes.length nc) (.slice ra A.vers.length rc) A (qze A.camera (.slice sa A.slots.length sc) (.slice ga A.guides.length gc) (.slice na A.nodes.length nc) (.slice ra A.vers.length rc) h d tk) [.int .i64 0, .slice none 0 0, .slice none 0 0, .slice none 0 0, .slice none 0 0, .int .i64 0, .int .i64 0, .int .i64 0, .int .i64 0, .int .i64 0, .int .i64 0, .int .i64 0, .int .i64 0, .int .i64 0, .int .i64 0, .int .i64 0, .int .i64 0, .int .i64 0, .int .i64 0, .int .i64 0, .int .i64 0, .int .i64 0, .int .i64 0, .int .i64 0, .int .i64 0, .int .i64 0, .int .i64 0, .int .i64 0, .int .i64 0, .int .i64 0, .int .i64 0, .int .i64 0, .bool false] 143 25 x y z u O rfl rfl
 have hd : Hid ((qz14 x y z u A h d tk me clock) = ((qzl A h me tk).1, (qzl A h me tk).2.1, d, (qzl A h me tk).2.2)) := by show _ = _; unfold qz14; rw [if_neg (by omega), if_neg (by omega), if_neg (by omega), if_pos (by omega)]
 have hdc : Hid (qz1y A h tk me = (qzl A h me tk).1.camera) := by show _ = _; unfold qz1y; rw [if_pos (by omega)]
 have eH : Hid (13 <= h.at_ /\ h.at_ <= 18) := e
 go_enter Try.func102, Try.ntmps102
 have tok : True := trivial
 go_wp2_with (clear tok; refine qz2r (((w.alloc (.cells #[.int .i64 x, .int .i64 y, .int .i64 z, .int .i64 u] 25)).alloc (.cells (qze A.camera (.slice sa A.slots.length sc) (.slice ga A.guides.length gc) (.slice na A.nodes.length nc) (.slice ra A.vers.length rc) h d tk).toArray 143)).alloc (.cells #[.int .i64 0, .slice none 0 0, .slice none 0 0, .slice none 0 0, .slice none 0 0, .int .i64 0, .int .i64 0, .int .i64 0, .int .i64 0, .int .i64 0, .int .i64 0, .int .i64 0, .int .i64 0, .int .i64 0, .int .i64 0, .int .i64 0, .int .i64 0, .int .i64 0, .int .i64 0, .int .i64 0, .int .i64 0, .int .i64 0, .int .i64 0, .int .i64 0, .int .i64 0, .int .i64 0, .int .i64 0, .int .i64 0, .int .i64 0, .int .i64 0, .int .i64 0, .int .i64 0, .bool false] 143)) ?_)
 generalize hw0 : ((w.alloc (.cells #[.int .i64 x, .int .i64 y, .int .i64 z, .int .i64 u] 25)).alloc (.cells (qze A.camera (.slice sa A.slots.length sc) (.slice ga A.guides.length gc) (.slice na A.nodes.length nc) (.slice ra A.vers.length rc) h d tk).toArray 143)).alloc (.cells #[.int .i64 0, .slice none 0 0, .slice none 0 0, .slice none 0 0, .slice none 0 0, .int .i64 0, .int .i64 0, .int .i64 0, .int .i64 0, .int .i64 0, .int .i64 0, .int .i64 0, .int .i64 0, .int .i64 0, .int .i64 0, .int .i64 0, .int .i64 0, .int .i64 0, .int .i64 0, .int .i64 0, .int .i64 0, .int .i64 0, .int .i64 0, .int .i64 0, .int .i64 0, .int .i64 0, .int .i64 0, .int .i64 0, .int .i64 0, .int .i64 0, .int .i64 0, .int .i64 0, .bool false] 143) = w0 at *
 clear hw0
 show wpList _ _ _ _ _ w0
 have q5 := S0.cell 5 rfl
 obtain ⟨p0, p1, p2, p3⟩ := id P0
 have b1 : (h.at_ == 1) = false := by simp; omega
 have b6 : (h.at_ == 6) = false := by simp; omega
 have c5 : ¬ (h.at_ <= 5) := by omega
 have c12 : ¬ (h.at_ <= 12) := by omega
 have c18 : h.at_ <= 18 := by omega
 clear e
 go_wp2_with (first | (refine wpList_load_mid rfl 143 (.tmp 5) rfl (w.heap.size + 1) 0 ?lx (qze A.camera (.slice sa A.slots.length sc) (.slice ga A.guides.length gc) (.slice na A.nodes.length nc) (.slice ra A.vers.length rc) h d tk) _ ?lc Try.underlying143 rfl (qz7 _ _ _ _ _ _ _ _) ?_) | (go_at_call 109; refine (qz77 base A h d tk me _ _ _ _ _ (Nat.le_trans hbase S0.but.size) hA' S0.own R.m0 R.m1 R.k0 R.k1).mono ?_; rintro e w2 ⟨s2, g2, n2, r2, rfl, E⟩; have S3 := S0.swap E; clear E; obtain ⟨sa2, sc2, rfl⟩ := qzi S3.own.rs; obtain ⟨ga2, gc2, rfl⟩ := qzi S3.own.rg; obtain ⟨na2, nc2, rfl⟩ := qzi S3.own.rn; obtain ⟨ra2, rc2, rfl⟩ := qzi S3.own.rr) | (refine wpList_store_mid rfl 143 (.tmp 8) _ rfl (w.heap.size + 1 + 1) 0 (qze (qzl A h me tk).1.camera (.slice sa2 (qzl A h me tk).1.slots.length sc2) (.slice ga2 (qzl A h me tk).1.guides.length gc2) (.slice na2 (qzl A h me tk).1.nodes.length nc2) (.slice ra2 (qzl A h me tk).1.vers.length rc2) (qzl A h me tk).2.1 d (qzl A h me tk).2.2).toArray ?dx ?dy ?dt (qzq _ _ _ _ _ _ _ _) (qz10 _ _ _ _ _ _ _ _ _ _ _ _ _ _ _ _) ?_))
 try (case lx => rfl)
 try (case lc => exact S0.row)
 try (case dx => rfl)
 try (case dy => rfl)
 try (case dt => exact S3.to)
 refine bodyPost_ret (v := .agg (qze (qzl A h me tk).1.camera (.slice sa2 (qzl A h me tk).1.slots.length sc2) (.slice ga2 (qzl A h me tk).1.guides.length gc2) (.slice na2 (qzl A h me tk).1.nodes.length nc2) (.slice ra2 (qzl A h me tk).1.vers.length rc2) (qzl A h me tk).2.1 d (qzl A h me tk).2.2).toArray) ?_ rfl ⟨_, _, _, _, by rw [hd.out, hdc.out], by rw [hd.out]; exact S3.fin2 _⟩
 exact qz4 Try.results102 _ _ (w.heap.size + 1 + 1) 0 rfl (qze (qzl A h me tk).1.camera (.slice sa2 (qzl A h me tk).1.slots.length sc2) (.slice ga2 (qzl A h me tk).1.guides.length gc2) (.slice na2 (qzl A h me tk).1.nodes.length nc2) (.slice ra2 (qzl A h me tk).1.vers.length rc2) (qzl A h me tk).2.1 d (qzl A h me tk).2.2) _ (S3.out2 _ rfl) Try.underlying143 rfl (qz7 _ _ _ _ _ _ _ _)
theorem qz80 (base : Nat) (A : Ar) (h : Hd) (d : Dd) (tk : Bool) (me clock : Int) (s g n r : Value) (w : World) (hbase : base <= w.heap.size) (hA : A.size <= 1048576) (O : qz32 base w s g n r A) (x y z u : Int) (hOk : qz1i x y z u A = true) (R : qz9u A h me) (e : h.at_ = 19) :
  Calls Try.prog 102 #[.agg #[.int .i64 x, .int .i64 y, .int .i64 z, .int .i64 u], .agg (qze A.camera s g n r h d tk).toArray, .int .i64 me, .int .i64 clock] w fun e w' => ∃ s' g' n' r', e = .returned (.agg (qze (qz1y A h tk me) s' g' n' r' (qz14 x y z u A h d tk me clock).2.1 (qz14 x y z u A h d tk me clock).2.2.1 (qz14 x y z u A h d tk me clock).2.2.2).toArray) /\ qz25 base w w' s g n r s' g' n' r' (qz14 x y z u A h d tk me clock).1 := by
 have hA' := hA
 unfold Ar.size at hA
 obtain ⟨sa, sc, rfl⟩ := qzi O.rs
 obtain ⟨ga, gc, rfl⟩ := qzi O.rg
 obtain ⟨na, nc, rfl⟩ := qzi O.rn
 obtain ⟨ra, rc, rfl⟩ := qzi O.rr
 obtain ⟨S0, P0⟩ := qz1e base w (.slice sa A.slots.length sc) (.slice ga A.guides.length gc) (.slice na A.nodes.length nc) (.slice ra A.vers.length rc) A (qze A.camera (.slice sa A.slots.length sc) (.slice ga A.guides.length gc) (.slice na A.nodes.length nc) (.slice ra A.vers.length rc) h d tk) [.int .i64 0, .slice none 0 0, .slice none 0 0, .slice none 0 0, .slice none 0 0, .int .i64 0, .int .i64 0, .int .i64 0, .int .i64 0, .int .i64 0, .int .i64 0, .int .i64 0, .int .i64 0, .int .i64 0, .int .i64 0, .int .i64 0, .int .i64 0, .int .i64 0, .int .i64 0, .int .i64 0, .int .i64 0, .int .i64 0, .int .i64 0, .int .i64 0, .int .i64 0, .int .i64 0, .int .i64 0, .int .i64 0, .int .i64 0, .int .i64 0, .int .i64 0, .int .i64 0, .bool false] 143 25 x y z u O rfl rfl
 have hd : Hid ((qz14 x y z u A h d tk me clock) = (A, (qz84 A h), d, tk)) := by show _ = _; unfold qz14; rw [if_neg (by omega), if_neg (by omega), if_neg (by omega), if_neg (by omega), if_pos (by omega)]
 have hdc : Hid (qz1y A h tk me = A.camera) := by show _ = _; unfold qz1y; rw [if_neg (by omega)]
 have eH : Hid (h.at_ = 19) := e
 go_enter Try.func102, Try.ntmps102
 have tok : True := trivial
 go_wp2_with (clear tok; refine qz2r (((w.alloc (.cells #[.int .i64 x, .int .i64 y, .int .i64 z, .int .i64 u] 25)).alloc (.cells (qze A.camera (.slice sa A.slots.length sc) (.slice ga A.guides.length gc) (.slice na A.nodes.length nc) (.slice ra A.vers.length rc) h d tk).toArray 143)).alloc (.cells #[.int .i64 0, .slice none 0 0, .slice none 0 0, .slice none 0 0, .slice none 0 0, .int .i64 0, .int .i64 0, .int .i64 0, .int .i64 0, .int .i64 0, .int .i64 0, .int .i64 0, .int .i64 0, .int .i64 0, .int .i64 0, .int .i64 0, .int .i64 0, .int .i64 0, .int .i64 0, .int .i64 0, .int .i64 0, .int .i64 0, .int .i64 0, .int .i64 0, .int .i64 0, .int .i64 0, .int .i64 0, .int .i64 0, .int .i64 0, .int .i64 0, .int .i64 0, .int .i64 0, .bool false] 143)) ?_)
 generalize hw0 : ((w.alloc (.cells #[.int .i64 x, .int .i64 y, .int .i64 z, .int .i64 u] 25)).alloc (.cells (qze A.camera (.slice sa A.slots.length sc) (.slice ga A.guides.length gc) (.slice na A.nodes.length nc) (.slice ra A.vers.length rc) h d tk).toArray 143)).alloc (.cells #[.int .i64 0, .slice none 0 0, .slice none 0 0, .slice none 0 0, .slice none 0 0, .int .i64 0, .int .i64 0, .int .i64 0, .int .i64 0, .int .i64 0, .int .i64 0, .int .i64 0, .int .i64 0, .int .i64 0, .int .i64 0, .int .i64 0, .int .i64 0, .int .i64 0, .int .i64 0, .int .i64 0, .int .i64 0, .int .i64 0, .int .i64 0, .int .i64 0, .int .i64 0, .int .i64 0, .int .i64 0, .int .i64 0, .int .i64 0, .int .i64 0, .int .i64 0, .int .i64 0, .bool false] 143) = w0 at *
 clear hw0
 show wpList _ _ _ _ _ w0
 have q5 := S0.cell 5 rfl
 obtain ⟨p0, p1, p2, p3⟩ := id P0
 rw [e] at q5
 clear e
 go_wp2_with (first | (refine wpList_load_mid rfl 143 (.tmp 5) rfl (w.heap.size + 1) 0 ?lx (qze A.camera (.slice sa A.slots.length sc) (.slice ga A.guides.length gc) (.slice na A.nodes.length nc) (.slice ra A.vers.length rc) h d tk) _ ?lc Try.underlying143 rfl (qz7 _ _ _ _ _ _ _ _) ?_) | (go_at_call 110; refine (qz91 w0.heap.size A h d tk _ _ _ _ _ _ _ _ _ (Nat.le_refl _) hA' S0.is x y z u hOk R.v0 R.v1 R.x0 R.x1 R.o0 R.o1 R.s0 R.s1).mono ?_; rintro e w2 ⟨rfl, b2⟩; have S3 := S0.below b2; clear b2) | (refine wpList_store_mid rfl 143 (.tmp 8) _ rfl (w.heap.size + 1 + 1) 0 (qze A.camera (.slice sa A.slots.length sc) (.slice ga A.guides.length gc) (.slice na A.nodes.length nc) (.slice ra A.vers.length rc) (qz84 A h) d tk).toArray ?dx ?dy ?dt (qzq _ _ _ _ _ _ _ _) (qz10 _ _ _ _ _ _ _ _ _ _ _ _ _ _ _ _) ?_))
 try (case lx => rfl)
 try (case lc => exact S0.row)
 try (case dx => rfl)
 try (case dy => rfl)
 try (case dt => exact S3.to)
 refine bodyPost_ret (v := .agg (qze A.camera (.slice sa A.slots.length sc) (.slice ga A.guides.length gc) (.slice na A.nodes.length nc) (.slice ra A.vers.length rc) (qz84 A h) d tk).toArray) ?_ rfl ⟨_, _, _, _, by rw [hd.out, hdc.out], by rw [hd.out]; exact S3.fin2 _⟩
 exact qz4 Try.results102 _ _ (w.heap.size + 1 + 1) 0 rfl (qze A.camera (.slice sa A.slots.length sc) (.slice ga A.guides.length gc) (.slice na A.nodes.length nc) (.slice ra A.vers.length rc) (qz84 A h) d tk) _ (S3.out2 _ rfl) Try.underlying143 rfl (qz7 _ _ _ _ _ _ _ _)
theorem qz8d (base : Nat) (A : Ar) (h : Hd) (d : Dd) (tk : Bool) (me clock : Int) (s g n r : Value) (w : World) (hbase : base <= w.heap.size) (hA : A.size <= 1048576) (O : qz32 base w s g n r A) (x y z u : Int) (hOk : qz1i x y z u A = true) (R : qz9u A h me) (e : h.at_ = 21) :
  Calls Try.prog 102 #[.agg #[.int .i64 x, .int .i64 y, .int .i64 z, .int .i64 u], .agg (qze A.camera s g n r h d tk).toArray, .int .i64 me, .int .i64 clock] w fun e w' => ∃ s' g' n' r', e = .returned (.agg (qze (qz1y A h tk me) s' g' n' r' (qz14 x y z u A h d tk me clock).2.1 (qz14 x y z u A h d tk me clock).2.2.1 (qz14 x y z u A h d tk me clock).2.2.2).toArray) /\ qz25 base w w' s g n r s' g' n' r' (qz14 x y z u A h d tk me clock).1 := by
 have hA' := hA
 unfold Ar.size at hA
 obtain ⟨sa, sc, rfl⟩ := qzi O.rs
 obtain ⟨ga, gc, rfl⟩ := qzi O.rg
 obtain ⟨na, nc, rfl⟩ := qzi O.rn
 obtain ⟨ra, rc, rfl⟩ := qzi O.rr
 obtain ⟨S0, P0⟩ := qz1e base w (.slice sa A.slots.length sc) (.slice ga A.guides.length gc) (.slice na A.nodes.length nc) (.slice ra A.vers.length rc) A (qze A.camera (.slice sa A.slots.length sc) (.slice ga A.guides.length gc) (.slice na A.nodes.length nc) (.slice ra A.vers.length rc) h d tk) [.int .i64 0, .slice none 0 0, .slice none 0 0, .slice none 0 0, .slice none 0 0, .int .i64 0, .int .i64 0, .int .i64 0, .int .i64 0, .int .i64 0, .int .i64 0, .int .i64 0, .int .i64 0, .int .i64 0, .int .i64 0, .int .i64 0, .int .i64 0, .int .i64 0, .int .i64 0, .int .i64 0, .int .i64 0, .int .i64 0, .int .i64 0, .int .i64 0, .int .i64 0, .int .i64 0, .int .i64 0, .int .i64 0, .int .i64 0, .int .i64 0, .int .i64 0, .int .i64 0, .bool false] 143 25 x y z u O rfl rfl
 have hd : Hid ((qz14 x y z u A h d tk me clock) = (A, (qz6i A h), d, tk)) := by show _ = _; unfold qz14; rw [if_neg (by omega), if_neg (by omega), if_neg (by omega), if_neg (by omega), if_neg (by omega), if_pos (by omega)]
 have hdc : Hid (qz1y A h tk me = A.camera) := by show _ = _; unfold qz1y; rw [if_neg (by omega)]
 have eH : Hid (h.at_ = 21) := e
 go_enter Try.func102, Try.ntmps102
 have tok : True := trivial
 go_wp2_with (clear tok; refine qz2r (((w.alloc (.cells #[.int .i64 x, .int .i64 y, .int .i64 z, .int .i64 u] 25)).alloc (.cells (qze A.camera (.slice sa A.slots.length sc) (.slice ga A.guides.length gc) (.slice na A.nodes.length nc) (.slice ra A.vers.length rc) h d tk).toArray 143)).alloc (.cells #[.int .i64 0, .slice none 0 0, .slice none 0 0, .slice none 0 0, .slice none 0 0, .int .i64 0, .int .i64 0, .int .i64 0, .int .i64 0, .int .i64 0, .int .i64 0, .int .i64 0, .int .i64 0, .int .i64 0, .int .i64 0, .int .i64 0, .int .i64 0, .int .i64 0, .int .i64 0, .int .i64 0, .int .i64 0, .int .i64 0, .int .i64 0, .int .i64 0, .int .i64 0, .int .i64 0, .int .i64 0, .int .i64 0, .int .i64 0, .int .i64 0, .int .i64 0, .int .i64 0, .bool false] 143)) ?_)
 generalize hw0 : ((w.alloc (.cells #[.int .i64 x, .int .i64 y, .int .i64 z, .int .i64 u] 25)).alloc (.cells (qze A.camera (.slice sa A.slots.length sc) (.slice ga A.guides.length gc) (.slice na A.nodes.length nc) (.slice ra A.vers.length rc) h d tk).toArray 143)).alloc (.cells #[.int .i64 0, .slice none 0 0, .slice none 0 0, .slice none 0 0, .slice none 0 0, .int .i64 0, .int .i64 0, .int .i64 0, .int .i64 0, .int .i64 0, .int .i64 0, .int .i64 0, .int .i64 0, .int .i64 0, .int .i64 0, .int .i64 0, .int .i64 0, .int .i64 0, .int .i64 0, .int .i64 0, .int .i64 0, .int .i64 0, .int .i64 0, .int .i64 0, .int .i64 0, .int .i64 0, .int .i64 0, .int .i64 0, .int .i64 0, .int .i64 0, .int .i64 0, .int .i64 0, .bool false] 143) = w0 at *
 clear hw0
 show wpList _ _ _ _ _ w0
 have q5 := S0.cell 5 rfl
 obtain ⟨p0, p1, p2, p3⟩ := id P0
 rw [e] at q5
 clear e
 go_wp2_with (first | (refine wpList_load_mid rfl 143 (.tmp 5) rfl (w.heap.size + 1) 0 ?lx (qze A.camera (.slice sa A.slots.length sc) (.slice ga A.guides.length gc) (.slice na A.nodes.length nc) (.slice ra A.vers.length rc) h d tk) _ ?lc Try.underlying143 rfl (qz7 _ _ _ _ _ _ _ _) ?_) | (go_at_call 111; refine (qz9b base A h d tk _ _ _ _ _ (Nat.le_trans hbase S0.but.size) hA' S0.own x y z u hOk R.v0 R.v1 R.x0 R.x1 R.o0 R.o1 eH.out R.i0 R.i1).mono ?_; rintro e w2 ⟨s2, g2, n2, r2, rfl, E⟩; have S3 := S0.swap E; clear E; obtain ⟨sa2, sc2, rfl⟩ := qzi S3.own.rs; obtain ⟨ga2, gc2, rfl⟩ := qzi S3.own.rg; obtain ⟨na2, nc2, rfl⟩ := qzi S3.own.rn; obtain ⟨ra2, rc2, rfl⟩ := qzi S3.own.rr) | (refine wpList_store_mid rfl 143 (.tmp 8) _ rfl (w.heap.size + 1 + 1) 0 (qze A.camera (.slice sa2 A.slots.length sc2) (.slice ga2 A.guides.length gc2) (.slice na2 A.nodes.length nc2) (.slice ra2 A.vers.length rc2) (qz6i A h) d tk).toArray ?dx ?dy ?dt (qzq _ _ _ _ _ _ _ _) (qz10 _ _ _ _ _ _ _ _ _ _ _ _ _ _ _ _) ?_))
 try (case lx => rfl)
 try (case lc => exact S0.row)
 try (case dx => rfl)
 try (case dy => rfl)
 try (case dt => exact S3.to)
 refine bodyPost_ret (v := .agg (qze A.camera (.slice sa2 A.slots.length sc2) (.slice ga2 A.guides.length gc2) (.slice na2 A.nodes.length nc2) (.slice ra2 A.vers.length rc2) (qz6i A h) d tk).toArray) ?_ rfl ⟨_, _, _, _, by rw [hd.out, hdc.out], by rw [hd.out]; exact S3.fin2 _⟩
 exact qz4 Try.results102 _ _ (w.heap.size + 1 + 1) 0 rfl (qze A.camera (.slice sa2 A.slots.length sc2) (.slice ga2 A.guides.length gc2) (.slice na2 A.nodes.length nc2) (.slice ra2 A.vers.length rc2) (qz6i A h) d tk) _ (S3.out2 _ rfl) Try.underlying143 rfl (qz7 _ _ _ _ _ _ _ _)
theorem qz8a (base : Nat) (A : Ar) (h : Hd) (d : Dd) (tk : Bool) (me clock : Int) (s g n r : Value) (w : World) (hbase : base <= w.heap.size) (hA : A.size <= 1048576) (O : qz32 base w s g n r A) (x y z u : Int) (hOk : qz1i x y z u A = true) (R : qz9u A h me) (e : 20 <= h.at_ /\ h.at_ ≠ 21) :
  Calls Try.prog 102 #[.agg #[.int .i64 x, .int .i64 y, .int .i64 z, .int .i64 u], .agg (qze A.camera s g n r h d tk).toArray, .int .i64 me, .int .i64 clock] w fun e w' => ∃ s' g' n' r', e = .returned (.agg (qze (qz1y A h tk me) s' g' n' r' (qz14 x y z u A h d tk me clock).2.1 (qz14 x y z u A h d tk me clock).2.2.1 (qz14 x y z u A h d tk me clock).2.2.2).toArray) /\ qz25 base w w' s g n r s' g' n' r' (qz14 x y z u A h d tk me clock).1 := by
 have hA' := hA
 unfold Ar.size at hA
 obtain ⟨sa, sc, rfl⟩ := qzi O.rs
 obtain ⟨ga, gc, rfl⟩ := qzi O.rg
 obtain ⟨na, nc, rfl⟩ := qzi O.rn
 obtain ⟨ra, rc, rfl⟩ := qzi O.rr
 obtain ⟨S0, P0⟩ := qz1e base w (.slice sa A.slots.length sc) (.slice ga A.guides.length gc) (.slice na A.nodes.length nc) (.slice ra A.vers.length rc) A (qze A.camera (.slice sa A.slots.length sc) (.slice ga A.guides.length gc) (.slice na A.nodes.length nc) (.slice ra A.vers.length rc) h d tk) [.int .i64 0, .slice none 0 0, .slice none 0 0, .slice none 0 0, .slice none 0 0, .int .i64 0, .int .i64 0, .int .i64 0, .int .i64 0, .int .i64 0, .int .i64 0, .int .i64 0, .int .i64 0, .int .i64 0, .int .i64 0, .int .i64 0, .int .i64 0, .int .i64 0, .int .i64 0, .int .i64 0, .int .i64 0, .int .i64 0, .int .i64 0, .int .i64 0, .int .i64 0, .int .i64 0, .int .i64 0, .int .i64 0, .int .i64 0, .int .i64 0, .int .i64 0, .int .i64 0, .bool false] 143 25 x y z u O rfl rfl
 have hd : Hid ((qz14 x y z u A h d tk me clock) = ((qz3v A h).1, (qz3v A h).2, d, tk)) := by show _ = _; unfold qz14; rw [if_neg (by omega), if_neg (by omega), if_neg (by omega), if_neg (by omega), if_neg (by omega), if_neg (by omega)]
 have hdc : Hid (qz1y A h tk me = A.camera) := by show _ = _; unfold qz1y; rw [if_neg (by omega)]
 have eH : Hid (20 <= h.at_ /\ h.at_ ≠ 21) := e
 go_enter Try.func102, Try.ntmps102
 have tok : True := trivial
 go_wp2_with (clear tok; refine qz2r (((w.alloc (.cells #[.int .i64 x, .int .i64 y, .int .i64 z, .int .i64 u] 25)).alloc (.cells (qze A.camera (.slice sa A.slots.length sc) (.slice ga A.guides.length gc) (.slice na A.nodes.length nc) (.slice ra A.vers.length rc) h d tk).toArray 143)).alloc (.cells #[.int .i64 0, .slice none 0 0, .slice none 0 0, .slice none 0 0, .slice none 0 0, .int .i64 0, .int .i64 0, .int .i64 0, .int .i64 0, .int .i64 0, .int .i64 0, .int .i64 0, .int .i64 0, .int .i64 0, .int .i64 0, .int .i64 0, .int .i64 0, .int .i64 0, .int .i64 0, .int .i64 0, .int .i64 0, .int .i64 0, .int .i64 0, .int .i64 0, .int .i64 0, .int .i64 0, .int .i64 0, .int .i64 0, .int .i64 0, .int .i64 0, .int .i64 0, .int .i64 0, .bool false] 143)) ?_)
 generalize hw0 : ((w.alloc (.cells #[.int .i64 x, .int .i64 y, .int .i64 z, .int .i64 u] 25)).alloc (.cells (qze A.camera (.slice sa A.slots.length sc) (.slice ga A.guides.length gc) (.slice na A.nodes.length nc) (.slice ra A.vers.length rc) h d tk).toArray 143)).alloc (.cells #[.int .i64 0, .slice none 0 0, .slice none 0 0, .slice none 0 0, .slice none 0 0, .int .i64 0, .int .i64 0, .int .i64 0, .int .i64 0, .int .i64 0, .int .i64 0, .int .i64 0, .int .i64 0, .int .i64 0, .int .i64 0, .int .i64 0, .int .i64 0, .int .i64 0, .int .i64 0, .int .i64 0, .int .i64 0, .int .i64 0, .int .i64 0, .int .i64 0, .int .i64 0, .int .i64 0, .int .i64 0, .int .i64 0, .int .i64 0, .int .i64 0, .int .i64 0, .int .i64 0, .bool false] 143) = w0 at *
 clear hw0
 show wpList _ _ _ _ _ w0
 have q5 := S0.cell 5 rfl
 obtain ⟨p0, p1, p2, p3⟩ := id P0
 have b1 : (h.at_ == 1) = false := by simp; omega
 have b6 : (h.at_ == 6) = false := by simp; omega
 have c5 : ¬ (h.at_ <= 5) := by omega
 have c12 : ¬ (h.at_ <= 12) := by omega
 have c18 : ¬ (h.at_ <= 18) := by omega
 have b19 : (h.at_ == 19) = false := by simp; omega
 clear e
 go_wp2_with (first | (refine wpList_load_mid rfl 143 (.tmp 5) rfl (w.heap.size + 1) 0 ?lx (qze A.camera (.slice sa A.slots.length sc) (.slice ga A.guides.length gc) (.slice na A.nodes.length nc) (.slice ra A.vers.length rc) h d tk) _ ?lc Try.underlying143 rfl (qz7 _ _ _ _ _ _ _ _) ?_) | (go_at_call 111; refine (qz9k base A h d tk _ _ _ _ _ (Nat.le_trans hbase S0.but.size) hA' S0.own x y z u hOk R.v0 R.v1 R.x0 R.x1 R.o0 R.o1 (by have := eH.out; omega)).mono ?_; rintro e w2 ⟨s2, g2, n2, r2, rfl, E⟩; have S3 := S0.swap E; clear E; obtain ⟨sa2, sc2, rfl⟩ := qzi S3.own.rs; obtain ⟨ga2, gc2, rfl⟩ := qzi S3.own.rg; obtain ⟨na2, nc2, rfl⟩ := qzi S3.own.rn; obtain ⟨ra2, rc2, rfl⟩ := qzi S3.own.rr) | (refine wpList_store_mid rfl 143 (.tmp 8) _ rfl (w.heap.size + 1 + 1) 0 (qze A.camera (.slice sa2 (qz3v A h).1.slots.length sc2) (.slice ga2 (qz3v A h).1.guides.length gc2) (.slice na2 (qz3v A h).1.nodes.length nc2) (.slice ra2 (qz3v A h).1.vers.length rc2) (qz3v A h).2 d tk).toArray ?dx ?dy ?dt (qzq _ _ _ _ _ _ _ _) (qz10 _ _ _ _ _ _ _ _ _ _ _ _ _ _ _ _) ?_))
 try (case lx => rfl)
 try (case lc => exact S0.row)
 try (case dx => rfl)
 try (case dy => rfl)
 try (case dt => exact S3.to)
 refine bodyPost_ret (v := .agg (qze A.camera (.slice sa2 (qz3v A h).1.slots.length sc2) (.slice ga2 (qz3v A h).1.guides.length gc2) (.slice na2 (qz3v A h).1.nodes.length nc2) (.slice ra2 (qz3v A h).1.vers.length rc2) (qz3v A h).2 d tk).toArray) ?_ rfl ⟨_, _, _, _, by rw [hd.out, hdc.out], by rw [hd.out]; exact S3.fin2 _⟩
 exact qz4 Try.results102 _ _ (w.heap.size + 1 + 1) 0 rfl (qze A.camera (.slice sa2 (qz3v A h).1.slots.length sc2) (.slice ga2 (qz3v A h).1.guides.length gc2) (.slice na2 (qz3v A h).1.nodes.length nc2) (.slice ra2 (qz3v A h).1.vers.length rc2) (qz3v A h).2 d tk) _ (S3.out2 _ rfl) Try.underlying143 rfl (qz7 _ _ _ _ _ _ _ _)
theorem qz9m (base : Nat) (A : Ar) (h : Hd) (d : Dd) (tk : Bool) (me clock : Int) (s g n r : Value) (w : World) (hbase : base <= w.heap.size) (hA : A.size <= 1048576) (O : qz32 base w s g n r A) (x y z u : Int) (hOk : qz1i x y z u A = true) (R : qz9u A h me) (h1 : 1 <= h.at_) (h23 : h.at_ <= 23) :
  Calls Try.prog 102 #[.agg #[.int .i64 x, .int .i64 y, .int .i64 z, .int .i64 u], .agg (qze A.camera s g n r h d tk).toArray, .int .i64 me, .int .i64 clock] w fun e w' => ∃ s' g' n' r', e = .returned (.agg (qze (qz1y A h tk me) s' g' n' r' (qz14 x y z u A h d tk me clock).2.1 (qz14 x y z u A h d tk me clock).2.2.1 (qz14 x y z u A h d tk me clock).2.2.2).toArray) /\ qz25 base w w' s g n r s' g' n' r' (qz14 x y z u A h d tk me clock).1 := by
 rcases (show h.at_ = 1 ∨ h.at_ = 6 ∨ (2 <= h.at_ /\ h.at_ <= 5) ∨ (7 <= h.at_ /\ h.at_ <= 12) ∨ (13 <= h.at_ /\ h.at_ <= 18) ∨ h.at_ = 19 ∨ h.at_ = 21 ∨ (20 <= h.at_ /\ h.at_ ≠ 21) by omega) with e | e | e | e | e | e | e | e
 ·exact qz9h base A h d tk me clock s g n r w hbase hA O x y z u hOk R e
 ·exact qz9i base A h d tk me clock s g n r w hbase hA O x y z u hOk R e
 ·exact qz9a base A h d tk me clock s g n r w hbase hA O x y z u hOk R e
 ·exact qz9o base A h d tk me clock s g n r w hbase hA O x y z u hOk R e
 ·exact qz8g base A h d tk me clock s g n r w hbase hA O x y z u hOk R e
 ·exact qz80 base A h d tk me clock s g n r w hbase hA O x y z u hOk R e
 ·exact qz8d base A h d tk me clock s g n r w hbase hA O x y z u hOk R e
 ·exact qz8a base A h d tk me clock s g n r w hbase hA O x y z u hOk R e
end
end Go.Proofs.Ythjkdnlmopafkaa
