/-
  What the law's proof goes by, part 9.
-/
import Derived.Test.YtclkglkhhnapiaaFnCallH
namespace Go.Proofs.Ytclkglkhhnapiaa
open Go.ChangeShapes Go.WideShapes Go.ChangeAt Go.RowKit
set_option maxRecDepth 100000
set_option maxHeartbeats 16000000
set_option linter.unusedVariables false
set_option linter.unusedSimpArgs false
set_option linter.unnecessarySimpa false
set_option linter.unusedSectionVars false
section
attribute [local go_sem ↓] Go.wp_at_zero Go.wp_at_succ
def qz15 (x y z u : Int) (A : Ar) (h : Hd) (d : Dd) (tk : Bool) (me clock : Int) : Ar × Hd × Dd × Bool :=
 if h.at_ = 1 ∨ h.at_ = 6 then ((qz20 x y z u A h).1, (qz20 x y z u A h).2, d, tk)
 else if h.at_ <= 5 then ((qz22 A h d clock).1, (qz22 A h d clock).2.1, (qz22 A h d clock).2.2, tk)
 else if h.at_ <= 12 then ((qzx x y z u A h).1, (qzx x y z u A h).2, d, tk)
 else if h.at_ <= 18 then ((qzo A h me tk).1, (qzo A h me tk).2.1, d, (qzo A h me tk).2.2)
 else if h.at_ = 19 then (A, qz8h A h, d, tk)
 else if h.at_ = 21 then (A, qz6k A h, d, tk)
 else ((qz4a A h).1, (qz4a A h).2, d, tk)
def qz21 (A : Ar) (h : Hd) (tk : Bool) (me : Int) : Int := if 13 <= h.at_ /\ h.at_ <= 18 then (qzo A h me tk).1.camera else A.camera
structure qza3 (A : Ar) (h : Hd) (me : Int) : Prop where
 v0 : 0 <= h.ver
 v1 : h.ver < (A.vers.length : Int)
 x0 : 0 <= h.x_
 x1 : h.x_ < (A.nodes.length : Int)
 p0 : 0 <= h.pred
 p1 : h.pred < (A.nodes.length : Int)
 c0 : 0 <= h.currVer
 c1 : h.currVer < (A.vers.length : Int)
 u1 : h.curr < (A.nodes.length : Int)
 n1 : h.new_ < (A.nodes.length : Int)
 o0 : 0 <= h.out
 o1 : h.out <= 1000000
 s0 : 0 <= h.sum
 s1 : h.sum <= 1000000
 cm : 0 <= h.cam
 r0 : 0 <= h.round
 r1 : h.round <= 20000
 i0 : 0 <= h.index
 i1 : h.index <= 60
 m0 : 0 <= me
 m1 : me < (A.slots.length : Int)
 k0 : 0 <= A.camera
 k1 : A.camera <= 100
theorem qz9b (base : Nat) (A : Ar) (h : Hd) (d : Dd) (tk : Bool) (me clock : Int) (s g n r : Value) (w : World) (hbase : base <= w.heap.size) (hA : A.size <= 1048576) (O : qz38 base w s g n r A) (x y z u : Int) (hOk : qz1o x y z u A = true) (R : qza3 A h me) (e : h.at_ = 1) :
  Calls Try.prog 109 #[.agg #[.int .i64 x, .int .i64 y, .int .i64 z, .int .i64 u], .agg (qze A.camera s g n r h d tk).toArray, .int .i64 me, .int .i64 clock] w fun e w' => ∃ s' g' n' r', e = .returned (.agg (qze (qz21 A h tk me) s' g' n' r' (qz15 x y z u A h d tk me clock).2.1 (qz15 x y z u A h d tk me clock).2.2.1 (qz15 x y z u A h d tk me clock).2.2.2).toArray) /\ qz2b base w w' s g n r s' g' n' r' (qz15 x y z u A h d tk me clock).1 := by
 have hA' := hA
 unfold Ar.size at hA
 obtain ⟨sa, sc, rfl⟩ := qzk O.rs
 obtain ⟨ga, gc, rfl⟩ := qzk O.rg
 obtain ⟨na, nc, rfl⟩ := qzk O.rn
 obtain ⟨ra, rc, rfl⟩ := qzk O.rr
 obtain ⟨S0, P0⟩ := qz1i base w (.slice sa A.slots.length sc) (.slice ga A.guides.length gc) (.slice na A.nodes.length nc) (.slice ra A.vers.length rc) A (qze A.camera (.slice sa A.slots.length sc) (.slice ga A.guides.length gc) (.slice na A.nodes.length nc) (.slice ra A.vers.length rc) h d tk) [.int .i64 0, .slice none 0 0, .slice none 0 0, .slice none 0 0, .slice none 0 0, .int .i64 0, .int .i64 0, .int .i64 0, .int .i64 0, .int .i64 0, .int .i64 0, .int .i64 0, .int .i64 0, .int .i64 0, .int .i64 0, .int .i64 0, .int .i64 0, .int .i64 0, .int .i64 0, .int .i64 0, .int .i64 0, .int .i64 0, .int .i64 0, .int .i64 0, .int .i64 0, .int .i64 0, .int .i64 0, .int .i64 0, .int .i64 0, .int .i64 0, .int .i64 0, .int .i64 0, .bool false] 147 25 x y z u O rfl rfl
 have hd : Hid ((qz15 x y z u A h d tk me clock) = ((qz20 x y z u A h).1, (qz20 x y z u A h).2, d, tk)) := by show _ = _; unfold qz15; rw [if_pos (by omega)]
 have hdc : Hid (qz21 A h tk me = A.camera) := by show _ = _; unfold qz21; rw [if_neg (by omega)]
 have eH : Hid (h.at_ = 1) := e
 go_enter Try.func109, Try.ntmps109
 have tok : True := trivial
 go_wp2_with (clear tok; refine qz2e (((w.alloc (.cells #[.int .i64 x, .int .i64 y, .int .i64 z, .int .i64 u] 25)).alloc (.cells (qze A.camera (.slice sa A.slots.length sc) (.slice ga A.guides.length gc) (.slice na A.nodes.length nc) (.slice ra A.vers.length rc) h d tk).toArray 147)).alloc (.cells #[.int .i64 0, .slice none 0 0, .slice none 0 0, .slice none 0 0, .slice none 0 0, .int .i64 0, .int .i64 0, .int .i64 0, .int .i64 0, .int .i64 0, .int .i64 0, .int .i64 0, .int .i64 0, .int .i64 0, .int .i64 0, .int .i64 0, .int .i64 0, .int .i64 0, .int .i64 0, .int .i64 0, .int .i64 0, .int .i64 0, .int .i64 0, .int .i64 0, .int .i64 0, .int .i64 0, .int .i64 0, .int .i64 0, .int .i64 0, .int .i64 0, .int .i64 0, .int .i64 0, .bool false] 147)) ?_)
 generalize hw0 : ((w.alloc (.cells #[.int .i64 x, .int .i64 y, .int .i64 z, .int .i64 u] 25)).alloc (.cells (qze A.camera (.slice sa A.slots.length sc) (.slice ga A.guides.length gc) (.slice na A.nodes.length nc) (.slice ra A.vers.length rc) h d tk).toArray 147)).alloc (.cells #[.int .i64 0, .slice none 0 0, .slice none 0 0, .slice none 0 0, .slice none 0 0, .int .i64 0, .int .i64 0, .int .i64 0, .int .i64 0, .int .i64 0, .int .i64 0, .int .i64 0, .int .i64 0, .int .i64 0, .int .i64 0, .int .i64 0, .int .i64 0, .int .i64 0, .int .i64 0, .int .i64 0, .int .i64 0, .int .i64 0, .int .i64 0, .int .i64 0, .int .i64 0, .int .i64 0, .int .i64 0, .int .i64 0, .int .i64 0, .int .i64 0, .int .i64 0, .int .i64 0, .bool false] 147) = w0 at *
 clear hw0
 show wpList _ _ _ _ _ w0
 have q5 := S0.cell 5 rfl
 obtain ⟨p0, p1, p2, p3⟩ := id P0
 rw [e] at q5
 clear e
 go_wp2_with (first | (refine wpList_load_mid rfl 147 (.tmp 5) rfl (w.heap.size + 1) 0 ?lx (qze A.camera (.slice sa A.slots.length sc) (.slice ga A.guides.length gc) (.slice na A.nodes.length nc) (.slice ra A.vers.length rc) h d tk) _ ?lc Try.underlying147 rfl (qz9 _ _ _ _ _ _ _ _) ?_) | (go_at_call 111; refine (qz7z base A h d tk _ _ _ _ _ (Nat.le_trans hbase S0.but.size) hA' S0.own x y z u hOk R.p0 R.p1 R.c0 R.c1 R.r0 R.r1).mono ?_; rintro e w2 ⟨s2, g2, n2, r2, rfl, E⟩; have S3 := S0.swap E; clear E; obtain ⟨sa2, sc2, rfl⟩ := qzk S3.own.rs; obtain ⟨ga2, gc2, rfl⟩ := qzk S3.own.rg; obtain ⟨na2, nc2, rfl⟩ := qzk S3.own.rn; obtain ⟨ra2, rc2, rfl⟩ := qzk S3.own.rr) | (refine wpList_store_mid rfl 147 (.tmp 8) _ rfl (w.heap.size + 1 + 1) 0 (qze A.camera (.slice sa2 (qz20 x y z u A h).1.slots.length sc2) (.slice ga2 (qz20 x y z u A h).1.guides.length gc2) (.slice na2 (qz20 x y z u A h).1.nodes.length nc2) (.slice ra2 (qz20 x y z u A h).1.vers.length rc2) (qz20 x y z u A h).2 d tk).toArray ?dx ?dy ?dt (qzt _ _ _ _ _ _ _ _) (qz13 _ _ _ _ _ _ _ _ _ _ _ _ _ _ _ _) ?_))
 try (case lx => rfl)
 try (case lc => exact S0.row)
 try (case dx => rfl)
 try (case dy => rfl)
 try (case dt => exact S3.to)
 refine bodyPost_ret (v := .agg (qze A.camera (.slice sa2 (qz20 x y z u A h).1.slots.length sc2) (.slice ga2 (qz20 x y z u A h).1.guides.length gc2) (.slice na2 (qz20 x y z u A h).1.nodes.length nc2) (.slice ra2 (qz20 x y z u A h).1.vers.length rc2) (qz20 x y z u A h).2 d tk).toArray) ?_ rfl ⟨_, _, _, _, by rw [hd.out, hdc.out], by rw [hd.out]; exact S3.fin2 _⟩
 exact qz5 Try.results109 _ _ (w.heap.size + 1 + 1) 0 rfl (qze A.camera (.slice sa2 (qz20 x y z u A h).1.slots.length sc2) (.slice ga2 (qz20 x y z u A h).1.guides.length gc2) (.slice na2 (qz20 x y z u A h).1.nodes.length nc2) (.slice ra2 (qz20 x y z u A h).1.vers.length rc2) (qz20 x y z u A h).2 d tk) _ (S3.out2 _ rfl) Try.underlying147 rfl (qz9 _ _ _ _ _ _ _ _)
theorem qz99 (base : Nat) (A : Ar) (h : Hd) (d : Dd) (tk : Bool) (me clock : Int) (s g n r : Value) (w : World) (hbase : base <= w.heap.size) (hA : A.size <= 1048576) (O : qz38 base w s g n r A) (x y z u : Int) (hOk : qz1o x y z u A = true) (R : qza3 A h me) (e : h.at_ = 6) :
  Calls Try.prog 109 #[.agg #[.int .i64 x, .int .i64 y, .int .i64 z, .int .i64 u], .agg (qze A.camera s g n r h d tk).toArray, .int .i64 me, .int .i64 clock] w fun e w' => ∃ s' g' n' r', e = .returned (.agg (qze (qz21 A h tk me) s' g' n' r' (qz15 x y z u A h d tk me clock).2.1 (qz15 x y z u A h d tk me clock).2.2.1 (qz15 x y z u A h d tk me clock).2.2.2).toArray) /\ qz2b base w w' s g n r s' g' n' r' (qz15 x y z u A h d tk me clock).1 := by
 have hA' := hA
 unfold Ar.size at hA
 obtain ⟨sa, sc, rfl⟩ := qzk O.rs
 obtain ⟨ga, gc, rfl⟩ := qzk O.rg
 obtain ⟨na, nc, rfl⟩ := qzk O.rn
 obtain ⟨ra, rc, rfl⟩ := qzk O.rr
 obtain ⟨S0, P0⟩ := qz1i base w (.slice sa A.slots.length sc) (.slice ga A.guides.length gc) (.slice na A.nodes.length nc) (.slice ra A.vers.length rc) A (qze A.camera (.slice sa A.slots.length sc) (.slice ga A.guides.length gc) (.slice na A.nodes.length nc) (.slice ra A.vers.length rc) h d tk) [.int .i64 0, .slice none 0 0, .slice none 0 0, .slice none 0 0, .slice none 0 0, .int .i64 0, .int .i64 0, .int .i64 0, .int .i64 0, .int .i64 0, .int .i64 0, .int .i64 0, .int .i64 0, .int .i64 0, .int .i64 0, .int .i64 0, .int .i64 0, .int .i64 0, .int .i64 0, .int .i64 0, .int .i64 0, .int .i64 0, .int .i64 0, .int .i64 0, .int .i64 0, .int .i64 0, .int .i64 0, .int .i64 0, .int .i64 0, .int .i64 0, .int .i64 0, .int .i64 0, .bool false] 147 25 x y z u O rfl rfl
 have hd : Hid ((qz15 x y z u A h d tk me clock) = ((qz20 x y z u A h).1, (qz20 x y z u A h).2, d, tk)) := by show _ = _; unfold qz15; rw [if_pos (by omega)]
 have hdc : Hid (qz21 A h tk me = A.camera) := by show _ = _; unfold qz21; rw [if_neg (by omega)]
 have eH : Hid (h.at_ = 6) := e
 go_enter Try.func109, Try.ntmps109
 have tok : True := trivial
 go_wp2_with (clear tok; refine qz2e (((w.alloc (.cells #[.int .i64 x, .int .i64 y, .int .i64 z, .int .i64 u] 25)).alloc (.cells (qze A.camera (.slice sa A.slots.length sc) (.slice ga A.guides.length gc) (.slice na A.nodes.length nc) (.slice ra A.vers.length rc) h d tk).toArray 147)).alloc (.cells #[.int .i64 0, .slice none 0 0, .slice none 0 0, .slice none 0 0, .slice none 0 0, .int .i64 0, .int .i64 0, .int .i64 0, .int .i64 0, .int .i64 0, .int .i64 0, .int .i64 0, .int .i64 0, .int .i64 0, .int .i64 0, .int .i64 0, .int .i64 0, .int .i64 0, .int .i64 0, .int .i64 0, .int .i64 0, .int .i64 0, .int .i64 0, .int .i64 0, .int .i64 0, .int .i64 0, .int .i64 0, .int .i64 0, .int .i64 0, .int .i64 0, .int .i64 0, .int .i64 0, .bool false] 147)) ?_)
 generalize hw0 : ((w.alloc (.cells #[.int .i64 x, .int .i64 y, .int .i64 z, .int .i64 u] 25)).alloc (.cells (qze A.camera (.slice sa A.slots.length sc) (.slice ga A.guides.length gc) (.slice na A.nodes.length nc) (.slice ra A.vers.length rc) h d tk).toArray 147)).alloc (.cells #[.int .i64 0, .slice none 0 0, .slice none 0 0, .slice none 0 0, .slice none 0 0, .int .i64 0, .int .i64 0, .int .i64 0, .int .i64 0, .int .i64 0, .int .i64 0, .int .i64 0, .int .i64 0, .int .i64 0, .int .i64 0, .int .i64 0, .int .i64 0, .int .i64 0, .int .i64 0, .int .i64 0, .int .i64 0, .int .i64 0, .int .i64 0, .int .i64 0, .int .i64 0, .int .i64 0, .int .i64 0, .int .i64 0, .int .i64 0, .int .i64 0, .int .i64 0, .int .i64 0, .bool false] 147) = w0 at *
 clear hw0
 show wpList _ _ _ _ _ w0
 have q5 := S0.cell 5 rfl
 obtain ⟨p0, p1, p2, p3⟩ := id P0
 rw [e] at q5
 clear e
 go_wp2_with (first | (refine wpList_load_mid rfl 147 (.tmp 5) rfl (w.heap.size + 1) 0 ?lx (qze A.camera (.slice sa A.slots.length sc) (.slice ga A.guides.length gc) (.slice na A.nodes.length nc) (.slice ra A.vers.length rc) h d tk) _ ?lc Try.underlying147 rfl (qz9 _ _ _ _ _ _ _ _) ?_) | (go_at_call 111; refine (qz7z base A h d tk _ _ _ _ _ (Nat.le_trans hbase S0.but.size) hA' S0.own x y z u hOk R.p0 R.p1 R.c0 R.c1 R.r0 R.r1).mono ?_; rintro e w2 ⟨s2, g2, n2, r2, rfl, E⟩; have S3 := S0.swap E; clear E; obtain ⟨sa2, sc2, rfl⟩ := qzk S3.own.rs; obtain ⟨ga2, gc2, rfl⟩ := qzk S3.own.rg; obtain ⟨na2, nc2, rfl⟩ := qzk S3.own.rn; obtain ⟨ra2, rc2, rfl⟩ := qzk S3.own.rr) | (refine wpList_store_mid rfl 147 (.tmp 8) _ rfl (w.heap.size + 1 + 1) 0 (qze A.camera (.slice sa2 (qz20 x y z u A h).1.slots.length sc2) (.slice ga2 (qz20 x y z u A h).1.guides.length gc2) (.slice na2 (qz20 x y z u A h).1.nodes.length nc2) (.slice ra2 (qz20 x y z u A h).1.vers.length rc2) (qz20 x y z u A h).2 d tk).toArray ?dx ?dy ?dt (qzt _ _ _ _ _ _ _ _) (qz13 _ _ _ _ _ _ _ _ _ _ _ _ _ _ _ _) ?_))
 try (case lx => rfl)
 try (case lc => exact S0.row)
 try (case dx => rfl)
 try (case dy => rfl)
 try (case dt => exact S3.to)
 refine bodyPost_ret (v := .agg (qze A.camera (.slice sa2 (qz20 x y z u A h).1.slots.length sc2) (.slice ga2 (qz20 x y z u A h).1.guides.length gc2) (.slice na2 (qz20 x y z u A h).1.nodes.length nc2) (.slice ra2 (qz20 x y z u A h).1.vers.length rc2) (qz20 x y z u A h).2 d tk).toArray) ?_ rfl ⟨_, _, _, _, by rw [hd.out, hdc.out], by rw [hd.out]; exact S3.fin2 _⟩
 exact qz5 Try.results109 _ _ (w.heap.size + 1 + 1) 0 rfl (qze A.camera (.slice sa2 (qz20 x y z u A h).1.slots.length sc2) (.slice ga2 (qz20 x y z u A h).1.guides.length gc2) (.slice na2 (qz20 x y z u A h).1.nodes.length nc2) (.slice ra2 (qz20 x y z u A h).1.vers.length rc2) (qz20 x y z u A h).2 d tk) _ (S3.out2 _ rfl) Try.underlying147 rfl (qz9 _ _ _ _ _ _ _ _)
theorem qz9s (base : Nat) (A : Ar) (h : Hd) (d : Dd) (tk : Bool) (me clock : Int) (s g n r : Value) (w : World) (hbase : base <= w.heap.size) (hA : A.size <= 1048576) (O : qz38 base w s g n r A) (x y z u : Int) (hOk : qz1o x y z u A = true) (R : qza3 A h me) (e : 2 <= h.at_ /\ h.at_ <= 5) :
  Calls Try.prog 109 #[.agg #[.int .i64 x, .int .i64 y, .int .i64 z, .int .i64 u], .agg (qze A.camera s g n r h d tk).toArray, .int .i64 me, .int .i64 clock] w fun e w' => ∃ s' g' n' r', e = .returned (.agg (qze (qz21 A h tk me) s' g' n' r' (qz15 x y z u A h d tk me clock).2.1 (qz15 x y z u A h d tk me clock).2.2.1 (qz15 x y z u A h d tk me clock).2.2.2).toArray) /\ qz2b base w w' s g n r s' g' n' r' (qz15 x y z u A h d tk me clock).1 := by
 have hA' := hA
 unfold Ar.size at hA
 obtain ⟨sa, sc, rfl⟩ := qzk O.rs
 obtain ⟨ga, gc, rfl⟩ := qzk O.rg
 obtain ⟨na, nc, rfl⟩ := qzk O.rn
 obtain ⟨ra, rc, rfl⟩ := qzk O.rr
 obtain ⟨S0, P0⟩ := qz1i base w (.slice sa A.slots.length sc) (.slice ga A.guides.length gc) (.slice na A.nodes.length nc) (.slice ra A.vers.length rc) A (qze A.camera (.slice sa A.slots.length sc) (.slice ga A.guides.length gc) (.slice na A.nodes.length nc) (.slice ra A.vers.length rc) h d tk) [.int .i64 0, .slice none 0 0, .slice none 0 0, .slice none 0 0, .slice none 0 0, .int .i64 0, .int .i64 0, .int .i64 0, .int .i64 0, .int .i64 0, .int .i64 0, .int .i64 0, .int .i64 0, .int .i64 0, .int .i64 0, .int .i64 0, .int .i64 0, .int .i64 0, .int .i64 0, .int .i64 0, .int .i64 0, .int .i64 0, .int .i64 0, .int .i64 0, .int .i64 0, .int .i64 0, .int .i64 0, .int .i64 0, .int .i64 0, .int .i64 0, .int .i64 0, .int .i64 0, .bool false] 147 25 x y z u O rfl rfl
 have hd : Hid ((qz15 x y z u A h d tk me clock) = ((qz22 A h d clock).1, (qz22 A h d clock).2.1, (qz22 A h d clock).2.2, tk)) := by show _ = _; unfold qz15; rw [if_neg (by omega), if_pos (by omega)]
 have hdc : Hid (qz21 A h tk me = A.camera) := by show _ = _; unfold qz21; rw [if_neg (by omega)]
 have eH : Hid (2 <= h.at_ /\ h.at_ <= 5) := e
 go_enter Try.func109, Try.ntmps109
 have tok : True := trivial
 go_wp2_with (clear tok; refine qz2e (((w.alloc (.cells #[.int .i64 x, .int .i64 y, .int .i64 z, .int .i64 u] 25)).alloc (.cells (qze A.camera (.slice sa A.slots.length sc) (.slice ga A.guides.length gc) (.slice na A.nodes.length nc) (.slice ra A.vers.length rc) h d tk).toArray 147)).alloc (.cells #[.int .i64 0, .slice none 0 0, .slice none 0 0, .slice none 0 0, .slice none 0 0, .int .i64 0, .int .i64 0, .int .i64 0, .int .i64 0, .int .i64 0, .int .i64 0, .int .i64 0, .int .i64 0, .int .i64 0, .int .i64 0, .int .i64 0, .int .i64 0, .int .i64 0, .int .i64 0, .int .i64 0, .int .i64 0, .int .i64 0, .int .i64 0, .int .i64 0, .int .i64 0, .int .i64 0, .int .i64 0, .int .i64 0, .int .i64 0, .int .i64 0, .int .i64 0, .int .i64 0, .bool false] 147)) ?_)
 generalize hw0 : ((w.alloc (.cells #[.int .i64 x, .int .i64 y, .int .i64 z, .int .i64 u] 25)).alloc (.cells (qze A.camera (.slice sa A.slots.length sc) (.slice ga A.guides.length gc) (.slice na A.nodes.length nc) (.slice ra A.vers.length rc) h d tk).toArray 147)).alloc (.cells #[.int .i64 0, .slice none 0 0, .slice none 0 0, .slice none 0 0, .slice none 0 0, .int .i64 0, .int .i64 0, .int .i64 0, .int .i64 0, .int .i64 0, .int .i64 0, .int .i64 0, .int .i64 0, .int .i64 0, .int .i64 0, .int .i64 0, .int .i64 0, .int .i64 0, .int .i64 0, .int .i64 0, .int .i64 0, .int .i64 0, .int .i64 0, .int .i64 0, .int .i64 0, .int .i64 0, .int .i64 0, .int .i64 0, .int .i64 0, .int .i64 0, .int .i64 0, .int .i64 0, .bool false] 147) = w0 at *
 clear hw0
 show wpList _ _ _ _ _ w0
 have q5 := S0.cell 5 rfl
 obtain ⟨p0, p1, p2, p3⟩ := id P0
 have b1 : (h.at_ == 1) = false := by simp; omega
 have b6 : (h.at_ == 6) = false := by simp; omega
 have c5 : h.at_ <= 5 := by omega
 clear e
 go_wp2_with (first | (refine wpList_load_mid rfl 147 (.tmp 5) rfl (w.heap.size + 1) 0 ?lx (qze A.camera (.slice sa A.slots.length sc) (.slice ga A.guides.length gc) (.slice na A.nodes.length nc) (.slice ra A.vers.length rc) h d tk) _ ?lc Try.underlying147 rfl (qz9 _ _ _ _ _ _ _ _) ?_) | (go_at_call 112; refine (qzap base A h d tk clock _ _ _ _ _ (Nat.le_trans hbase S0.but.size) hA' S0.own x y z u hOk R.v0 R.v1 R.x0 R.x1 R.u1 R.o0 R.o1 R.s0 R.s1 R.cm).mono ?_; rintro e w2 ⟨s2, g2, n2, r2, rfl, E⟩; have S3 := S0.swap E; clear E; obtain ⟨sa2, sc2, rfl⟩ := qzk S3.own.rs; obtain ⟨ga2, gc2, rfl⟩ := qzk S3.own.rg; obtain ⟨na2, nc2, rfl⟩ := qzk S3.own.rn; obtain ⟨ra2, rc2, rfl⟩ := qzk S3.own.rr) | (refine wpList_store_mid rfl 147 (.tmp 8) _ rfl (w.heap.size + 1 + 1) 0 (qze A.camera (.slice sa2 (qz22 A h d clock).1.slots.length sc2) (.slice ga2 (qz22 A h d clock).1.guides.length gc2) (.slice na2 (qz22 A h d clock).1.nodes.length nc2) (.slice ra2 (qz22 A h d clock).1.vers.length rc2) (qz22 A h d clock).2.1 (qz22 A h d clock).2.2 tk).toArray ?dx ?dy ?dt (qzt _ _ _ _ _ _ _ _) (qz13 _ _ _ _ _ _ _ _ _ _ _ _ _ _ _ _) ?_))
 try (case lx => rfl)
 try (case lc => exact S0.row)
 try (case dx => rfl)
 try (case dy => rfl)
 try (case dt => exact S3.to)
 refine bodyPost_ret (v := .agg (qze A.camera (.slice sa2 (qz22 A h d clock).1.slots.length sc2) (.slice ga2 (qz22 A h d clock).1.guides.length gc2) (.slice na2 (qz22 A h d clock).1.nodes.length nc2) (.slice ra2 (qz22 A h d clock).1.vers.length rc2) (qz22 A h d clock).2.1 (qz22 A h d clock).2.2 tk).toArray) ?_ rfl ⟨_, _, _, _, by rw [hd.out, hdc.out], by rw [hd.out]; exact S3.fin2 _⟩
 exact qz5 Try.results109 _ _ (w.heap.size + 1 + 1) 0 rfl (qze A.camera (.slice sa2 (qz22 A h d clock).1.slots.length sc2) (.slice ga2 (qz22 A h d clock).1.guides.length gc2) (.slice na2 (qz22 A h d clock).1.nodes.length nc2) (.slice ra2 (qz22 A h d clock).1.vers.length rc2) (qz22 A h d clock).2.1 (qz22 A h d clock).2.2 tk) _ (S3.out2 _ rfl) Try.underlying147 rfl (qz9 _ _ _ _ _ _ _ _)
theorem qz9z (base : Nat) (A : Ar) (h : Hd) (d : Dd) (tk : Bool) (me clock : Int) (s g n r : Value) (w : World) (hbase : base <= w.heap.size) (hA : A.size <= 1048576) (O : qz38 base w s g n r A) (x y z u : Int) (hOk : qz1o x y z u A = true) (R : qza3 A h me) (e : 7 <= h.at_ /\ h.at_ <= 12) :
  Calls Try.prog 109 #[.agg #[.int .i64 x, .int .i64 y, .int .i64 z, .int .i64 u], .agg (qze A.camera s g n r h d tk).toArray, .int .i64 me, .int .i64 clock] w fun e w' => ∃ s' g' n' r', e = .returned (.agg (qze (qz21 A h tk me) s' g' n' r' (qz15 x y z u A h d tk me clock).2.1 (qz15 x y z u A h d tk me clock).2.2.1 (qz15 x y z u A h d tk me clock).2.2.2).toArray) /\ qz2b base w w' s g n r s' g' n' r' (qz15 x y z u A h d tk me clock).1 := by
 have hA' := hA
 unfold Ar.size at hA
 obtain ⟨sa, sc, rfl⟩ := qzk O.rs
 obtain ⟨ga, gc, rfl⟩ := qzk O.rg
 obtain ⟨na, nc, rfl⟩ := qzk O.rn
 obtain ⟨ra, rc, rfl⟩ := qzk O.rr
 obtain ⟨S0, P0⟩ := qz1i base w (.slice sa A.slots.length sc) (.slice ga A.guides.length gc) (.slice na A.nodes.length nc) (.slice ra A.vers.length rc) A (qze A.camera (.slice sa A.slots.length sc) (.slice ga A.guides.length gc) (.slice na A.nodes.length nc) (.slice ra A.vers.length rc) h d tk) [.int .i64 0, .slice none 0 0, .slice none 0 0, .slice none 0 0, .slice none 0 0, .int .i64 0, .int .i64 0, .int .i64 0, .int .i64 0, .int .i64 0, .int .i64 0, .int .i64 0, .int .i64 0, .int .i64 0, .int .i64 0, .int .i64 0, .int .i64 0, .int .i64 0, .int .i64 0, .int .i64 0, .int .i64 0, .int .i64 0, .int .i64 0, .int .i64 0, .int .i64 0, .int .i64 0, .int .i64 0, .int .i64 0, .int .i64 0, .int .i64 0, .int .i64 0, .int .i64 0, .bool false] 147 25 x y z u O rfl rfl
 have hd : Hid ((qz15 x y z u A h d tk me clock) = ((qzx x y z u A h).1, (qzx x y z u A h).2, d, tk)) := by show _ = _; unfold qz15; rw [if_neg (by omega), if_neg (by omega), if_pos (by omega)]
 have hdc : Hid (qz21 A h tk me = A.camera) := by show _ = _; unfold qz21; rw [if_neg (by omega)]
 have eH : Hid (7 <= h.at_ /\ h.at_ <= 12) := e
 go_enter Try.func109, Try.ntmps109
 have tok : True := trivial
 go_wp2_with (clear tok; refine qz2e (((w.alloc (.cells #[.int .i64 x, .int .i64 y, .int .i64 z, .int .i64 u] 25)).alloc (.cells (qze A.camera (.slice sa A.slots.length sc) (.slice ga A.guides.length gc) (.slice na A.nodes.length nc) (.slice ra A.vers.length rc) h d tk).toArray 147)).alloc (.cells #[.int .i64 0, .slice none 0 0, .slice none 0 0, .slice none 0 0, .slice none 0 0, .int .i64 0, .int .i64 0, .int .i64 0, .int .i64 0, .int .i64 0, .int .i64 0, .int .i64 0, .int .i64 0, .int .i64 0, .int .i64 0, .int .i64 0, .int .i64 0, .int .i64 0, .int .i64 0, .int .i64 0, .int .i64 0, .int .i64 0, .int .i64 0, .int .i64 0, .int .i64 0, .int .i64 0, .int .i64 0, .int .i64 0, .int .i64 0, .int .i64 0, .int .i64 0, .int .i64 0, .bool false] 147)) ?_)
 generalize hw0 : ((w.alloc (.cells #[.int .i64 x, .int .i64 y, .int .i64 z, .int .i64 u] 25)).alloc (.cells (qze A.camera (.slice sa A.slots.length sc) (.slice ga A.guides.length gc) (.slice na A.nodes.length nc) (.slice ra A.vers.length rc) h d tk).toArray 147)).alloc (.cells #[.int .i64 0, .slice none 0 0, .slice none 0 0, .slice none 0 0, .slice none 0 0, .int .i64 0, .int .i64 0, .int .i64 0, .int .i64 0, .int .i64 0, .int .i64 0, .int .i64 0, .int .i64 0, .int .i64 0, .int .i64 0, .int .i64 0, .int .i64 0, .int .i64 0, .int .i64 0, .int .i64 0, .int .i64 0, .int .i64 0, .int .i64 0, .int .i64 0, .int .i64 0, .int .i64 0, .int .i64 0, .int .i64 0, .int .i64 0, .int .i64 0, .int .i64 0, .int .i64 0, .bool false] 147) = w0 at *
 clear hw0
 show wpList _ _ _ _ _ w0
 have q5 := S0.cell 5 rfl
 obtain ⟨p0, p1, p2, p3⟩ := id P0
 have b1 : (h.at_ == 1) = false := by simp; omega
 have b6 : (h.at_ == 6) = false := by simp; omega
 have c5 : ¬ (h.at_ <= 5) := by omega
 have c12 : h.at_ <= 12 := by omega
 clear e
 go_wp2_with (first | (refine wpList_load_mid rfl 147 (.tmp 5) rfl (w.heap.size + 1) 0 ?lx (qze A.camera (.slice sa A.slots.length sc) (.slice ga A.guides.length gc) (.slice na A.nodes.length nc) (.slice ra A.vers.length rc) h d tk) _ ?lc Try.underlying147 rfl (qz9 _ _ _ _ _ _ _ _) ?_) | (go_at_call 113; refine (qz7r base A h d tk _ _ _ _ _ (Nat.le_trans hbase S0.but.size) hA' S0.own x y z u hOk (by have := eH.out; omega) (by have := eH.out; omega) R.p0 R.p1 R.u1 R.c0 R.c1 R.n1).mono ?_; rintro e w2 ⟨s2, g2, n2, r2, rfl, E⟩; have S3 := S0.swap E; clear E; obtain ⟨sa2, sc2, rfl⟩ := qzk S3.own.rs; obtain ⟨ga2, gc2, rfl⟩ := qzk S3.own.rg; obtain ⟨na2, nc2, rfl⟩ := qzk S3.own.rn; obtain ⟨ra2, rc2, rfl⟩ := qzk S3.own.rr) | (refine wpList_store_mid rfl 147 (.tmp 8) _ rfl (w.heap.size + 1 + 1) 0 (qze A.camera (.slice sa2 (qzx x y z u A h).1.slots.length sc2) (.slice ga2 (qzx x y z u A h).1.guides.length gc2) (.slice na2 (qzx x y z u A h).1.nodes.length nc2) (.slice ra2 (qzx x y z u A h).1.vers.length rc2) (qzx x y z u A h).2 d tk).toArray ?dx ?dy ?dt (qzt _ _ _ _ _ _ _ _) (qz13 _ _ _ _ _ _ _ _ _ _ _ _ _ _ _ _) ?_))
 try (case lx => rfl)
 try (case lc => exact S0.row)
 try (case dx => rfl)
 try (case dy => rfl)
 try (case dt => exact S3.to)
 refine bodyPost_ret (v := .agg (qze A.camera (.slice sa2 (qzx x y z u A h).1.slots.length sc2) (.slice ga2 (qzx x y z u A h).1.guides.length gc2) (.slice na2 (qzx x y z u A h).1.nodes.length nc2) (.slice ra2 (qzx x y z u A h).1.vers.length rc2) (qzx x y z u A h).2 d tk).toArray) ?_ rfl ⟨_, _, _, _, by rw [hd.out, hdc.out], by rw [hd.out]; exact S3.fin2 _⟩
 exact qz5 Try.results109 _ _ (w.heap.size + 1 + 1) 0 rfl (qze A.camera (.slice sa2 (qzx x y z u A h).1.slots.length sc2) (.slice ga2 (qzx x y z u A h).1.guides.length gc2) (.slice na2 (qzx x y z u A h).1.nodes.length nc2) (.slice ra2 (qzx x y z u A h).1.vers.length rc2) (qzx x y z u A h).2 d tk) _ (S3.out2 _ rfl) Try.underlying147 rfl (qz9 _ _ _ _ _ _ _ _)
theorem qz88 (base : Nat) (A : Ar) (h : Hd) (d : Dd) (tk : Bool) (me clock : Int) (s g n r : Value) (w : World) (hbase : base <= w.heap.size) (hA : A.size <= 1048576) (O : qz38 base w s g n r A) (x y z u : Int) (hOk : qz1o x y z u A = true) (R : qza3 A h me) (e : 13 <= h.at_ /\ h.at_ <= 18) :
  Calls Try.prog 109 #[.agg #[.int .i64 x, .int .i64 y, .int .i64 z, .int .i64 u], .agg (qze A.camera s g n r h d tk).toArray, .int .i64 me, .int .i64 clock] w fun e w' => ∃ s' g' n' r', e = .returned (.agg (qze (qz21 A h tk me) s' g' n' r' (qz15 x y z u A h d tk me clock).2.1 (qz15 x y z u A h d tk me clock).2.2.1 (qz15 x y z u A h d tk me clock).2.2.2).toArray) /\ qz2b base w w' s g n r s' g' n' r' (qz15 x y z u A h d tk me clock).1 := by
 have hA' := hA
 unfold Ar.size at hA
 obtain ⟨sa, sc, rfl⟩ := qzk O.rs
 obtain ⟨ga, gc, rfl⟩ := qzk O.rg
 obtain ⟨na, nc, rfl⟩ := qzk O.rn
 obtain ⟨ra, rc, rfl⟩ := qzk O.rr
 obtain ⟨S0, P0⟩ := qz1i base w (.slice sa A.slots.length sc) (.slice ga A.guides.length gc) (.slice na A.nodes.length nc) (.slice ra A.vers.length rc) A (qze A.camera (.slice sa A.slots.length sc) (.slice ga A.guides.length gc) (.slice na A.nodes.length nc) (.slice ra A.vers.length rc) h d tk) [.int .i64 0, .slice none 0 0, .slice none 0 0, .slice none 0 0, .slice none 0 0, .int .i64 0, .int .i64 0, .int .i64 0, .int .i64 0, .int .i64 0, .int .i64 0, .int .i64 0, .int .i64 0, .int .i64 0, .int .i64 0, .int .i64 0, .int .i64 0, .int .i64 0, .int .i64 0, .int .i64 0, .int .i64 0, .int .i64 0, .int .i64 0, .int .i64 0, .int .i64 0, .int .i64 0, .int .i64 0, .int .i64 0, .int .i64 0, .int .i64 0, .int .i64 0, .int .i64 0, .bool false] 147 25 x y z u O rfl rfl
 have hd : Hid ((qz15 x y z u A h d tk me clock) = ((qzo A h me tk).1, (qzo A h me tk).2.1, d, (qzo A h me tk).2.2)) := by show _ = _; unfold qz15; rw [if_neg (by omega), if_neg (by omega), if_neg (by omega), if_pos (by omega)]
 have hdc : Hid (qz21 A h tk me = (qzo A h me tk).1.camera) := by show _ = _; unfold qz21; rw [if_pos (by omega)]
 have eH : Hid (13 <= h.at_ /\ h.at_ <= 18) := e
 go_enter Try.func109, Try.ntmps109
 have tok : True := trivial
 go_wp2_with (clear tok; refine qz2e (((w.alloc (.cells #[.int .i64 x, .int .i64 y, .int .i64 z, .int .i64 u] 25)).alloc (.cells (qze A.camera (.slice sa A.slots.length sc) (.slice ga A.guides.length gc) (.slice na A.nodes.length nc) (.slice ra A.vers.length rc) h d tk).toArray 147)).alloc (.cells #[.int .i64 0, .slice none 0 0, .slice none 0 0, .slice none 0 0, .slice none 0 0, .int .i64 0, .int .i64 0, .int .i64 0, .int .i64 0, .int .i64 0, .int .i64 0, .int .i64 0, .int .i64 0, .int .i64 0, .int .i64 0, .int .i64 0, .int .i64 0, .int .i64 0, .int .i64 0, .int .i64 0, .int .i64 0, .int .i64 0, .int .i64 0, .int .i64 0, .int .i64 0, .int .i64 0, .int .i64 0, .int .i64 0, .int .i64 0, .int .i64 0, .int .i64 0, .int .i64 0, .bool false] 147)) ?_)
 generalize hw0 : ((w.alloc (.cells #[.int .i64 x, .int .i64 y, .int .i64 z, .int .i64 u] 25)).alloc (.cells (qze A.camera (.slice sa A.slots.length sc) (.slice ga A.guides.length gc) (.slice na A.nodes.length nc) (.slice ra A.vers.length rc) h d tk).toArray 147)).alloc (.cells #[.int .i64 0, .slice none 0 0, .slice none 0 0, .slice none 0 0, .slice none 0 0, .int .i64 0, .int .i64 0, .int .i64 0, .int .i64 0, .int .i64 0, .int .i64 0, .int .i64 0, .int .i64 0, .int .i64 0, .int .i64 0, .int .i64 0, .int .i64 0, .int .i64 0, .int .i64 0, .int .i64 0, .int .i64 0, .int .i64 0, .int .i64 0, .int .i64 0, .int .i64 0, .int .i64 0, .int .i64 0, .int .i64 0, .int .i64 0, .int .i64 0, .int .i64 0, .int .i64 0, .bool false] 147) = w0 at *
 clear hw0
 show wpList _ _ _ _ _ w0
 have q5 := S0.cell 5 rfl
 obtain ⟨p0, p1, p2, p3⟩ := id P0
 have b1 : (h.at_ == 1) = false := by simp; omega
 have b6 : (h.at_ == 6) = false := by simp; omega
 have c5 : ¬ (h.at_ <= 5) := by omega
 have c12 : ¬ (h.at_ <= 12) := by omega
 have c18 : h.at_ <= 18 := by omega
 clear e
 go_wp2_with (first | (refine wpList_load_mid rfl 147 (.tmp 5) rfl (w.heap.size + 1) 0 ?lx (qze A.camera (.slice sa A.slots.length sc) (.slice ga A.guides.length gc) (.slice na A.nodes.length nc) (.slice ra A.vers.length rc) h d tk) _ ?lc Try.underlying147 rfl (qz9 _ _ _ _ _ _ _ _) ?_) | (go_at_call 114; refine (qz6z base A h d tk me _ _ _ _ _ (Nat.le_trans hbase S0.but.size) hA' S0.own R.m0 R.m1 R.k0 R.k1).mono ?_; rintro e w2 ⟨s2, g2, n2, r2, rfl, E⟩; have S3 := S0.swap E; clear E; obtain ⟨sa2, sc2, rfl⟩ := qzk S3.own.rs; obtain ⟨ga2, gc2, rfl⟩ := qzk S3.own.rg; obtain ⟨na2, nc2, rfl⟩ := qzk S3.own.rn; obtain ⟨ra2, rc2, rfl⟩ := qzk S3.own.rr) | (refine wpList_store_mid rfl 147 (.tmp 8) _ rfl (w.heap.size + 1 + 1) 0 (qze (qzo A h me tk).1.camera (.slice sa2 (qzo A h me tk).1.slots.length sc2) (.slice ga2 (qzo A h me tk).1.guides.length gc2) (.slice na2 (qzo A h me tk).1.nodes.length nc2) (.slice ra2 (qzo A h me tk).1.vers.length rc2) (qzo A h me tk).2.1 d (qzo A h me tk).2.2).toArray ?dx ?dy ?dt (qzt _ _ _ _ _ _ _ _) (qz13 _ _ _ _ _ _ _ _ _ _ _ _ _ _ _ _) ?_))
 try (case lx => rfl)
 try (case lc => exact S0.row)
 try (case dx => rfl)
 try (case dy => rfl)
 try (case dt => exact S3.to)
 refine bodyPost_ret (v := .agg (qze (qzo A h me tk).1.camera (.slice sa2 (qzo A h me tk).1.slots.length sc2) (.slice ga2 (qzo A h me tk).1.guides.length gc2) (.slice na2 (qzo A h me tk).1.nodes.length nc2) (.slice ra2 (qzo A h me tk).1.vers.length rc2) (qzo A h me tk).2.1 d (qzo A h me tk).2.2).toArray) ?_ rfl ⟨_, _, _, _, by rw [hd.out, hdc.out], by rw [hd.out]; exact S3.fin2 _⟩
 exact qz5 Try.results109 _ _ (w.heap.size + 1 + 1) 0 rfl (qze (qzo A h me tk).1.camera (.slice sa2 (qzo A h me tk).1.slots.length sc2) (.slice ga2 (qzo A h me tk).1.guides.length gc2) (.slice na2 (qzo A h me tk).1.nodes.length nc2) (.slice ra2 (qzo A h me tk).1.vers.length rc2) (qzo A h me tk).2.1 d (qzo A h me tk).2.2) _ (S3.out2 _ rfl) Try.underlying147 rfl (qz9 _ _ _ _ _ _ _ _)
theorem qz8c (base : Nat) (A : Ar) (h : Hd) (d : Dd) (tk : Bool) (me clock : Int) (s g n r : Value) (w : World) (hbase : base <= w.heap.size) (hA : A.size <= 1048576) (O : qz38 base w s g n r A) (x y z u : Int) (hOk : qz1o x y z u A = true) (R : qza3 A h me) (e : h.at_ = 19) :
  Calls Try.prog 109 #[.agg #[.int .i64 x, .int .i64 y, .int .i64 z, .int .i64 u], .agg (qze A.camera s g n r h d tk).toArray, .int .i64 me, .int .i64 clock] w fun e w' => ∃ s' g' n' r', e = .returned (.agg (qze (qz21 A h tk me) s' g' n' r' (qz15 x y z u A h d tk me clock).2.1 (qz15 x y z u A h d tk me clock).2.2.1 (qz15 x y z u A h d tk me clock).2.2.2).toArray) /\ qz2b base w w' s g n r s' g' n' r' (qz15 x y z u A h d tk me clock).1 := by
 have hA' := hA
 unfold Ar.size at hA
 obtain ⟨sa, sc, rfl⟩ := qzk O.rs
 obtain ⟨ga, gc, rfl⟩ := qzk O.rg
 obtain ⟨na, nc, rfl⟩ := qzk O.rn
 obtain ⟨ra, rc, rfl⟩ := qzk O.rr
 obtain ⟨S0, P0⟩ := qz1i base w (.slice sa A.slots.length sc) (.slice ga A.guides.length gc) (.slice na A.nodes.length nc) (.slice ra A.vers.length rc) A (qze A.camera (.slice sa A.slots.length sc) (.slice ga A.guides.length gc) (.slice na A.nodes.length nc) (.slice ra A.vers.length rc) h d tk) [.int .i64 0, .slice none 0 0, .slice none 0 0, .slice none 0 0, .slice none 0 0, .int .i64 0, .int .i64 0, .int .i64 0, .int .i64 0, .int .i64 0, .int .i64 0, .int .i64 0, .int .i64 0, .int .i64 0, .int .i64 0, .int .i64 0, .int .i64 0, .int .i64 0, .int .i64 0, .int .i64 0, .int .i64 0, .int .i64 0, .int .i64 0, .int .i64 0, .int .i64 0, .int .i64 0, .int .i64 0, .int .i64 0, .int .i64 0, .int .i64 0, .int .i64 0, .int .i64 0, .bool false] 147 25 x y z u O rfl rfl
 have hd : Hid ((qz15 x y z u A h d tk me clock) = (A, (qz8h A h), d, tk)) := by show _ = _; unfold qz15; rw [if_neg (by omega), if_neg (by omega), if_neg (by omega), if_neg (by omega), if_pos (by omega)]
 have hdc : Hid (qz21 A h tk me = A.camera) := by show _ = _; unfold qz21; rw [if_neg (by omega)]
 have eH : Hid (h.at_ = 19) := e
 go_enter Try.func109, Try.ntmps109
 have tok : True := trivial
 go_wp2_with (clear tok; refine qz2e (((w.alloc (.cells #[.int .i64 x, .int .i64 y, .int .i64 z, .int .i64 u] 25)).alloc (.cells (qze A.camera (.slice sa A.slots.length sc) (.slice ga A.guides.length gc) (.slice na A.nodes.length nc) (.slice ra A.vers.length rc) h d tk).toArray 147)).alloc (.cells #[.int .i64 0, .slice none 0 0, .slice none 0 0, .slice none 0 0, .slice none 0 0, .int .i64 0, .int .i64 0, .int .i64 0, .int .i64 0, .int .i64 0, .int .i64 0, .int .i64 0, .int .i64 0, .int .i64 0, .int .i64 0, .int .i64 0, .int .i64 0, .int .i64 0, .int .i64 0, .int .i64 0, .int .i64 0, .int .i64 0, .int .i64 0, .int .i64 0, .int .i64 0, .int .i64 0, .int .i64 0, .int .i64 0, .int .i64 0, .int .i64 0, .int .i64 0, .int .i64 0, .bool false] 147)) ?_)
 generalize hw0 : ((w.alloc (.cells #[.int .i64 x, .int .i64 y, .int .i64 z, .int .i64 u] 25)).alloc (.cells (qze A.camera (.slice sa A.slots.length sc) (.slice ga A.guides.length gc) (.slice na A.nodes.length nc) (.slice ra A.vers.length rc) h d tk).toArray 147)).alloc (.cells #[.int .i64 0, .slice none 0 0, .slice none 0 0, .slice none 0 0, .slice none 0 0, .int .i64 0, .int .i64 0, .int .i64 0, .int .i64 0, .int .i64 0, .int .i64 0, .int .i64 0, .int .i64 0, .int .i64 0, .int .i64 0, .int .i64 0, .int .i64 0, .int .i64 0, .int .i64 0, .int .i64 0, .int .i64 0, .int .i64 0, .int .i64 0, .int .i64 0, .int .i64 0, .int .i64 0, .int .i64 0, .int .i64 0, .int .i64 0, .int .i64 0, .int .i64 0, .int .i64 0, .bool false] 147) = w0 at *
 clear hw0
 show wpList _ _ _ _ _ w0
 have q5 := S0.cell 5 rfl
 obtain ⟨p0, p1, p2, p3⟩ := id P0
 rw [e] at q5
 clear e
 go_wp2_with (first | (refine wpList_load_mid rfl 147 (.tmp 5) rfl (w.heap.size + 1) 0 ?lx (qze A.camera (.slice sa A.slots.length sc) (.slice ga A.guides.length gc) (.slice na A.nodes.length nc) (.slice ra A.vers.length rc) h d tk) _ ?lc Try.underlying147 rfl (qz9 _ _ _ _ _ _ _ _) ?_) | (go_at_call 115; refine (qz9f w0.heap.size A h d tk _ _ _ _ _ _ _ _ _ (Nat.le_refl _) hA' S0.is x y z u hOk R.v0 R.v1 R.x0 R.x1 R.o0 R.o1 R.s0 R.s1).mono ?_; rintro e w2 ⟨rfl, b2⟩; have S3 := S0.below b2; clear b2) | (refine wpList_store_mid rfl 147 (.tmp 8) _ rfl (w.heap.size + 1 + 1) 0 (qze A.camera (.slice sa A.slots.length sc) (.slice ga A.guides.length gc) (.slice na A.nodes.length nc) (.slice ra A.vers.length rc) (qz8h A h) d tk).toArray ?dx ?dy ?dt (qzt _ _ _ _ _ _ _ _) (qz13 _ _ _ _ _ _ _ _ _ _ _ _ _ _ _ _) ?_))
 try (case lx => rfl)
 try (case lc => exact S0.row)
 try (case dx => rfl)
 try (case dy => rfl)
 try (case dt => exact S3.to)
 refine bodyPost_ret (v := .agg (qze A.camera (.slice sa A.slots.length sc) (.slice ga A.guides.length gc) (.slice na A.nodes.length nc) (.slice ra A.vers.length rc) (qz8h A h) d tk).toArray) ?_ rfl ⟨_, _, _, _, by rw [hd.out, hdc.out], by rw [hd.out]; exact S3.fin2 _⟩
 exact qz5 Try.results109 _ _ (w.heap.size + 1 + 1) 0 rfl (qze A.camera (.slice sa A.slots.length sc) (.slice ga A.guides.length gc) (.slice na A.nodes.length nc) (.slice ra A.vers.length rc) (qz8h A h) d tk) _ (S3.out2 _ rfl) Try.underlying147 rfl (qz9 _ _ _ _ _ _ _ _)
theorem qz8e (base : Nat) (A : Ar) (h : Hd) (d : Dd) (tk : Bool) (me clock : Int) (s g n r : Value) (w : World) (hbase : base <= w.heap.size) (hA : A.size <= 1048576) (O : qz38 base w s g n r A) (x y z u : Int) (hOk : qz1o x y z u A = true) (R : qza3 A h me) (e : h.at_ = 21) :
  Calls Try.prog 109 #[.agg #[.int .i64 x, .int .i64 y, .int .i64 z, .int .i64 u], .agg (qze A.camera s g n r h d tk).toArray, .int .i64 me, .int .i64 clock] w fun e w' => ∃ s' g' n' r', e = .returned (.agg (qze (qz21 A h tk me) s' g' n' r' (qz15 x y z u A h d tk me clock).2.1 (qz15 x y z u A h d tk me clock).2.2.1 (qz15 x y z u A h d tk me clock).2.2.2).toArray) /\ qz2b base w w' s g n r s' g' n' r' (qz15 x y z u A h d tk me clock).1 := by
 have hA' := hA
 unfold Ar.size at hA
 obtain ⟨sa, sc, rfl⟩ := qzk O.rs
 obtain ⟨ga, gc, rfl⟩ := qzk O.rg
 obtain ⟨na, nc, rfl⟩ := qzk O.rn
 obtain ⟨ra, rc, rfl⟩ := qzk O.rr
 obtain ⟨S0, P0⟩ := qz1i base w (.slice sa A.slots.length sc) (.slice ga A.guides.length gc) (.slice na A.nodes.length nc) (.slice ra A.vers.length rc) A (qze A.camera (.slice sa A.slots.length sc) (.slice ga A.guides.length gc) (.slice na A.nodes.length nc) (.slice ra A.vers.length rc) h d tk) [.int .i64 0, .slice none 0 0, .slice none 0 0, .slice none 0 0, .slice none 0 0, .int .i64 0, .int .i64 0, .int .i64 0, .int .i64 0, .int .i64 0, .int .i64 0, .int .i64 0, .int .i64 0, .int .i64 0, .int .i64 0, .int .i64 0, .int .i64 0, .int .i64 0, .int .i64 0, .int .i64 0, .int .i64 0, .int .i64 0, .int .i64 0, .int .i64 0, .int .i64 0, .int .i64 0, .int .i64 0, .int .i64 0, .int .i64 0, .int .i64 0, .int .i64 0, .int .i64 0, .bool false] 147 25 x y z u O rfl rfl
 have hd : Hid ((qz15 x y z u A h d tk me clock) = (A, (qz6k A h), d, tk)) := by show _ = _; unfold qz15; rw [if_neg (by omega), if_neg (by omega), if_neg (by omega), if_neg (by omega), if_neg (by omega), if_pos (by omega)]
 have hdc : Hid (qz21 A h tk me = A.camera) := by show _ = _; unfold qz21; rw [if_neg (by omega)]
 have eH : Hid (h.at_ = 21) := e
 go_enter Try.func109, Try.ntmps109
 have tok : True := trivial
 go_wp2_with (clear tok; refine qz2e (((w.alloc (.cells #[.int .i64 x, .int .i64 y, .int .i64 z, .int .i64 u] 25)).alloc (.cells (qze A.camera (.slice sa A.slots.length sc) (.slice ga A.guides.length gc) (.slice na A.nodes.length nc) (.slice ra A.vers.length rc) h d tk).toArray 147)).alloc (.cells #[.int .i64 0, .slice none 0 0, .slice none 0 0, .slice none 0 0, .slice none 0 0, .int .i64 0, .int .i64 0, .int .i64 0, .int .i64 0, .int .i64 0, .int .i64 0, .int .i64 0, .int .i64 0, .int .i64 0, .int .i64 0, .int .i64 0, .int .i64 0, .int .i64 0, .int .i64 0, .int .i64 0, .int .i64 0, .int .i64 0, .int .i64 0, .int .i64 0, .int .i64 0, .int .i64 0, .int .i64 0, .int .i64 0, .int .i64 0, .int .i64 0, .int .i64 0, .int .i64 0, .bool false] 147)) ?_)
 generalize hw0 : ((w.alloc (.cells #[.int .i64 x, .int .i64 y, .int .i64 z, .int .i64 u] 25)).alloc (.cells (qze A.camera (.slice sa A.slots.length sc) (.slice ga A.guides.length gc) (.slice na A.nodes.length nc) (.slice ra A.vers.length rc) h d tk).toArray 147)).alloc (.cells #[.int .i64 0, .slice none 0 0, .slice none 0 0, .slice none 0 0, .slice none 0 0, .int .i64 0, .int .i64 0, .int .i64 0, .int .i64 0, .int .i64 0, .int .i64 0, .int .i64 0, .int .i64 0, .int .i64 0, .int .i64 0, .int .i64 0, .int .i64 0, .int .i64 0, .int .i64 0, .int .i64 0, .int .i64 0, .int .i64 0, .int .i64 0, .int .i64 0, .int .i64 0, .int .i64 0, .int .i64 0, .int .i64 0, .int .i64 0, .int .i64 0, .int .i64 0, .int .i64 0, .bool false] 147) = w0 at *
 clear hw0
 show wpList _ _ _ _ _ w0
 have q5 := S0.cell 5 rfl
 obtain ⟨p0, p1, p2, p3⟩ := id P0
 rw [e] at q5
 clear e
 go_wp2_with (first | (refine wpList_load_mid rfl 147 (.tmp 5) rfl (w.heap.size + 1) 0 ?lx (qze A.camera (.slice sa A.slots.length sc) (.slice ga A.guides.length gc) (.slice na A.nodes.length nc) (.slice ra A.vers.length rc) h d tk) _ ?lc Try.underlying147 rfl (qz9 _ _ _ _ _ _ _ _) ?_) | (go_at_call 116; refine (qza2 base A h d tk _ _ _ _ _ (Nat.le_trans hbase S0.but.size) hA' S0.own x y z u hOk R.v0 R.v1 R.x0 R.x1 R.o0 R.o1 eH.out R.i0 R.i1).mono ?_; rintro e w2 ⟨s2, g2, n2, r2, rfl, E⟩; have S3 := S0.swap E; clear E; obtain ⟨sa2, sc2, rfl⟩ := qzk S3.own.rs; obtain ⟨ga2, gc2, rfl⟩ := qzk S3.own.rg; obtain ⟨na2, nc2, rfl⟩ := qzk S3.own.rn; obtain ⟨ra2, rc2, rfl⟩ := qzk S3.own.rr) | (refine wpList_store_mid rfl 147 (.tmp 8) _ rfl (w.heap.size + 1 + 1) 0 (qze A.camera (.slice sa2 A.slots.length sc2) (.slice ga2 A.guides.length gc2) (.slice na2 A.nodes.length nc2) (.slice ra2 A.vers.length rc2) (qz6k A h) d tk).toArray ?dx ?dy ?dt (qzt _ _ _ _ _ _ _ _) (qz13 _ _ _ _ _ _ _ _ _ _ _ _ _ _ _ _) ?_))
 try (case lx => rfl)
 try (case lc => exact S0.row)
 try (case dx => rfl)
 try (case dy => rfl)
 try (case dt => exact S3.to)
 refine bodyPost_ret (v := .agg (qze A.camera (.slice sa2 A.slots.length sc2) (.slice ga2 A.guides.length gc2) (.slice na2 A.nodes.length nc2) (.slice ra2 A.vers.length rc2) (qz6k A h) d tk).toArray) ?_ rfl ⟨_, _, _, _, by rw [hd.out, hdc.out], by rw [hd.out]; exact S3.fin2 _⟩
 exact qz5 Try.results109 _ _ (w.heap.size + 1 + 1) 0 rfl (qze A.camera (.slice sa2 A.slots.length sc2) (.slice ga2 A.guides.length gc2) (.slice na2 A.nodes.length nc2) (.slice ra2 A.vers.length rc2) (qz6k A h) d tk) _ (S3.out2 _ rfl) Try.underlying147 rfl (qz9 _ _ _ _ _ _ _ _)
theorem qz8j (base : Nat) (A : Ar) (h : Hd) (d : Dd) (tk : Bool) (me clock : Int) (s g n r : Value) (w : World) (hbase : base <= w.heap.size) (hA : A.size <= 1048576) (O : qz38 base w s g n r A) (x y z u : Int) (hOk : qz1o x y z u A = true) (R : qza3 A h me) (e : 20 <= h.at_ /\ h.at_ ≠ 21) :
  Calls Try.prog 109 #[.agg #[.int .i64 x, .int .i64 y, .int .i64 z, .int .i64 u], .agg (qze A.camera s g n r h d tk).toArray, .int .i64 me, .int .i64 clock] w fun e w' => ∃ s' g' n' r', e = .returned (.agg (qze (qz21 A h tk me) s' g' n' r' (qz15 x y z u A h d tk me clock).2.1 (qz15 x y z u A h d tk me clock).2.2.1 (qz15 x y z u A h d tk me clock).2.2.2).toArray) /\ qz2b base w w' s g n r s' g' n' r' (qz15 x y z u A h d tk me clock).1 := by
 have hA' := hA
 unfold Ar.size at hA
 obtain ⟨sa, sc, rfl⟩ := qzk O.rs
 obtain ⟨ga, gc, rfl⟩ := qzk O.rg
 obtain ⟨na, nc, rfl⟩ := qzk O.rn
 obtain ⟨ra, rc, rfl⟩ := qzk O.rr
 obtain ⟨S0, P0⟩ := qz1i base w (.slice sa A.slots.length sc) (.slice ga A.guides.length gc) (.slice na A.nodes.length nc) (.slice ra A.vers.length rc) A (qze A.camera (.slice sa A.slots.length sc) (.slice ga A.guides.length gc) (.slice na A.nodes.length nc) (.slice ra A.vers.length rc) h d tk) [.int .i64 0, .slice none 0 0, .slice none 0 0, .slice none 0 0, .slice none 0 0, .int .i64 0, .int .i64 0, .int .i64 0, .int .i64 0, .int .i64 0, .int .i64 0, .int .i64 0, .int .i64 0, .int .i64 0, .int .i64 0, .int .i64 0, .int .i64 0, .int .i64 0, .int .i64 0, .int .i64 0, .int .i64 0, .int .i64 0, .int .i64 0, .int .i64 0, .int .i64 0, .int .i64 0, .int .i64 0, .int .i64 0, .int .i64 0, .int .i64 0, .int .i64 0, .int .i64 0, .bool false] 147 25 x y z u O rfl rfl
 have hd : Hid ((qz15 x y z u A h d tk me clock) = ((qz4a A h).1, (qz4a A h).2, d, tk)) := by show _ = _; unfold qz15; rw [if_neg (by omega), if_neg (by omega), if_neg (by omega), if_neg (by omega), if_neg (by omega), if_neg (by omega)]
 have hdc : Hid (qz21 A h tk me = A.camera) := by show _ = _; unfold qz21; rw [if_neg (by omega)]
 have eH : Hid (20 <= h.at_ /\ h.at_ ≠ 21) := e
 go_enter Try.func109, Try.ntmps109
 have tok : True := trivial
 go_wp2_with (clear tok; refine qz2e (((w.alloc (.cells #[.int .i64 x, .int .i64 y, .int .i64 z, .int .i64 u] 25)).alloc (.cells (qze A.camera (.slice sa A.slots.length sc) (.slice ga A.guides.length gc) (.slice na A.nodes.length nc) (.slice ra A.vers.length rc) h d tk).toArray 147)).alloc (.cells #[.int .i64 0, .slice none 0 0, .slice none 0 0, .slice none 0 0, .slice none 0 0, .int .i64 0, .int .i64 0, .int .i64 0, .int .i64 0, .int .i64 0, .int .i64 0, .int .i64 0, .int .i64 0, .int .i64 0, .int .i64 0, .int .i64 0, .int .i64 0, .int .i64 0, .int .i64 0, .int .i64 0, .int .i64 0, .int .i64 0, .int .i64 0, .int .i64 0, .int .i64 0, .int .i64 0, .int .i64 0, .int .i64 0, .int .i64 0, .int .i64 0, .int .i64 0, .int .i64 0, .bool false] 147)) ?_)
 generalize hw0 : ((w.alloc (.cells #[.int .i64 x, .int .i64 y, .int .i64 z, .int .i64 u] 25)).alloc (.cells (qze A.camera (.slice sa A.slots.length sc) (.slice ga A.guides.length gc) (.slice na A.nodes.length nc) (.slice ra A.vers.length rc) h d tk).toArray 147)).alloc (.cells #[.int .i64 0, .slice none 0 0, .slice none 0 0, .slice none 0 0, .slice none 0 0, .int .i64 0, .int .i64 0, .int .i64 0, .int .i64 0, .int .i64 0, .int .i64 0, .int .i64 0, .int .i64 0, .int .i64 0, .int .i64 0, .int .i64 0, .int .i64 0, .int .i64 0, .int .i64 0, .int .i64 0, .int .i64 0, .int .i64 0, .int .i64 0, .int .i64 0, .int .i64 0, .int .i64 0, .int .i64 0, .int .i64 0, .int .i64 0, .int .i64 0, .int .i64 0, .int .i64 0, .bool false] 147) = w0 at *
 clear hw0
 show wpList _ _ _ _ _ w0
 have q5 := S0.cell 5 rfl
 obtain ⟨p0, p1, p2, p3⟩ := id P0
 have b1 : (h.at_ == 1) = false := by simp; omega
 have b6 : (h.at_ == 6) = false := by simp; omega
 have c5 : ¬ (h.at_ <= 5) := by omega
 have c12 : ¬ (h.at_ <= 12) := by omega
 have c18 : ¬ (h.at_ <= 18) := by omega
 have b19 : (h.at_ == 19) = false := by simp; omega
 clear e
 go_wp2_with (first | (refine wpList_load_mid rfl 147 (.tmp 5) rfl (w.heap.size + 1) 0 ?lx (qze A.camera (.slice sa A.slots.length sc) (.slice ga A.guides.length gc) (.slice na A.nodes.length nc) (.slice ra A.vers.length rc) h d tk) _ ?lc Try.underlying147 rfl (qz9 _ _ _ _ _ _ _ _) ?_) | (go_at_call 116; refine (qz9d base A h d tk _ _ _ _ _ (Nat.le_trans hbase S0.but.size) hA' S0.own x y z u hOk R.v0 R.v1 R.x0 R.x1 R.o0 R.o1 (by have := eH.out; omega)).mono ?_; rintro e w2 ⟨s2, g2, n2, r2, rfl, E⟩; have S3 := S0.swap E; clear E; obtain ⟨sa2, sc2, rfl⟩ := qzk S3.own.rs; obtain ⟨ga2, gc2, rfl⟩ := qzk S3.own.rg; obtain ⟨na2, nc2, rfl⟩ := qzk S3.own.rn; obtain ⟨ra2, rc2, rfl⟩ := qzk S3.own.rr) | (refine wpList_store_mid rfl 147 (.tmp 8) _ rfl (w.heap.size + 1 + 1) 0 (qze A.camera (.slice sa2 (qz4a A h).1.slots.length sc2) (.slice ga2 (qz4a A h).1.guides.length gc2) (.slice na2 (qz4a A h).1.nodes.length nc2) (.slice ra2 (qz4a A h).1.vers.length rc2) (qz4a A h).2 d tk).toArray ?dx ?dy ?dt (qzt _ _ _ _ _ _ _ _) (qz13 _ _ _ _ _ _ _ _ _ _ _ _ _ _ _ _) ?_))
 try (case lx => rfl)
 try (case lc => exact S0.row)
 try (case dx => rfl)
 try (case dy => rfl)
 try (case dt => exact S3.to)
 refine bodyPost_ret (v := .agg (qze A.camera (.slice sa2 (qz4a A h).1.slots.length sc2) (.slice ga2 (qz4a A h).1.guides.length gc2) (.slice na2 (qz4a A h).1.nodes.length nc2) (.slice ra2 (qz4a A h).1.vers.length rc2) (qz4a A h).2 d tk).toArray) ?_ rfl ⟨_, _, _, _, by rw [hd.out, hdc.out], by rw [hd.out]; exact S3.fin2 _⟩
 exact qz5 Try.results109 _ _ (w.heap.size + 1 + 1) 0 rfl (qze A.camera (.slice sa2 (qz4a A h).1.slots.length sc2) (.slice ga2 (qz4a A h).1.guides.length gc2) (.slice na2 (qz4a A h).1.nodes.length nc2) (.slice ra2 (qz4a A h).1.vers.length rc2) (qz4a A h).2 d tk) _ (S3.out2 _ rfl) Try.underlying147 rfl (qz9 _ _ _ _ _ _ _ _)
theorem qz9u (base : Nat) (A : Ar) (h : Hd) (d : Dd) (tk : Bool) (me clock : Int) (s g n r : Value) (w : World) (hbase : base <= w.heap.size) (hA : A.size <= 1048576) (O : qz38 base w s g n r A) (x y z u : Int) (hOk : qz1o x y z u A = true) (R : qza3 A h me) (h1 : 1 <= h.at_) (h23 : h.at_ <= 23) :
  Calls Try.prog 109 #[.agg #[.int .i64 x, .int .i64 y, .int .i64 z, .int .i64 u], .agg (qze A.camera s g n r h d tk).toArray, .int .i64 me, .int .i64 clock] w fun e w' => ∃ s' g' n' r', e = .returned (.agg (qze (qz21 A h tk me) s' g' n' r' (qz15 x y z u A h d tk me clock).2.1 (qz15 x y z u A h d tk me clock).2.2.1 (qz15 x y z u A h d tk me clock).2.2.2).toArray) /\ qz2b base w w' s g n r s' g' n' r' (qz15 x y z u A h d tk me clock).1 := by
 rcases (show h.at_ = 1 ∨ h.at_ = 6 ∨ (2 <= h.at_ /\ h.at_ <= 5) ∨ (7 <= h.at_ /\ h.at_ <= 12) ∨ (13 <= h.at_ /\ h.at_ <= 18) ∨ h.at_ = 19 ∨ h.at_ = 21 ∨ (20 <= h.at_ /\ h.at_ ≠ 21) by omega) with e | e | e | e | e | e | e | e
 ·exact qz9b base A h d tk me clock s g n r w hbase hA O x y z u hOk R e
 ·exact qz99 base A h d tk me clock s g n r w hbase hA O x y z u hOk R e
 ·exact qz9s base A h d tk me clock s g n r w hbase hA O x y z u hOk R e
 ·exact qz9z base A h d tk me clock s g n r w hbase hA O x y z u hOk R e
 ·exact qz88 base A h d tk me clock s g n r w hbase hA O x y z u hOk R e
 ·exact qz8c base A h d tk me clock s g n r w hbase hA O x y z u hOk R e
 ·exact qz8e base A h d tk me clock s g n r w hbase hA O x y z u hOk R e
 ·exact qz8j base A h d tk me clock s g n r w hbase hA O x y z u hOk R e
end
section
attribute [local go_sem ↓] Go.wp_at_zero Go.wp_at_succ
def qz4r (A : Ar) (n : Int) : Bool := inB n 0 ((A.nodes.length : Int) - 1)
def qz6m (A : Ar) (n : Int) : Bool := inB n 0 ((A.vers.length : Int) - 1)
def qz2f (A : Ar) (h : Hd) : Bool := qz4r A h.x_ && qz4r A h.pred && ((h.curr == -1) || qz4r A h.curr) && ((h.new_ == -1) || qz4r A h.new_) && qz6m A h.ver && qz6m A h.predVer && qz6m A h.currVer
theorem qz9t (A : Ar) (h : Hd) (a0 a1 a2 a3 : Option Addr) (c0 c1 c2 c3 : Nat) (w : World) (hA : A.size <= 1048576) :
  Calls Try.prog 103 #[.agg #[.int .i64 A.camera, .slice a0 A.slots.length c0, .slice a1 A.guides.length c1, .slice a2 A.nodes.length c2, .slice a3 A.vers.length c3], .agg (hdC h).toArray] w fun e w' => e = .returned (.bool (qz2f A h)) /\ Below w.heap.size w w' := by
 unfold Ar.size at hA
 have X0 := World.rangeAt_alloc (qzd w [.int .i64 A.camera, .slice a0 A.slots.length c0, .slice a1 A.guides.length c1, .slice a2 A.nodes.length c2, .slice a3 A.vers.length c3] 38) (.cells (hdC h).toArray 27)
 have H0 := qzd (w.alloc (.cells #[.int .i64 A.camera, .slice a0 A.slots.length c0, .slice a1 A.guides.length c1, .slice a2 A.nodes.length c2, .slice a3 A.vers.length c3] 38)) (hdC h) 27
 have K0 := ((Below.refl w.heap.size w).alloc (Nat.le_refl _) (.cells #[.int .i64 A.camera, .slice a0 A.slots.length c0, .slice a1 A.guides.length c1, .slice a2 A.nodes.length c2, .slice a3 A.vers.length c3] 38)).alloc (by simp) (.cells (hdC h).toArray 27)
 have hz0 : w.heap.size + 1 < ((w.alloc (.cells #[.int .i64 A.camera, .slice a0 A.slots.length c0, .slice a1 A.guides.length c1, .slice a2 A.nodes.length c2, .slice a3 A.vers.length c3] 38)).alloc (.cells (hdC h).toArray 27)).heap.size := by simp
 simp only [World.size_alloc] at H0
 go_enter Try.func103, Try.ntmps103
 have tok : True := trivial
 go_wp2_with (clear tok; refine qz2e ((w.alloc (.cells #[.int .i64 A.camera, .slice a0 A.slots.length c0, .slice a1 A.guides.length c1, .slice a2 A.nodes.length c2, .slice a3 A.vers.length c3] 38)).alloc (.cells (hdC h).toArray 27)) ?_)
 generalize hw0 : (w.alloc (.cells #[.int .i64 A.camera, .slice a0 A.slots.length c0, .slice a1 A.guides.length c1, .slice a2 A.nodes.length c2, .slice a3 A.vers.length c3] 38)).alloc (.cells (hdC h).toArray 27) = w0 at *
 show wpList _ _ _ _ _ w0
 clear hw0
 obtain ⟨x0, x1, x2, x3, x4⟩ := row5 X0
 have q10 : w0.cell? ⟨w.heap.size + 1, 10, none⟩ = some (.int .i64 h.x_) := by simpa using H0 10 (.int .i64 h.x_) rfl
 have q14 : w0.cell? ⟨w.heap.size + 1, 14, none⟩ = some (.int .i64 h.pred) := by simpa using H0 14 (.int .i64 h.pred) rfl
 have q16 : w0.cell? ⟨w.heap.size + 1, 16, none⟩ = some (.int .i64 h.curr) := by simpa using H0 16 (.int .i64 h.curr) rfl
 have q18 : w0.cell? ⟨w.heap.size + 1, 18, none⟩ = some (.int .i64 h.new_) := by simpa using H0 18 (.int .i64 h.new_) rfl
 have q11 : w0.cell? ⟨w.heap.size + 1, 11, none⟩ = some (.int .i64 h.ver) := by simpa using H0 11 (.int .i64 h.ver) rfl
 have q15 : w0.cell? ⟨w.heap.size + 1, 15, none⟩ = some (.int .i64 h.predVer) := by simpa using H0 15 (.int .i64 h.predVer) rfl
 have q17 : w0.cell? ⟨w.heap.size + 1, 17, none⟩ = some (.int .i64 h.currVer) := by simpa using H0 17 (.int .i64 h.currVer) rfl
 go_wp2_with fail
 clear x0 x1 x2 x3 x4 q10 q14 q16 q18 q11 q15 q17
 refine (qz3n _ _ _ _ _ _ _ _ _ (by omega)).mono ?_
 rintro e w1 ⟨rfl, b1⟩
 have X1 := qz0 X0 b1 (by omega)
 have H1 := qz0 H0 b1 (by omega)
 have K1 := K0.trans (b1.mono (by omega))
 have hz1 := Nat.lt_of_lt_of_le hz0 b1.size
 clear X0 H0 K0 b1
 obtain ⟨x0, x1, x2, x3, x4⟩ := row5 X1
 have q10 : w1.cell? ⟨w.heap.size + 1, 10, none⟩ = some (.int .i64 h.x_) := by simpa using H1 10 (.int .i64 h.x_) rfl
 have q14 : w1.cell? ⟨w.heap.size + 1, 14, none⟩ = some (.int .i64 h.pred) := by simpa using H1 14 (.int .i64 h.pred) rfl
 have q16 : w1.cell? ⟨w.heap.size + 1, 16, none⟩ = some (.int .i64 h.curr) := by simpa using H1 16 (.int .i64 h.curr) rfl
 have q18 : w1.cell? ⟨w.heap.size + 1, 18, none⟩ = some (.int .i64 h.new_) := by simpa using H1 18 (.int .i64 h.new_) rfl
 have q11 : w1.cell? ⟨w.heap.size + 1, 11, none⟩ = some (.int .i64 h.ver) := by simpa using H1 11 (.int .i64 h.ver) rfl
 have q15 : w1.cell? ⟨w.heap.size + 1, 15, none⟩ = some (.int .i64 h.predVer) := by simpa using H1 15 (.int .i64 h.predVer) rfl
 have q17 : w1.cell? ⟨w.heap.size + 1, 17, none⟩ = some (.int .i64 h.currVer) := by simpa using H1 17 (.int .i64 h.currVer) rfl
 cases ex_ : inB h.x_ 0 ((A.nodes.length : Int) - 1)
 ·have kx_ : qz4r A h.x_ = false := ex_
  have hv : qz2f A h = false := by simp [qz2f, kx_]
  go_wp2
  go_ret
  exact ⟨by first | rfl | (rw [hv]; rfl), K1⟩
 have kx_ : qz4r A h.x_ = true := ex_
 go_wp2_with fail
 clear x0 x1 x2 x3 x4 q10 q14 q16 q18 q11 q15 q17
 refine (qz3n _ _ _ _ _ _ _ _ _ (by omega)).mono ?_
 rintro e w2 ⟨rfl, b2⟩
 have X2 := qz0 X1 b2 (by omega)
 have H2 := qz0 H1 b2 (by omega)
 have K2 := K1.trans (b2.mono (by omega))
 have hz2 := Nat.lt_of_lt_of_le hz1 b2.size
 clear X1 H1 K1 b2
 obtain ⟨x0, x1, x2, x3, x4⟩ := row5 X2
 have q10 : w2.cell? ⟨w.heap.size + 1, 10, none⟩ = some (.int .i64 h.x_) := by simpa using H2 10 (.int .i64 h.x_) rfl
 have q14 : w2.cell? ⟨w.heap.size + 1, 14, none⟩ = some (.int .i64 h.pred) := by simpa using H2 14 (.int .i64 h.pred) rfl
 have q16 : w2.cell? ⟨w.heap.size + 1, 16, none⟩ = some (.int .i64 h.curr) := by simpa using H2 16 (.int .i64 h.curr) rfl
 have q18 : w2.cell? ⟨w.heap.size + 1, 18, none⟩ = some (.int .i64 h.new_) := by simpa using H2 18 (.int .i64 h.new_) rfl
 have q11 : w2.cell? ⟨w.heap.size + 1, 11, none⟩ = some (.int .i64 h.ver) := by simpa using H2 11 (.int .i64 h.ver) rfl
 have q15 : w2.cell? ⟨w.heap.size + 1, 15, none⟩ = some (.int .i64 h.predVer) := by simpa using H2 15 (.int .i64 h.predVer) rfl
 have q17 : w2.cell? ⟨w.heap.size + 1, 17, none⟩ = some (.int .i64 h.currVer) := by simpa using H2 17 (.int .i64 h.currVer) rfl
 cases epred : inB h.pred 0 ((A.nodes.length : Int) - 1)
 ·have kpred : qz4r A h.pred = false := epred
  have hv : qz2f A h = false := by simp [qz2f, kpred]
  go_wp2
  go_ret
  exact ⟨by first | rfl | (rw [hv]; rfl), K2⟩
 have kpred : qz4r A h.pred = true := epred
 by_cases mcurr : h.curr = -1
 case pos =>
  have bcurr : (h.curr == -1) = true := by simp [mcurr]
  have dcurr : (h.curr != -1) = false := by simp [mcurr]
  by_cases mnew_ : h.new_ = -1
  case pos =>
   have bnew_ : (h.new_ == -1) = true := by simp [mnew_]
   have dnew_ : (h.new_ != -1) = false := by simp [mnew_]
   go_wp2_with fail
   clear x0 x1 x2 x3 x4 q10 q14 q16 q18 q11 q15 q17
   refine (qz2j _ _ _ _ _ _ _ _ _ (by omega)).mono ?_
   rintro e w3 ⟨rfl, b3⟩
   have X3 := qz0 X2 b3 (by omega)
   have H3 := qz0 H2 b3 (by omega)
   have K3 := K2.trans (b3.mono (by omega))
   have hz3 := Nat.lt_of_lt_of_le hz2 b3.size
   clear X2 H2 K2 b3
   obtain ⟨x0, x1, x2, x3, x4⟩ := row5 X3
   have q10 : w3.cell? ⟨w.heap.size + 1, 10, none⟩ = some (.int .i64 h.x_) := by simpa using H3 10 (.int .i64 h.x_) rfl
   have q14 : w3.cell? ⟨w.heap.size + 1, 14, none⟩ = some (.int .i64 h.pred) := by simpa using H3 14 (.int .i64 h.pred) rfl
   have q16 : w3.cell? ⟨w.heap.size + 1, 16, none⟩ = some (.int .i64 h.curr) := by simpa using H3 16 (.int .i64 h.curr) rfl
   have q18 : w3.cell? ⟨w.heap.size + 1, 18, none⟩ = some (.int .i64 h.new_) := by simpa using H3 18 (.int .i64 h.new_) rfl
   have q11 : w3.cell? ⟨w.heap.size + 1, 11, none⟩ = some (.int .i64 h.ver) := by simpa using H3 11 (.int .i64 h.ver) rfl
   have q15 : w3.cell? ⟨w.heap.size + 1, 15, none⟩ = some (.int .i64 h.predVer) := by simpa using H3 15 (.int .i64 h.predVer) rfl
   have q17 : w3.cell? ⟨w.heap.size + 1, 17, none⟩ = some (.int .i64 h.currVer) := by simpa using H3 17 (.int .i64 h.currVer) rfl
   cases ever : inB h.ver 0 ((A.vers.length : Int) - 1)
   ·have kver : qz6m A h.ver = false := ever
    have hv : qz2f A h = false := by simp [qz2f, kver]
    go_wp2
    go_ret
    exact ⟨by first | rfl | (rw [hv]; rfl), K3⟩
   have kver : qz6m A h.ver = true := ever
   go_wp2_with fail
   clear x0 x1 x2 x3 x4 q10 q14 q16 q18 q11 q15 q17
   refine (qz2j _ _ _ _ _ _ _ _ _ (by omega)).mono ?_
   rintro e w4 ⟨rfl, b4⟩
   have X4 := qz0 X3 b4 (by omega)
   have H4 := qz0 H3 b4 (by omega)
   have K4 := K3.trans (b4.mono (by omega))
   have hz4 := Nat.lt_of_lt_of_le hz3 b4.size
   clear X3 H3 K3 b4
   obtain ⟨x0, x1, x2, x3, x4⟩ := row5 X4
   have q10 : w4.cell? ⟨w.heap.size + 1, 10, none⟩ = some (.int .i64 h.x_) := by simpa using H4 10 (.int .i64 h.x_) rfl
   have q14 : w4.cell? ⟨w.heap.size + 1, 14, none⟩ = some (.int .i64 h.pred) := by simpa using H4 14 (.int .i64 h.pred) rfl
   have q16 : w4.cell? ⟨w.heap.size + 1, 16, none⟩ = some (.int .i64 h.curr) := by simpa using H4 16 (.int .i64 h.curr) rfl
   have q18 : w4.cell? ⟨w.heap.size + 1, 18, none⟩ = some (.int .i64 h.new_) := by simpa using H4 18 (.int .i64 h.new_) rfl
   have q11 : w4.cell? ⟨w.heap.size + 1, 11, none⟩ = some (.int .i64 h.ver) := by simpa using H4 11 (.int .i64 h.ver) rfl
   have q15 : w4.cell? ⟨w.heap.size + 1, 15, none⟩ = some (.int .i64 h.predVer) := by simpa using H4 15 (.int .i64 h.predVer) rfl
   have q17 : w4.cell? ⟨w.heap.size + 1, 17, none⟩ = some (.int .i64 h.currVer) := by simpa using H4 17 (.int .i64 h.currVer) rfl
   cases epredVer : inB h.predVer 0 ((A.vers.length : Int) - 1)
   ·have kpredVer : qz6m A h.predVer = false := epredVer
    have hv : qz2f A h = false := by simp [qz2f, kpredVer]
    go_wp2
    go_ret
    exact ⟨by first | rfl | (rw [hv]; rfl), K4⟩
   have kpredVer : qz6m A h.predVer = true := epredVer
   go_wp2_with fail
   clear x0 x1 x2 x3 x4 q10 q14 q16 q18 q11 q15 q17
   refine (qz2j _ _ _ _ _ _ _ _ _ (by omega)).mono ?_
   rintro e w5 ⟨rfl, b5⟩
   have X5 := qz0 X4 b5 (by omega)
   have H5 := qz0 H4 b5 (by omega)
   have K5 := K4.trans (b5.mono (by omega))
   have hz5 := Nat.lt_of_lt_of_le hz4 b5.size
   clear X4 H4 K4 b5
   obtain ⟨x0, x1, x2, x3, x4⟩ := row5 X5
   have q10 : w5.cell? ⟨w.heap.size + 1, 10, none⟩ = some (.int .i64 h.x_) := by simpa using H5 10 (.int .i64 h.x_) rfl
   have q14 : w5.cell? ⟨w.heap.size + 1, 14, none⟩ = some (.int .i64 h.pred) := by simpa using H5 14 (.int .i64 h.pred) rfl
   have q16 : w5.cell? ⟨w.heap.size + 1, 16, none⟩ = some (.int .i64 h.curr) := by simpa using H5 16 (.int .i64 h.curr) rfl
   have q18 : w5.cell? ⟨w.heap.size + 1, 18, none⟩ = some (.int .i64 h.new_) := by simpa using H5 18 (.int .i64 h.new_) rfl
   have q11 : w5.cell? ⟨w.heap.size + 1, 11, none⟩ = some (.int .i64 h.ver) := by simpa using H5 11 (.int .i64 h.ver) rfl
   have q15 : w5.cell? ⟨w.heap.size + 1, 15, none⟩ = some (.int .i64 h.predVer) := by simpa using H5 15 (.int .i64 h.predVer) rfl
   have q17 : w5.cell? ⟨w.heap.size + 1, 17, none⟩ = some (.int .i64 h.currVer) := by simpa using H5 17 (.int .i64 h.currVer) rfl
   have hv : qz2f A h = inB h.currVer 0 ((A.vers.length : Int) - 1) := by unfold qz2f; rw [kx_, kpred, bcurr, bnew_, kver, kpredVer]; rfl
   go_wp2
   go_ret
   exact ⟨by first | rfl | (rw [hv]; rfl), K5⟩
  have bnew_ : (h.new_ == -1) = false := by simp [mnew_]
  have dnew_ : (h.new_ != -1) = true := by simp [mnew_]
  go_wp2_with fail
  clear x0 x1 x2 x3 x4 q10 q14 q16 q18 q11 q15 q17
  refine (qz3n _ _ _ _ _ _ _ _ _ (by omega)).mono ?_
  rintro e w3 ⟨rfl, b3⟩
  have X3 := qz0 X2 b3 (by omega)
  have H3 := qz0 H2 b3 (by omega)
  have K3 := K2.trans (b3.mono (by omega))
  have hz3 := Nat.lt_of_lt_of_le hz2 b3.size
  clear X2 H2 K2 b3
  obtain ⟨x0, x1, x2, x3, x4⟩ := row5 X3
  have q10 : w3.cell? ⟨w.heap.size + 1, 10, none⟩ = some (.int .i64 h.x_) := by simpa using H3 10 (.int .i64 h.x_) rfl
  have q14 : w3.cell? ⟨w.heap.size + 1, 14, none⟩ = some (.int .i64 h.pred) := by simpa using H3 14 (.int .i64 h.pred) rfl
  have q16 : w3.cell? ⟨w.heap.size + 1, 16, none⟩ = some (.int .i64 h.curr) := by simpa using H3 16 (.int .i64 h.curr) rfl
  have q18 : w3.cell? ⟨w.heap.size + 1, 18, none⟩ = some (.int .i64 h.new_) := by simpa using H3 18 (.int .i64 h.new_) rfl
  have q11 : w3.cell? ⟨w.heap.size + 1, 11, none⟩ = some (.int .i64 h.ver) := by simpa using H3 11 (.int .i64 h.ver) rfl
  have q15 : w3.cell? ⟨w.heap.size + 1, 15, none⟩ = some (.int .i64 h.predVer) := by simpa using H3 15 (.int .i64 h.predVer) rfl
  have q17 : w3.cell? ⟨w.heap.size + 1, 17, none⟩ = some (.int .i64 h.currVer) := by simpa using H3 17 (.int .i64 h.currVer) rfl
  cases enew_ : inB h.new_ 0 ((A.nodes.length : Int) - 1)
  ·have knew_ : qz4r A h.new_ = false := enew_
   have hv : qz2f A h = false := by simp [qz2f, knew_, mnew_]
   go_wp2
   go_ret
   exact ⟨by first | rfl | (rw [hv]; rfl), K3⟩
  have knew_ : qz4r A h.new_ = true := enew_
  go_wp2_with fail
  clear x0 x1 x2 x3 x4 q10 q14 q16 q18 q11 q15 q17
  refine (qz2j _ _ _ _ _ _ _ _ _ (by omega)).mono ?_
  rintro e w4 ⟨rfl, b4⟩
  have X4 := qz0 X3 b4 (by omega)
  have H4 := qz0 H3 b4 (by omega)
  have K4 := K3.trans (b4.mono (by omega))
  have hz4 := Nat.lt_of_lt_of_le hz3 b4.size
  clear X3 H3 K3 b4
  obtain ⟨x0, x1, x2, x3, x4⟩ := row5 X4
  have q10 : w4.cell? ⟨w.heap.size + 1, 10, none⟩ = some (.int .i64 h.x_) := by simpa using H4 10 (.int .i64 h.x_) rfl
  have q14 : w4.cell? ⟨w.heap.size + 1, 14, none⟩ = some (.int .i64 h.pred) := by simpa using H4 14 (.int .i64 h.pred) rfl
  have q16 : w4.cell? ⟨w.heap.size + 1, 16, none⟩ = some (.int .i64 h.curr) := by simpa using H4 16 (.int .i64 h.curr) rfl
  have q18 : w4.cell? ⟨w.heap.size + 1, 18, none⟩ = some (.int .i64 h.new_) := by simpa using H4 18 (.int .i64 h.new_) rfl
  have q11 : w4.cell? ⟨w.heap.size + 1, 11, none⟩ = some (.int .i64 h.ver) := by simpa using H4 11 (.int .i64 h.ver) rfl
  have q15 : w4.cell? ⟨w.heap.size + 1, 15, none⟩ = some (.int .i64 h.predVer) := by simpa using H4 15 (.int .i64 h.predVer) rfl
  have q17 : w4.cell? ⟨w.heap.size + 1, 17, none⟩ = some (.int .i64 h.currVer) := by simpa using H4 17 (.int .i64 h.currVer) rfl
  cases ever : inB h.ver 0 ((A.vers.length : Int) - 1)
  ·have kver : qz6m A h.ver = false := ever
   have hv : qz2f A h = false := by simp [qz2f, kver]
   go_wp2
   go_ret
   exact ⟨by first | rfl | (rw [hv]; rfl), K4⟩
  have kver : qz6m A h.ver = true := ever
  go_wp2_with fail
  clear x0 x1 x2 x3 x4 q10 q14 q16 q18 q11 q15 q17
  refine (qz2j _ _ _ _ _ _ _ _ _ (by omega)).mono ?_
  rintro e w5 ⟨rfl, b5⟩
  have X5 := qz0 X4 b5 (by omega)
  have H5 := qz0 H4 b5 (by omega)
  have K5 := K4.trans (b5.mono (by omega))
  have hz5 := Nat.lt_of_lt_of_le hz4 b5.size
  clear X4 H4 K4 b5
  obtain ⟨x0, x1, x2, x3, x4⟩ := row5 X5
  have q10 : w5.cell? ⟨w.heap.size + 1, 10, none⟩ = some (.int .i64 h.x_) := by simpa using H5 10 (.int .i64 h.x_) rfl
  have q14 : w5.cell? ⟨w.heap.size + 1, 14, none⟩ = some (.int .i64 h.pred) := by simpa using H5 14 (.int .i64 h.pred) rfl
  have q16 : w5.cell? ⟨w.heap.size + 1, 16, none⟩ = some (.int .i64 h.curr) := by simpa using H5 16 (.int .i64 h.curr) rfl
  have q18 : w5.cell? ⟨w.heap.size + 1, 18, none⟩ = some (.int .i64 h.new_) := by simpa using H5 18 (.int .i64 h.new_) rfl
  have q11 : w5.cell? ⟨w.heap.size + 1, 11, none⟩ = some (.int .i64 h.ver) := by simpa using H5 11 (.int .i64 h.ver) rfl
  have q15 : w5.cell? ⟨w.heap.size + 1, 15, none⟩ = some (.int .i64 h.predVer) := by simpa using H5 15 (.int .i64 h.predVer) rfl
  have q17 : w5.cell? ⟨w.heap.size + 1, 17, none⟩ = some (.int .i64 h.currVer) := by simpa using H5 17 (.int .i64 h.currVer) rfl
  cases epredVer : inB h.predVer 0 ((A.vers.length : Int) - 1)
  ·have kpredVer : qz6m A h.predVer = false := epredVer
   have hv : qz2f A h = false := by simp [qz2f, kpredVer]
   go_wp2
   go_ret
   exact ⟨by first | rfl | (rw [hv]; rfl), K5⟩
  have kpredVer : qz6m A h.predVer = true := epredVer
  go_wp2_with fail
  clear x0 x1 x2 x3 x4 q10 q14 q16 q18 q11 q15 q17
  refine (qz2j _ _ _ _ _ _ _ _ _ (by omega)).mono ?_
  rintro e w6 ⟨rfl, b6⟩
  have X6 := qz0 X5 b6 (by omega)
  have H6 := qz0 H5 b6 (by omega)
  have K6 := K5.trans (b6.mono (by omega))
  have hz6 := Nat.lt_of_lt_of_le hz5 b6.size
  clear X5 H5 K5 b6
  obtain ⟨x0, x1, x2, x3, x4⟩ := row5 X6
  have q10 : w6.cell? ⟨w.heap.size + 1, 10, none⟩ = some (.int .i64 h.x_) := by simpa using H6 10 (.int .i64 h.x_) rfl
  have q14 : w6.cell? ⟨w.heap.size + 1, 14, none⟩ = some (.int .i64 h.pred) := by simpa using H6 14 (.int .i64 h.pred) rfl
  have q16 : w6.cell? ⟨w.heap.size + 1, 16, none⟩ = some (.int .i64 h.curr) := by simpa using H6 16 (.int .i64 h.curr) rfl
  have q18 : w6.cell? ⟨w.heap.size + 1, 18, none⟩ = some (.int .i64 h.new_) := by simpa using H6 18 (.int .i64 h.new_) rfl
  have q11 : w6.cell? ⟨w.heap.size + 1, 11, none⟩ = some (.int .i64 h.ver) := by simpa using H6 11 (.int .i64 h.ver) rfl
  have q15 : w6.cell? ⟨w.heap.size + 1, 15, none⟩ = some (.int .i64 h.predVer) := by simpa using H6 15 (.int .i64 h.predVer) rfl
  have q17 : w6.cell? ⟨w.heap.size + 1, 17, none⟩ = some (.int .i64 h.currVer) := by simpa using H6 17 (.int .i64 h.currVer) rfl
  have hv : qz2f A h = inB h.currVer 0 ((A.vers.length : Int) - 1) := by unfold qz2f; rw [kx_, kpred, bcurr, bnew_, knew_, kver, kpredVer]; rfl
  go_wp2
  go_ret
  exact ⟨by first | rfl | (rw [hv]; rfl), K6⟩
 have bcurr : (h.curr == -1) = false := by simp [mcurr]
 have dcurr : (h.curr != -1) = true := by simp [mcurr]
 go_wp2_with fail
 clear x0 x1 x2 x3 x4 q10 q14 q16 q18 q11 q15 q17
 refine (qz3n _ _ _ _ _ _ _ _ _ (by omega)).mono ?_
 rintro e w3 ⟨rfl, b3⟩
 have X3 := qz0 X2 b3 (by omega)
 have H3 := qz0 H2 b3 (by omega)
 have K3 := K2.trans (b3.mono (by omega))
 have hz3 := Nat.lt_of_lt_of_le hz2 b3.size
 clear X2 H2 K2 b3
 obtain ⟨x0, x1, x2, x3, x4⟩ := row5 X3
 have q10 : w3.cell? ⟨w.heap.size + 1, 10, none⟩ = some (.int .i64 h.x_) := by simpa using H3 10 (.int .i64 h.x_) rfl
 have q14 : w3.cell? ⟨w.heap.size + 1, 14, none⟩ = some (.int .i64 h.pred) := by simpa using H3 14 (.int .i64 h.pred) rfl
 have q16 : w3.cell? ⟨w.heap.size + 1, 16, none⟩ = some (.int .i64 h.curr) := by simpa using H3 16 (.int .i64 h.curr) rfl
 have q18 : w3.cell? ⟨w.heap.size + 1, 18, none⟩ = some (.int .i64 h.new_) := by simpa using H3 18 (.int .i64 h.new_) rfl
 have q11 : w3.cell? ⟨w.heap.size + 1, 11, none⟩ = some (.int .i64 h.ver) := by simpa using H3 11 (.int .i64 h.ver) rfl
 have q15 : w3.cell? ⟨w.heap.size + 1, 15, none⟩ = some (.int .i64 h.predVer) := by simpa using H3 15 (.int .i64 h.predVer) rfl
 have q17 : w3.cell? ⟨w.heap.size + 1, 17, none⟩ = some (.int .i64 h.currVer) := by simpa using H3 17 (.int .i64 h.currVer) rfl
 cases ecurr : inB h.curr 0 ((A.nodes.length : Int) - 1)
 ·have kcurr : qz4r A h.curr = false := ecurr
  have hv : qz2f A h = false := by simp [qz2f, kcurr, mcurr]
  go_wp2
  go_ret
  exact ⟨by first | rfl | (rw [hv]; rfl), K3⟩
 have kcurr : qz4r A h.curr = true := ecurr
 by_cases mnew_ : h.new_ = -1
 case pos =>
  have bnew_ : (h.new_ == -1) = true := by simp [mnew_]
  have dnew_ : (h.new_ != -1) = false := by simp [mnew_]
  go_wp2_with fail
  clear x0 x1 x2 x3 x4 q10 q14 q16 q18 q11 q15 q17
  refine (qz2j _ _ _ _ _ _ _ _ _ (by omega)).mono ?_
  rintro e w4 ⟨rfl, b4⟩
  have X4 := qz0 X3 b4 (by omega)
  have H4 := qz0 H3 b4 (by omega)
  have K4 := K3.trans (b4.mono (by omega))
  have hz4 := Nat.lt_of_lt_of_le hz3 b4.size
  clear X3 H3 K3 b4
  obtain ⟨x0, x1, x2, x3, x4⟩ := row5 X4
  have q10 : w4.cell? ⟨w.heap.size + 1, 10, none⟩ = some (.int .i64 h.x_) := by simpa using H4 10 (.int .i64 h.x_) rfl
  have q14 : w4.cell? ⟨w.heap.size + 1, 14, none⟩ = some (.int .i64 h.pred) := by simpa using H4 14 (.int .i64 h.pred) rfl
  have q16 : w4.cell? ⟨w.heap.size + 1, 16, none⟩ = some (.int .i64 h.curr) := by simpa using H4 16 (.int .i64 h.curr) rfl
  have q18 : w4.cell? ⟨w.heap.size + 1, 18, none⟩ = some (.int .i64 h.new_) := by simpa using H4 18 (.int .i64 h.new_) rfl
  have q11 : w4.cell? ⟨w.heap.size + 1, 11, none⟩ = some (.int .i64 h.ver) := by simpa using H4 11 (.int .i64 h.ver) rfl
  have q15 : w4.cell? ⟨w.heap.size + 1, 15, none⟩ = some (.int .i64 h.predVer) := by simpa using H4 15 (.int .i64 h.predVer) rfl
  have q17 : w4.cell? ⟨w.heap.size + 1, 17, none⟩ = some (.int .i64 h.currVer) := by simpa using H4 17 (.int .i64 h.currVer) rfl
  cases ever : inB h.ver 0 ((A.vers.length : Int) - 1)
  ·have kver : qz6m A h.ver = false := ever
   have hv : qz2f A h = false := by simp [qz2f, kver]
   go_wp2
   go_ret
   exact ⟨by first | rfl | (rw [hv]; rfl), K4⟩
  have kver : qz6m A h.ver = true := ever
  go_wp2_with fail
  clear x0 x1 x2 x3 x4 q10 q14 q16 q18 q11 q15 q17
  refine (qz2j _ _ _ _ _ _ _ _ _ (by omega)).mono ?_
  rintro e w5 ⟨rfl, b5⟩
  have X5 := qz0 X4 b5 (by omega)
  have H5 := qz0 H4 b5 (by omega)
  have K5 := K4.trans (b5.mono (by omega))
  have hz5 := Nat.lt_of_lt_of_le hz4 b5.size
  clear X4 H4 K4 b5
  obtain ⟨x0, x1, x2, x3, x4⟩ := row5 X5
  have q10 : w5.cell? ⟨w.heap.size + 1, 10, none⟩ = some (.int .i64 h.x_) := by simpa using H5 10 (.int .i64 h.x_) rfl
  have q14 : w5.cell? ⟨w.heap.size + 1, 14, none⟩ = some (.int .i64 h.pred) := by simpa using H5 14 (.int .i64 h.pred) rfl
  have q16 : w5.cell? ⟨w.heap.size + 1, 16, none⟩ = some (.int .i64 h.curr) := by simpa using H5 16 (.int .i64 h.curr) rfl
  have q18 : w5.cell? ⟨w.heap.size + 1, 18, none⟩ = some (.int .i64 h.new_) := by simpa using H5 18 (.int .i64 h.new_) rfl
  have q11 : w5.cell? ⟨w.heap.size + 1, 11, none⟩ = some (.int .i64 h.ver) := by simpa using H5 11 (.int .i64 h.ver) rfl
  have q15 : w5.cell? ⟨w.heap.size + 1, 15, none⟩ = some (.int .i64 h.predVer) := by simpa using H5 15 (.int .i64 h.predVer) rfl
  have q17 : w5.cell? ⟨w.heap.size + 1, 17, none⟩ = some (.int .i64 h.currVer) := by simpa using H5 17 (.int .i64 h.currVer) rfl
  cases epredVer : inB h.predVer 0 ((A.vers.length : Int) - 1)
  ·have kpredVer : qz6m A h.predVer = false := epredVer
   have hv : qz2f A h = false := by simp [qz2f, kpredVer]
   go_wp2
   go_ret
   exact ⟨by first | rfl | (rw [hv]; rfl), K5⟩
  have kpredVer : qz6m A h.predVer = true := epredVer
  go_wp2_with fail
  clear x0 x1 x2 x3 x4 q10 q14 q16 q18 q11 q15 q17
  refine (qz2j _ _ _ _ _ _ _ _ _ (by omega)).mono ?_
  rintro e w6 ⟨rfl, b6⟩
  have X6 := qz0 X5 b6 (by omega)
  have H6 := qz0 H5 b6 (by omega)
  have K6 := K5.trans (b6.mono (by omega))
  have hz6 := Nat.lt_of_lt_of_le hz5 b6.size
  clear X5 H5 K5 b6
  obtain ⟨x0, x1, x2, x3, x4⟩ := row5 X6
  have q10 : w6.cell? ⟨w.heap.size + 1, 10, none⟩ = some (.int .i64 h.x_) := by simpa using H6 10 (.int .i64 h.x_) rfl
  have q14 : w6.cell? ⟨w.heap.size + 1, 14, none⟩ = some (.int .i64 h.pred) := by simpa using H6 14 (.int .i64 h.pred) rfl
  have q16 : w6.cell? ⟨w.heap.size + 1, 16, none⟩ = some (.int .i64 h.curr) := by simpa using H6 16 (.int .i64 h.curr) rfl
  have q18 : w6.cell? ⟨w.heap.size + 1, 18, none⟩ = some (.int .i64 h.new_) := by simpa using H6 18 (.int .i64 h.new_) rfl
  have q11 : w6.cell? ⟨w.heap.size + 1, 11, none⟩ = some (.int .i64 h.ver) := by simpa using H6 11 (.int .i64 h.ver) rfl
  have q15 : w6.cell? ⟨w.heap.size + 1, 15, none⟩ = some (.int .i64 h.predVer) := by simpa using H6 15 (.int .i64 h.predVer) rfl
  have q17 : w6.cell? ⟨w.heap.size + 1, 17, none⟩ = some (.int .i64 h.currVer) := by simpa using H6 17 (.int .i64 h.currVer) rfl
  have hv : qz2f A h = inB h.currVer 0 ((A.vers.length : Int) - 1) := by unfold qz2f; rw [kx_, kpred, bcurr, kcurr, bnew_, kver, kpredVer]; rfl
  go_wp2
  go_ret
  exact ⟨by first | rfl | (rw [hv]; rfl), K6⟩
 have bnew_ : (h.new_ == -1) = false := by simp [mnew_]
 have dnew_ : (h.new_ != -1) = true := by simp [mnew_]
 go_wp2_with fail
 clear x0 x1 x2 x3 x4 q10 q14 q16 q18 q11 q15 q17
 refine (qz3n _ _ _ _ _ _ _ _ _ (by omega)).mono ?_
 rintro e w4 ⟨rfl, b4⟩
 have X4 := qz0 X3 b4 (by omega)
 have H4 := qz0 H3 b4 (by omega)
 have K4 := K3.trans (b4.mono (by omega))
 have hz4 := Nat.lt_of_lt_of_le hz3 b4.size
 clear X3 H3 K3 b4
 obtain ⟨x0, x1, x2, x3, x4⟩ := row5 X4
 have q10 : w4.cell? ⟨w.heap.size + 1, 10, none⟩ = some (.int .i64 h.x_) := by simpa using H4 10 (.int .i64 h.x_) rfl
 have q14 : w4.cell? ⟨w.heap.size + 1, 14, none⟩ = some (.int .i64 h.pred) := by simpa using H4 14 (.int .i64 h.pred) rfl
 have q16 : w4.cell? ⟨w.heap.size + 1, 16, none⟩ = some (.int .i64 h.curr) := by simpa using H4 16 (.int .i64 h.curr) rfl
 have q18 : w4.cell? ⟨w.heap.size + 1, 18, none⟩ = some (.int .i64 h.new_) := by simpa using H4 18 (.int .i64 h.new_) rfl
 have q11 : w4.cell? ⟨w.heap.size + 1, 11, none⟩ = some (.int .i64 h.ver) := by simpa using H4 11 (.int .i64 h.ver) rfl
 have q15 : w4.cell? ⟨w.heap.size + 1, 15, none⟩ = some (.int .i64 h.predVer) := by simpa using H4 15 (.int .i64 h.predVer) rfl
 have q17 : w4.cell? ⟨w.heap.size + 1, 17, none⟩ = some (.int .i64 h.currVer) := by simpa using H4 17 (.int .i64 h.currVer) rfl
 cases enew_ : inB h.new_ 0 ((A.nodes.length : Int) - 1)
 ·have knew_ : qz4r A h.new_ = false := enew_
  have hv : qz2f A h = false := by simp [qz2f, knew_, mnew_]
  go_wp2
  go_ret
  exact ⟨by first | rfl | (rw [hv]; rfl), K4⟩
 have knew_ : qz4r A h.new_ = true := enew_
 go_wp2_with fail
 clear x0 x1 x2 x3 x4 q10 q14 q16 q18 q11 q15 q17
 refine (qz2j _ _ _ _ _ _ _ _ _ (by omega)).mono ?_
 rintro e w5 ⟨rfl, b5⟩
 have X5 := qz0 X4 b5 (by omega)
 have H5 := qz0 H4 b5 (by omega)
 have K5 := K4.trans (b5.mono (by omega))
 have hz5 := Nat.lt_of_lt_of_le hz4 b5.size
 clear X4 H4 K4 b5
 obtain ⟨x0, x1, x2, x3, x4⟩ := row5 X5
 have q10 : w5.cell? ⟨w.heap.size + 1, 10, none⟩ = some (.int .i64 h.x_) := by simpa using H5 10 (.int .i64 h.x_) rfl
 have q14 : w5.cell? ⟨w.heap.size + 1, 14, none⟩ = some (.int .i64 h.pred) := by simpa using H5 14 (.int .i64 h.pred) rfl
 have q16 : w5.cell? ⟨w.heap.size + 1, 16, none⟩ = some (.int .i64 h.curr) := by simpa using H5 16 (.int .i64 h.curr) rfl
 have q18 : w5.cell? ⟨w.heap.size + 1, 18, none⟩ = some (.int .i64 h.new_) := by simpa using H5 18 (.int .i64 h.new_) rfl
 have q11 : w5.cell? ⟨w.heap.size + 1, 11, none⟩ = some (.int .i64 h.ver) := by simpa using H5 11 (.int .i64 h.ver) rfl
 have q15 : w5.cell? ⟨w.heap.size + 1, 15, none⟩ = some (.int .i64 h.predVer) := by simpa using H5 15 (.int .i64 h.predVer) rfl
 have q17 : w5.cell? ⟨w.heap.size + 1, 17, none⟩ = some (.int .i64 h.currVer) := by simpa using H5 17 (.int .i64 h.currVer) rfl
 cases ever : inB h.ver 0 ((A.vers.length : Int) - 1)
 ·have kver : qz6m A h.ver = false := ever
  have hv : qz2f A h = false := by simp [qz2f, kver]
  go_wp2
  go_ret
  exact ⟨by first | rfl | (rw [hv]; rfl), K5⟩
 have kver : qz6m A h.ver = true := ever
 go_wp2_with fail
 clear x0 x1 x2 x3 x4 q10 q14 q16 q18 q11 q15 q17
 refine (qz2j _ _ _ _ _ _ _ _ _ (by omega)).mono ?_
 rintro e w6 ⟨rfl, b6⟩
 have X6 := qz0 X5 b6 (by omega)
 have H6 := qz0 H5 b6 (by omega)
 have K6 := K5.trans (b6.mono (by omega))
 have hz6 := Nat.lt_of_lt_of_le hz5 b6.size
 clear X5 H5 K5 b6
 obtain ⟨x0, x1, x2, x3, x4⟩ := row5 X6
 have q10 : w6.cell? ⟨w.heap.size + 1, 10, none⟩ = some (.int .i64 h.x_) := by simpa using H6 10 (.int .i64 h.x_) rfl
 have q14 : w6.cell? ⟨w.heap.size + 1, 14, none⟩ = some (.int .i64 h.pred) := by simpa using H6 14 (.int .i64 h.pred) rfl
 have q16 : w6.cell? ⟨w.heap.size + 1, 16, none⟩ = some (.int .i64 h.curr) := by simpa using H6 16 (.int .i64 h.curr) rfl
 have q18 : w6.cell? ⟨w.heap.size + 1, 18, none⟩ = some (.int .i64 h.new_) := by simpa using H6 18 (.int .i64 h.new_) rfl
 have q11 : w6.cell? ⟨w.heap.size + 1, 11, none⟩ = some (.int .i64 h.ver) := by simpa using H6 11 (.int .i64 h.ver) rfl
 have q15 : w6.cell? ⟨w.heap.size + 1, 15, none⟩ = some (.int .i64 h.predVer) := by simpa using H6 15 (.int .i64 h.predVer) rfl
 have q17 : w6.cell? ⟨w.heap.size + 1, 17, none⟩ = some (.int .i64 h.currVer) := by simpa using H6 17 (.int .i64 h.currVer) rfl
 cases epredVer : inB h.predVer 0 ((A.vers.length : Int) - 1)
 ·have kpredVer : qz6m A h.predVer = false := epredVer
  have hv : qz2f A h = false := by simp [qz2f, kpredVer]
  go_wp2
  go_ret
  exact ⟨by first | rfl | (rw [hv]; rfl), K6⟩
 have kpredVer : qz6m A h.predVer = true := epredVer
 go_wp2_with fail
 clear x0 x1 x2 x3 x4 q10 q14 q16 q18 q11 q15 q17
 refine (qz2j _ _ _ _ _ _ _ _ _ (by omega)).mono ?_
 rintro e w7 ⟨rfl, b7⟩
 have X7 := qz0 X6 b7 (by omega)
 have H7 := qz0 H6 b7 (by omega)
 have K7 := K6.trans (b7.mono (by omega))
 have hz7 := Nat.lt_of_lt_of_le hz6 b7.size
 clear X6 H6 K6 b7
 obtain ⟨x0, x1, x2, x3, x4⟩ := row5 X7
 have q10 : w7.cell? ⟨w.heap.size + 1, 10, none⟩ = some (.int .i64 h.x_) := by simpa using H7 10 (.int .i64 h.x_) rfl
 have q14 : w7.cell? ⟨w.heap.size + 1, 14, none⟩ = some (.int .i64 h.pred) := by simpa using H7 14 (.int .i64 h.pred) rfl
 have q16 : w7.cell? ⟨w.heap.size + 1, 16, none⟩ = some (.int .i64 h.curr) := by simpa using H7 16 (.int .i64 h.curr) rfl
 have q18 : w7.cell? ⟨w.heap.size + 1, 18, none⟩ = some (.int .i64 h.new_) := by simpa using H7 18 (.int .i64 h.new_) rfl
 have q11 : w7.cell? ⟨w.heap.size + 1, 11, none⟩ = some (.int .i64 h.ver) := by simpa using H7 11 (.int .i64 h.ver) rfl
 have q15 : w7.cell? ⟨w.heap.size + 1, 15, none⟩ = some (.int .i64 h.predVer) := by simpa using H7 15 (.int .i64 h.predVer) rfl
 have q17 : w7.cell? ⟨w.heap.size + 1, 17, none⟩ = some (.int .i64 h.currVer) := by simpa using H7 17 (.int .i64 h.currVer) rfl
 have hv : qz2f A h = inB h.currVer 0 ((A.vers.length : Int) - 1) := by unfold qz2f; rw [kx_, kpred, bcurr, kcurr, bnew_, knew_, kver, kpredVer]; rfl
 go_wp2
 go_ret
 exact ⟨by first | rfl | (rw [hv]; rfl), K7⟩
end
section
theorem qzdk {A : Ar} {k : Int} (hn : 0 < A.nodes.length) (h : (k == -1 || qz4r A k) = true) : k < (A.nodes.length : Int) := by
 rw [Bool.or_eq_true] at h
 rcases h with h | h
 ·have := beq_iff_eq.1 h; omega
 ·have := (qz1b _ _ _).1 h; omega
theorem qzco {x y z u : Int} {A : Ar} {h : Hd} {me : Int} (hOk : qz1o x y z u A = true) (hh : qz3c x y z u h = true) (hk : qz2f A h = true) (hm0 : 0 <= me) (hm1 : me < x) : qza3 A h me := by
 have h1 := (qz2a hOk).1
 simp only [qz7j, Bool.and_eq_true, beq_iff_eq, qz1b] at h1
 obtain ⟨⟨⟨⟨⟨_, hcam⟩, hsl⟩, _⟩, hnl⟩, hvl⟩ := h1
 have hn0 : 0 < A.nodes.length := by omega
 simp only [qz2f, Bool.and_eq_true] at hk
 obtain ⟨⟨⟨⟨⟨⟨k1, k2⟩, k3⟩, k4⟩, k5⟩, k6⟩, k7⟩ := hk
 have k1' := (qz1b _ _ _).1 k1
 have k2' := (qz1b _ _ _).1 k2
 have k3' := qzdk hn0 k3
 have k4' := qzdk hn0 k4
 have k5' := (qz1b _ _ _).1 k5
 have k7' := (qz1b _ _ _).1 k7
 simp only [qz3c, qz3s, Bool.and_eq_true, qz1b] at hh
 obtain ⟨_, hF⟩ := hh
 obtain ⟨⟨⟨⟨⟨⟨⟨⟨⟨⟨⟨⟨⟨⟨f0, f1⟩, f2⟩, f3⟩, f4⟩, f5⟩, f6⟩, f7⟩, f8⟩, f9⟩, f10⟩, f11⟩, f12⟩, f13⟩, f14⟩ := hF
 constructor <;> omega
theorem qz7l (x y z u : Int) (A : Ar) (h : Hd) : (qz20 x y z u A h).1.camera = A.camera := by
 unfold qz20
 split
 ·rfl
 ·exact qz34 _ _ _ _ _ _ _
theorem qz6b (x y z u : Int) (A : Ar) (h : Hd) : (qzx x y z u A h).1.camera = A.camera := by
 unfold qzx
 split
 ·exact qz7t _ _ _ _
 ·split
  ·show (if 0 <= h.new_ then _ else A : Ar).camera = _
   split <;> rfl
  ·split
   ·exact qz34 _ _ _ _ _ _ _
   ·split
    ·show (if 0 <= qz43 x y z u h.key /\ 0 <= h.new_ then _ else A : Ar).camera = _
     split <;> rfl
    ·split
     ·exact qz34 _ _ _ _ _ _ _
     ·split
      ·exact qz34 _ _ _ _ _ _ _
      ·rfl
theorem qz8f (A : Ar) (h : Hd) : (qz4a A h).1.camera = A.camera := by
 unfold qz4a
 repeat' split
 all_goals rfl
theorem qz7w (A : Ar) (h : Hd) (d : Dd) (clock : Int) : (qz22 A h d clock).1.camera = A.camera := by
 unfold qz22
 repeat' split
 all_goals rfl
theorem qz7v (x y z u : Int) (A : Ar) (h : Hd) (d : Dd) (tk : Bool) (me clock : Int) : (qz15 x y z u A h d tk me clock).1.camera = qz21 A h tk me := by
 unfold qz15 qz21
 by_cases h1 : h.at_ = 1 ∨ h.at_ = 6
 ·rw [if_pos h1, if_neg (by omega)]; exact qz7l _ _ _ _ _ _
 rw [if_neg h1]
 by_cases h2 : h.at_ <= 5
 ·rw [if_pos h2, if_neg (by omega)]; exact qz7w _ _ _ _
 rw [if_neg h2]
 by_cases h3 : h.at_ <= 12
 ·rw [if_pos h3, if_neg (by omega)]; exact qz6b _ _ _ _ _ _
 rw [if_neg h3]
 by_cases h4 : h.at_ <= 18
 ·rw [if_pos h4, if_pos (by omega)]
 rw [if_neg h4, if_neg (show ¬ (13 <= h.at_ /\ h.at_ <= 18) by omega)]
 split
 ·rfl
 ·split
  ·rfl
  ·exact qz8f _ _
end
end Go.Proofs.Ytclkglkhhnapiaa
