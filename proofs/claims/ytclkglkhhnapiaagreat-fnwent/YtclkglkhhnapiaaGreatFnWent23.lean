/-
  What the law's proof goes by, part 24.
-/
import Derived.Test.YtclkglkhhnapiaaGreatFnWent00
import Derived.Test.YtclkglkhhnapiaaGreatFnWent16
import Derived.Test.YtclkglkhhnapiaaGreatFnWent18
import Derived.Test.YtclkglkhhnapiaaGreatFnWent19
import Derived.Test.YtclkglkhhnapiaaGreatFnWent20
import Derived.Test.YtclkglkhhnapiaaGreatFnWent21
import Derived.Test.YtclkglkhhnapiaaGreatFnWent22
namespace Go.Proofs.YtclkglkhhnapiaaGreat
open Go.ChangeShapes Go.WideShapes Go.ChangeAt Go.RowKit
set_option maxRecDepth 100000
set_option maxHeartbeats 16000000
set_option linter.unusedVariables false
set_option linter.unusedSimpArgs false
set_option linter.unnecessarySimpa false
set_option linter.unusedSectionVars false
section
attribute [local go_sem ↓] Go.wp_at_zero Go.wp_at_succ
def qz13 (x y z u : Int) (A : Ar) (h : Hd) (d : Dd) (tk : Bool) (me clock : Int) : Ar × Hd × Dd × Bool :=
 if h.at_ = 1 ∨ h.at_ = 6 then ((qz23 x y z u A h).1, (qz23 x y z u A h).2, d, tk)
 else if h.at_ <= 5 then ((qz26 A h d clock).1, (qz26 A h d clock).2.1, (qz26 A h d clock).2.2, tk)
 else if h.at_ <= 12 then ((qzv x y z u A h).1, (qzv x y z u A h).2, d, tk)
 else if h.at_ <= 18 then ((qzm A h me tk).1, (qzm A h me tk).2.1, d, (qzm A h me tk).2.2)
 else if h.at_ = 19 then (A, qz9q A h, d, tk)
 else if h.at_ = 21 then (A, qz7j A h, d, tk)
 else ((qz4l A h).1, (qz4l A h).2, d, tk)
def qz28 (A : Ar) (h : Hd) (tk : Bool) (me : Int) : Int := if 13 <= h.at_ /\ h.at_ <= 18 then (qzm A h me tk).1.camera else A.camera
structure qzbh (A : Ar) (h : Hd) (me : Int) : Prop where
 v0 : 0 <= h.ver
 v1 : h.ver < (A.vers.length : Int)
 x0 : 0 <= h.x_
 x1 : h.x_ < (A.nodes.length : Int)
 p0 : 0 <= h.pred
 p1 : h.pred < (A.nodes.length : Int)
 c0 : 0 <= h.currVer
 c1 : h.currVer < (A.vers.length : Int)
 u1 : h.curr < (A.nodes.length : Int)
 n1 : h.new_ < (A.nodes.length : Int)
 o0 : 0 <= h.out
 o1 : h.out <= 1000000
 s0 : 0 <= h.sum
 s1 : h.sum <= 1000000
 cm : 0 <= h.cam
 r0 : 0 <= h.round
 r1 : h.round <= 20000
 i0 : 0 <= h.index
 i1 : h.index <= 60
 m0 : 0 <= me
 m1 : me < (A.slots.length : Int)
 k0 : 0 <= A.camera
 k1 : A.camera <= 100
theorem qzb7 (base : Nat) (A : Ar) (h : Hd) (d : Dd) (tk : Bool) (me clock : Int) (s g n r : Value) (w : World) (hbase : base <= w.heap.size) (hA : A.size <= 1048576) (O : qz3i base w s g n r A) (x y z u : Int) (hOk : qz18 x y z u A = true) (R : qzbh A h me) (e : h.at_ = 1) :
  Calls Tryz.prog 162 Q24 w fun e w' => ∃ s' g' n' r', e = .returned (.agg (Q2q).toArray) /\ qz2h base w w' s g n r s' g' n' r' Q1g.1 := by
 have hA' := hA
 unfold Ar.size at hA
 obtain ⟨sa, sc, rfl⟩ := qzg O.rs
 obtain ⟨ga, gc, rfl⟩ := qzg O.rg
 obtain ⟨na, nc, rfl⟩ := qzg O.rn
 obtain ⟨ra, rc, rfl⟩ := qzg O.rr
 obtain ⟨S0, P0⟩ := qz1i base w Q0b Q09 Q0d Q0m A Q1e Q0k 45 25 x y z u O rfl rfl
 have hd : Hid (Q1g = ((qz23 x y z u A h).1, (qz23 x y z u A h).2, d, tk)) := by show _ = _; unfold qz13; rw [if_pos (by omega)]
 have hdc : Hid (qz28 A h tk me = A.camera) := by show _ = _; unfold qz28; rw [if_neg (by omega)]
 have eH : Hid (h.at_ = 1) := e
 go_enter Tryz.func162, Tryz.ntmps162
 have tok : True := trivial
 go_wp2_with (clear tok; refine qz1q Q30 ?_)
 generalize hw0 : (Q39).alloc (.cells Q02 45) = w0 at *
 clear hw0
 show wpList _ _ _ _ _ w0
 have q5 := S0.cell 5 rfl
 obtain ⟨p0, p1, p2, p3⟩ := id P0
 rw [e] at q5
 clear e
 go_wp2_with (first | (refine wpList_load_mid rfl 45 (.tmp 5) rfl (w.heap.size + 1) 0 ?lx Q1e _ ?lc Tryz.underlying45 rfl (qza _ _ _ _ _ _ _ _) ?_) | (go_at_call 166; refine (qz8f base A h d tk _ _ _ _ _ (Nat.le_trans hbase S0.but.size) hA' S0.own x y z u hOk R.p0 R.p1 R.c0 R.c1 R.r0 R.r1).mono ?_; rintro e w2 ⟨s2, g2, n2, r2, rfl, E⟩; have S3 := S0.swap E; clear E; obtain ⟨sa2, sc2, rfl⟩ := qzg S3.own.rs; obtain ⟨ga2, gc2, rfl⟩ := qzg S3.own.rg; obtain ⟨na2, nc2, rfl⟩ := qzg S3.own.rn; obtain ⟨ra2, rc2, rfl⟩ := qzg S3.own.rr) | (refine wpList_store_mid rfl 45 (.tmp 8) _ rfl (w.heap.size + 1 + 1) 0 (Q1i).toArray ?dx ?dy ?dt (qzq _ _ _ _ _ _ _ _) Q11 ?_))
 try (case lx => rfl)
 try (case lc => exact S0.row)
 try (case dx => rfl)
 try (case dy => rfl)
 try (case dt => exact S3.to)
 refine bodyPost_ret (v := .agg (Q1i).toArray) ?_ rfl ⟨_, _, _, _, by rw [hd.out, hdc.out], by rw [hd.out]; exact S3.fin2 _⟩
 exact qz3 Tryz.results162 _ _ (w.heap.size + 1 + 1) 0 rfl Q1i _ (S3.out2 _ rfl) Tryz.underlying45 rfl (qza _ _ _ _ _ _ _ _)
theorem qzas (base : Nat) (A : Ar) (h : Hd) (d : Dd) (tk : Bool) (me clock : Int) (s g n r : Value) (w : World) (hbase : base <= w.heap.size) (hA : A.size <= 1048576) (O : qz3i base w s g n r A) (x y z u : Int) (hOk : qz18 x y z u A = true) (R : qzbh A h me) (e : h.at_ = 6) :
  Calls Tryz.prog 162 Q24 w fun e w' => ∃ s' g' n' r', e = .returned (.agg (Q2q).toArray) /\ qz2h base w w' s g n r s' g' n' r' Q1g.1 := by
 have hA' := hA
 unfold Ar.size at hA
 obtain ⟨sa, sc, rfl⟩ := qzg O.rs
 obtain ⟨ga, gc, rfl⟩ := qzg O.rg
 obtain ⟨na, nc, rfl⟩ := qzg O.rn
 obtain ⟨ra, rc, rfl⟩ := qzg O.rr
 obtain ⟨S0, P0⟩ := qz1i base w Q0b Q09 Q0d Q0m A Q1e Q0k 45 25 x y z u O rfl rfl
 have hd : Hid (Q1g = ((qz23 x y z u A h).1, (qz23 x y z u A h).2, d, tk)) := by show _ = _; unfold qz13; rw [if_pos (by omega)]
 have hdc : Hid (qz28 A h tk me = A.camera) := by show _ = _; unfold qz28; rw [if_neg (by omega)]
 have eH : Hid (h.at_ = 6) := e
 go_enter Tryz.func162, Tryz.ntmps162
 have tok : True := trivial
 go_wp2_with (clear tok; refine qz1q Q30 ?_)
 generalize hw0 : (Q39).alloc (.cells Q02 45) = w0 at *
 clear hw0
 show wpList _ _ _ _ _ w0
 have q5 := S0.cell 5 rfl
 obtain ⟨p0, p1, p2, p3⟩ := id P0
 rw [e] at q5
 clear e
 go_wp2_with (first | (refine wpList_load_mid rfl 45 (.tmp 5) rfl (w.heap.size + 1) 0 ?lx Q1e _ ?lc Tryz.underlying45 rfl (qza _ _ _ _ _ _ _ _) ?_) | (go_at_call 166; refine (qz8f base A h d tk _ _ _ _ _ (Nat.le_trans hbase S0.but.size) hA' S0.own x y z u hOk R.p0 R.p1 R.c0 R.c1 R.r0 R.r1).mono ?_; rintro e w2 ⟨s2, g2, n2, r2, rfl, E⟩; have S3 := S0.swap E; clear E; obtain ⟨sa2, sc2, rfl⟩ := qzg S3.own.rs; obtain ⟨ga2, gc2, rfl⟩ := qzg S3.own.rg; obtain ⟨na2, nc2, rfl⟩ := qzg S3.own.rn; obtain ⟨ra2, rc2, rfl⟩ := qzg S3.own.rr) | (refine wpList_store_mid rfl 45 (.tmp 8) _ rfl (w.heap.size + 1 + 1) 0 (Q1i).toArray ?dx ?dy ?dt (qzq _ _ _ _ _ _ _ _) Q11 ?_))
 try (case lx => rfl)
 try (case lc => exact S0.row)
 try (case dx => rfl)
 try (case dy => rfl)
 try (case dt => exact S3.to)
 refine bodyPost_ret (v := .agg (Q1i).toArray) ?_ rfl ⟨_, _, _, _, by rw [hd.out, hdc.out], by rw [hd.out]; exact S3.fin2 _⟩
 exact qz3 Tryz.results162 _ _ (w.heap.size + 1 + 1) 0 rfl Q1i _ (S3.out2 _ rfl) Tryz.underlying45 rfl (qza _ _ _ _ _ _ _ _)
theorem qzap (base : Nat) (A : Ar) (h : Hd) (d : Dd) (tk : Bool) (me clock : Int) (s g n r : Value) (w : World) (hbase : base <= w.heap.size) (hA : A.size <= 1048576) (O : qz3i base w s g n r A) (x y z u : Int) (hOk : qz18 x y z u A = true) (R : qzbh A h me) (e : 2 <= h.at_ /\ h.at_ <= 5) :
  Calls Tryz.prog 162 Q24 w fun e w' => ∃ s' g' n' r', e = .returned (.agg (Q2q).toArray) /\ qz2h base w w' s g n r s' g' n' r' Q1g.1 := by
 have hA' := hA
 unfold Ar.size at hA
 obtain ⟨sa, sc, rfl⟩ := qzg O.rs
 obtain ⟨ga, gc, rfl⟩ := qzg O.rg
 obtain ⟨na, nc, rfl⟩ := qzg O.rn
 obtain ⟨ra, rc, rfl⟩ := qzg O.rr
 obtain ⟨S0, P0⟩ := qz1i base w Q0b Q09 Q0d Q0m A Q1e Q0k 45 25 x y z u O rfl rfl
 have hd : Hid (Q1g = ((qz26 A h d clock).1, (qz26 A h d clock).2.1, (qz26 A h d clock).2.2, tk)) := by show _ = _; unfold qz13; rw [if_neg (by omega), if_pos (by omega)]
 have hdc : Hid (qz28 A h tk me = A.camera) := by show _ = _; unfold qz28; rw [if_neg (by omega)]
 have eH : Hid (2 <= h.at_ /\ h.at_ <= 5) := e
 go_enter Tryz.func162, Tryz.ntmps162
 have tok : True := trivial
 go_wp2_with (clear tok; refine qz1q Q30 ?_)
 generalize hw0 : (Q39).alloc (.cells Q02 45) = w0 at *
 clear hw0
 show wpList _ _ _ _ _ w0
 have q5 := S0.cell 5 rfl
 obtain ⟨p0, p1, p2, p3⟩ := id P0
 have b1 : (h.at_ == 1) = false := by simp; omega
 have b6 : (h.at_ == 6) = false := by simp; omega
 have c5 : h.at_ <= 5 := by omega
 clear e
 go_wp2_with (first | (refine wpList_load_mid rfl 45 (.tmp 5) rfl (w.heap.size + 1) 0 ?lx Q1e _ ?lc Tryz.underlying45 rfl (qza _ _ _ _ _ _ _ _) ?_) | (go_at_call 50; refine (qzbm base A h d tk clock _ _ _ _ _ (Nat.le_trans hbase S0.but.size) hA' S0.own x y z u hOk R.v0 R.v1 R.x0 R.x1 R.u1 R.o0 R.o1 R.s0 R.s1 R.cm).mono ?_; rintro e w2 ⟨s2, g2, n2, r2, rfl, E⟩; have S3 := S0.swap E; clear E; obtain ⟨sa2, sc2, rfl⟩ := qzg S3.own.rs; obtain ⟨ga2, gc2, rfl⟩ := qzg S3.own.rg; obtain ⟨na2, nc2, rfl⟩ := qzg S3.own.rn; obtain ⟨ra2, rc2, rfl⟩ := qzg S3.own.rr) | (refine wpList_store_mid rfl 45 (.tmp 8) _ rfl (w.heap.size + 1 + 1) 0 (Q2k).toArray ?dx ?dy ?dt (qzq _ _ _ _ _ _ _ _) Q11 ?_))
 try (case lx => rfl)
 try (case lc => exact S0.row)
 try (case dx => rfl)
 try (case dy => rfl)
 try (case dt => exact S3.to)
 refine bodyPost_ret (v := .agg (Q2k).toArray) ?_ rfl ⟨_, _, _, _, by rw [hd.out, hdc.out], by rw [hd.out]; exact S3.fin2 _⟩
 exact qz3 Tryz.results162 _ _ (w.heap.size + 1 + 1) 0 rfl Q2k _ (S3.out2 _ rfl) Tryz.underlying45 rfl (qza _ _ _ _ _ _ _ _)
theorem qzah (base : Nat) (A : Ar) (h : Hd) (d : Dd) (tk : Bool) (me clock : Int) (s g n r : Value) (w : World) (hbase : base <= w.heap.size) (hA : A.size <= 1048576) (O : qz3i base w s g n r A) (x y z u : Int) (hOk : qz18 x y z u A = true) (R : qzbh A h me) (e : 7 <= h.at_ /\ h.at_ <= 12) :
  Calls Tryz.prog 162 Q24 w fun e w' => ∃ s' g' n' r', e = .returned (.agg (Q2q).toArray) /\ qz2h base w w' s g n r s' g' n' r' Q1g.1 := by
 have hA' := hA
 unfold Ar.size at hA
 obtain ⟨sa, sc, rfl⟩ := qzg O.rs
 obtain ⟨ga, gc, rfl⟩ := qzg O.rg
 obtain ⟨na, nc, rfl⟩ := qzg O.rn
 obtain ⟨ra, rc, rfl⟩ := qzg O.rr
 obtain ⟨S0, P0⟩ := qz1i base w Q0b Q09 Q0d Q0m A Q1e Q0k 45 25 x y z u O rfl rfl
 have hd : Hid (Q1g = ((qzv x y z u A h).1, (qzv x y z u A h).2, d, tk)) := by show _ = _; unfold qz13; rw [if_neg (by omega), if_neg (by omega), if_pos (by omega)]
 have hdc : Hid (qz28 A h tk me = A.camera) := by show _ = _; unfold qz28; rw [if_neg (by omega)]
 have eH : Hid (7 <= h.at_ /\ h.at_ <= 12) := e
 go_enter Tryz.func162, Tryz.ntmps162
 have tok : True := trivial
 go_wp2_with (clear tok; refine qz1q Q30 ?_)
 generalize hw0 : (Q39).alloc (.cells Q02 45) = w0 at *
 clear hw0
 show wpList _ _ _ _ _ w0
 have q5 := S0.cell 5 rfl
 obtain ⟨p0, p1, p2, p3⟩ := id P0
 have b1 : (h.at_ == 1) = false := by simp; omega
 have b6 : (h.at_ == 6) = false := by simp; omega
 have c5 : ¬ (h.at_ <= 5) := by omega
 have c12 : h.at_ <= 12 := by omega
 clear e
 go_wp2_with (first | (refine wpList_load_mid rfl 45 (.tmp 5) rfl (w.heap.size + 1) 0 ?lx Q1e _ ?lc Tryz.underlying45 rfl (qza _ _ _ _ _ _ _ _) ?_) | (go_at_call 167; refine (qz8n base A h d tk _ _ _ _ _ (Nat.le_trans hbase S0.but.size) hA' S0.own x y z u hOk (by have := eH.out; omega) (by have := eH.out; omega) R.p0 R.p1 R.u1 R.c0 R.c1 R.n1).mono ?_; rintro e w2 ⟨s2, g2, n2, r2, rfl, E⟩; have S3 := S0.swap E; clear E; obtain ⟨sa2, sc2, rfl⟩ := qzg S3.own.rs; obtain ⟨ga2, gc2, rfl⟩ := qzg S3.own.rg; obtain ⟨na2, nc2, rfl⟩ := qzg S3.own.rn; obtain ⟨ra2, rc2, rfl⟩ := qzg S3.own.rr) | (refine wpList_store_mid rfl 45 (.tmp 8) _ rfl (w.heap.size + 1 + 1) 0 (Q2o).toArray ?dx ?dy ?dt (qzq _ _ _ _ _ _ _ _) Q11 ?_))
 try (case lx => rfl)
 try (case lc => exact S0.row)
 try (case dx => rfl)
 try (case dy => rfl)
 try (case dt => exact S3.to)
 refine bodyPost_ret (v := .agg (Q2o).toArray) ?_ rfl ⟨_, _, _, _, by rw [hd.out, hdc.out], by rw [hd.out]; exact S3.fin2 _⟩
 exact qz3 Tryz.results162 _ _ (w.heap.size + 1 + 1) 0 rfl Q2o _ (S3.out2 _ rfl) Tryz.underlying45 rfl (qza _ _ _ _ _ _ _ _)
theorem qz9i (base : Nat) (A : Ar) (h : Hd) (d : Dd) (tk : Bool) (me clock : Int) (s g n r : Value) (w : World) (hbase : base <= w.heap.size) (hA : A.size <= 1048576) (O : qz3i base w s g n r A) (x y z u : Int) (hOk : qz18 x y z u A = true) (R : qzbh A h me) (e : 13 <= h.at_ /\ h.at_ <= 18) :
  Calls Tryz.prog 162 Q24 w fun e w' => ∃ s' g' n' r', e = .returned (.agg (Q2q).toArray) /\ qz2h base w w' s g n r s' g' n' r' Q1g.1 := by
 have hA' := hA
 unfold Ar.size at hA
 obtain ⟨sa, sc, rfl⟩ := qzg O.rs
 obtain ⟨ga, gc, rfl⟩ := qzg O.rg
 obtain ⟨na, nc, rfl⟩ := qzg O.rn
 obtain ⟨ra, rc, rfl⟩ := qzg O.rr
 obtain ⟨S0, P0⟩ := qz1i base w Q0b Q09 Q0d Q0m A Q1e Q0k 45 25 x y z u O rfl rfl
 have hd : Hid (Q1g = ((qzm A h me tk).1, (qzm A h me tk).2.1, d, (qzm A h me tk).2.2)) := by show _ = _; unfold qz13; rw [if_neg (by omega), if_neg (by omega), if_neg (by omega), if_pos (by omega)]
 have hdc : Hid (qz28 A h tk me = (qzm A h me tk).1.camera) := by show _ = _; unfold qz28; rw [if_pos (by omega)]
 have eH : Hid (13 <= h.at_ /\ h.at_ <= 18) := e
 go_enter Tryz.func162, Tryz.ntmps162
 have tok : True := trivial
 go_wp2_with (clear tok; refine qz1q Q30 ?_)
 generalize hw0 : (Q39).alloc (.cells Q02 45) = w0 at *
 clear hw0
 show wpList _ _ _ _ _ w0
 have q5 := S0.cell 5 rfl
 obtain ⟨p0, p1, p2, p3⟩ := id P0
 have b1 : (h.at_ == 1) = false := by simp; omega
 have b6 : (h.at_ == 6) = false := by simp; omega
 have c5 : ¬ (h.at_ <= 5) := by omega
 have c12 : ¬ (h.at_ <= 12) := by omega
 have c18 : h.at_ <= 18 := by omega
 clear e
 go_wp2_with (first | (refine wpList_load_mid rfl 45 (.tmp 5) rfl (w.heap.size + 1) 0 ?lx Q1e _ ?lc Tryz.underlying45 rfl (qza _ _ _ _ _ _ _ _) ?_) | (go_at_call 168; refine (qz7q base A h d tk me _ _ _ _ _ (Nat.le_trans hbase S0.but.size) hA' S0.own R.m0 R.m1 R.k0 R.k1).mono ?_; rintro e w2 ⟨s2, g2, n2, r2, rfl, E⟩; have S3 := S0.swap E; clear E; obtain ⟨sa2, sc2, rfl⟩ := qzg S3.own.rs; obtain ⟨ga2, gc2, rfl⟩ := qzg S3.own.rg; obtain ⟨na2, nc2, rfl⟩ := qzg S3.own.rn; obtain ⟨ra2, rc2, rfl⟩ := qzg S3.own.rr) | (refine wpList_store_mid rfl 45 (.tmp 8) _ rfl (w.heap.size + 1 + 1) 0 (Q2l).toArray ?dx ?dy ?dt (qzq _ _ _ _ _ _ _ _) Q11 ?_))
 try (case lx => rfl)
 try (case lc => exact S0.row)
 try (case dx => rfl)
 try (case dy => rfl)
 try (case dt => exact S3.to)
 refine bodyPost_ret (v := .agg (Q2l).toArray) ?_ rfl ⟨_, _, _, _, by rw [hd.out, hdc.out], by rw [hd.out]; exact S3.fin2 _⟩
 exact qz3 Tryz.results162 _ _ (w.heap.size + 1 + 1) 0 rfl Q2l _ (S3.out2 _ rfl) Tryz.underlying45 rfl (qza _ _ _ _ _ _ _ _)
theorem qz9c (base : Nat) (A : Ar) (h : Hd) (d : Dd) (tk : Bool) (me clock : Int) (s g n r : Value) (w : World) (hbase : base <= w.heap.size) (hA : A.size <= 1048576) (O : qz3i base w s g n r A) (x y z u : Int) (hOk : qz18 x y z u A = true) (R : qzbh A h me) (e : h.at_ = 19) :
  Calls Tryz.prog 162 Q24 w fun e w' => ∃ s' g' n' r', e = .returned (.agg (Q2q).toArray) /\ qz2h base w w' s g n r s' g' n' r' Q1g.1 := by
 have hA' := hA
 unfold Ar.size at hA
 obtain ⟨sa, sc, rfl⟩ := qzg O.rs
 obtain ⟨ga, gc, rfl⟩ := qzg O.rg
 obtain ⟨na, nc, rfl⟩ := qzg O.rn
 obtain ⟨ra, rc, rfl⟩ := qzg O.rr
 obtain ⟨S0, P0⟩ := qz1i base w Q0b Q09 Q0d Q0m A Q1e Q0k 45 25 x y z u O rfl rfl
 have hd : Hid (Q1g = (A, (qz9q A h), d, tk)) := by show _ = _; unfold qz13; rw [if_neg (by omega), if_neg (by omega), if_neg (by omega), if_neg (by omega), if_pos (by omega)]
 have hdc : Hid (qz28 A h tk me = A.camera) := by show _ = _; unfold qz28; rw [if_neg (by omega)]
 have eH : Hid (h.at_ = 19) := e
 go_enter Tryz.func162, Tryz.ntmps162
 have tok : True := trivial
 go_wp2_with (clear tok; refine qz1q Q30 ?_)
 generalize hw0 : (Q39).alloc (.cells Q02 45) = w0 at *
 clear hw0
 show wpList _ _ _ _ _ w0
 have q5 := S0.cell 5 rfl
 obtain ⟨p0, p1, p2, p3⟩ := id P0
 rw [e] at q5
 clear e
 go_wp2_with (first | (refine wpList_load_mid rfl 45 (.tmp 5) rfl (w.heap.size + 1) 0 ?lx Q1e _ ?lc Tryz.underlying45 rfl (qza _ _ _ _ _ _ _ _) ?_) | (go_at_call 169; refine (qzb5 w0.heap.size A h d tk _ _ _ _ _ _ _ _ _ (Nat.le_refl _) hA' S0.is x y z u hOk R.v0 R.v1 R.x0 R.x1 R.o0 R.o1 R.s0 R.s1).mono ?_; rintro e w2 ⟨rfl, b2⟩; have S3 := S0.below b2; clear b2) | (refine wpList_store_mid rfl 45 (.tmp 8) _ rfl (w.heap.size + 1 + 1) 0 (qzd A.camera Q0b Q09 Q0d Q0m (qz9q A h) d tk).toArray ?dx ?dy ?dt (qzq _ _ _ _ _ _ _ _) Q11 ?_))
 try (case lx => rfl)
 try (case lc => exact S0.row)
 try (case dx => rfl)
 try (case dy => rfl)
 try (case dt => exact S3.to)
 refine bodyPost_ret (v := .agg (qzd A.camera Q0b Q09 Q0d Q0m (qz9q A h) d tk).toArray) ?_ rfl ⟨_, _, _, _, by rw [hd.out, hdc.out], by rw [hd.out]; exact S3.fin2 _⟩
 exact qz3 Tryz.results162 _ _ (w.heap.size + 1 + 1) 0 rfl (qzd A.camera Q0b Q09 Q0d Q0m (qz9q A h) d tk) _ (S3.out2 _ rfl) Tryz.underlying45 rfl (qza _ _ _ _ _ _ _ _)
theorem qz9p (base : Nat) (A : Ar) (h : Hd) (d : Dd) (tk : Bool) (me clock : Int) (s g n r : Value) (w : World) (hbase : base <= w.heap.size) (hA : A.size <= 1048576) (O : qz3i base w s g n r A) (x y z u : Int) (hOk : qz18 x y z u A = true) (R : qzbh A h me) (e : h.at_ = 21) :
  Calls Tryz.prog 162 Q24 w fun e w' => ∃ s' g' n' r', e = .returned (.agg (Q2q).toArray) /\ qz2h base w w' s g n r s' g' n' r' Q1g.1 := by
 have hA' := hA
 unfold Ar.size at hA
 obtain ⟨sa, sc, rfl⟩ := qzg O.rs
 obtain ⟨ga, gc, rfl⟩ := qzg O.rg
 obtain ⟨na, nc, rfl⟩ := qzg O.rn
 obtain ⟨ra, rc, rfl⟩ := qzg O.rr
 obtain ⟨S0, P0⟩ := qz1i base w Q0b Q09 Q0d Q0m A Q1e Q0k 45 25 x y z u O rfl rfl
 have hd : Hid (Q1g = (A, (qz7j A h), d, tk)) := by show _ = _; unfold qz13; rw [if_neg (by omega), if_neg (by omega), if_neg (by omega), if_neg (by omega), if_neg (by omega), if_pos (by omega)]
 have hdc : Hid (qz28 A h tk me = A.camera) := by show _ = _; unfold qz28; rw [if_neg (by omega)]
 have eH : Hid (h.at_ = 21) := e
 go_enter Tryz.func162, Tryz.ntmps162
 have tok : True := trivial
 go_wp2_with (clear tok; refine qz1q Q30 ?_)
 generalize hw0 : (Q39).alloc (.cells Q02 45) = w0 at *
 clear hw0
 show wpList _ _ _ _ _ w0
 have q5 := S0.cell 5 rfl
 obtain ⟨p0, p1, p2, p3⟩ := id P0
 rw [e] at q5
 clear e
 go_wp2_with (first | (refine wpList_load_mid rfl 45 (.tmp 5) rfl (w.heap.size + 1) 0 ?lx Q1e _ ?lc Tryz.underlying45 rfl (qza _ _ _ _ _ _ _ _) ?_) | (go_at_call 170; refine (qzai base A h d tk _ _ _ _ _ (Nat.le_trans hbase S0.but.size) hA' S0.own x y z u hOk R.v0 R.v1 R.x0 R.x1 R.o0 R.o1 eH.out R.i0 R.i1).mono ?_; rintro e w2 ⟨s2, g2, n2, r2, rfl, E⟩; have S3 := S0.swap E; clear E; obtain ⟨sa2, sc2, rfl⟩ := qzg S3.own.rs; obtain ⟨ga2, gc2, rfl⟩ := qzg S3.own.rg; obtain ⟨na2, nc2, rfl⟩ := qzg S3.own.rn; obtain ⟨ra2, rc2, rfl⟩ := qzg S3.own.rr) | (refine wpList_store_mid rfl 45 (.tmp 8) _ rfl (w.heap.size + 1 + 1) 0 (qzd A.camera (.slice sa2 A.slots.length sc2) (.slice ga2 A.guides.length gc2) (.slice na2 A.nodes.length nc2) (.slice ra2 A.vers.length rc2) (qz7j A h) d tk).toArray ?dx ?dy ?dt (qzq _ _ _ _ _ _ _ _) Q11 ?_))
 try (case lx => rfl)
 try (case lc => exact S0.row)
 try (case dx => rfl)
 try (case dy => rfl)
 try (case dt => exact S3.to)
 refine bodyPost_ret (v := .agg (qzd A.camera (.slice sa2 A.slots.length sc2) (.slice ga2 A.guides.length gc2) (.slice na2 A.nodes.length nc2) (.slice ra2 A.vers.length rc2) (qz7j A h) d tk).toArray) ?_ rfl ⟨_, _, _, _, by rw [hd.out, hdc.out], by rw [hd.out]; exact S3.fin2 _⟩
 exact qz3 Tryz.results162 _ _ (w.heap.size + 1 + 1) 0 rfl (qzd A.camera (.slice sa2 A.slots.length sc2) (.slice ga2 A.guides.length gc2) (.slice na2 A.nodes.length nc2) (.slice ra2 A.vers.length rc2) (qz7j A h) d tk) _ (S3.out2 _ rfl) Tryz.underlying45 rfl (qza _ _ _ _ _ _ _ _)
theorem qz9b (base : Nat) (A : Ar) (h : Hd) (d : Dd) (tk : Bool) (me clock : Int) (s g n r : Value) (w : World) (hbase : base <= w.heap.size) (hA : A.size <= 1048576) (O : qz3i base w s g n r A) (x y z u : Int) (hOk : qz18 x y z u A = true) (R : qzbh A h me) (e : 20 <= h.at_ /\ h.at_ ≠ 21) :
  Calls Tryz.prog 162 Q24 w fun e w' => ∃ s' g' n' r', e = .returned (.agg (Q2q).toArray) /\ qz2h base w w' s g n r s' g' n' r' Q1g.1 := by
 have hA' := hA
 unfold Ar.size at hA
 obtain ⟨sa, sc, rfl⟩ := qzg O.rs
 obtain ⟨ga, gc, rfl⟩ := qzg O.rg
 obtain ⟨na, nc, rfl⟩ := qzg O.rn
 obtain ⟨ra, rc, rfl⟩ := qzg O.rr
 obtain ⟨S0, P0⟩ := qz1i base w Q0b Q09 Q0d Q0m A Q1e Q0k 45 25 x y z u O rfl rfl
 have hd : Hid (Q1g = ((qz4l A h).1, (qz4l A h).2, d, tk)) := by show _ = _; unfold qz13; rw [if_neg (by omega), if_neg (by omega), if_neg (by omega), if_neg (by omega), if_neg (by omega), if_neg (by omega)]
 have hdc : Hid (qz28 A h tk me = A.camera) := by show _ = _; unfold qz28; rw [if_neg (by omega)]
 have eH : Hid (20 <= h.at_ /\ h.at_ ≠ 21) := e
 go_enter Tryz.func162, Tryz.ntmps162
 have tok : True := trivial
 go_wp2_with (clear tok; refine qz1q Q30 ?_)
 generalize hw0 : (Q39).alloc (.cells Q02 45) = w0 at *
 clear hw0
 show wpList _ _ _ _ _ w0
 have q5 := S0.cell 5 rfl
 obtain ⟨p0, p1, p2, p3⟩ := id P0
 have b1 : (h.at_ == 1) = false := by simp; omega
 have b6 : (h.at_ == 6) = false := by simp; omega
 have c5 : ¬ (h.at_ <= 5) := by omega
 have c12 : ¬ (h.at_ <= 12) := by omega
 have c18 : ¬ (h.at_ <= 18) := by omega
 have b19 : (h.at_ == 19) = false := by simp; omega
 clear e
 go_wp2_with (first | (refine wpList_load_mid rfl 45 (.tmp 5) rfl (w.heap.size + 1) 0 ?lx Q1e _ ?lc Tryz.underlying45 rfl (qza _ _ _ _ _ _ _ _) ?_) | (go_at_call 170; refine (qzba base A h d tk _ _ _ _ _ (Nat.le_trans hbase S0.but.size) hA' S0.own x y z u hOk R.v0 R.v1 R.x0 R.x1 R.o0 R.o1 (by have := eH.out; omega)).mono ?_; rintro e w2 ⟨s2, g2, n2, r2, rfl, E⟩; have S3 := S0.swap E; clear E; obtain ⟨sa2, sc2, rfl⟩ := qzg S3.own.rs; obtain ⟨ga2, gc2, rfl⟩ := qzg S3.own.rg; obtain ⟨na2, nc2, rfl⟩ := qzg S3.own.rn; obtain ⟨ra2, rc2, rfl⟩ := qzg S3.own.rr) | (refine wpList_store_mid rfl 45 (.tmp 8) _ rfl (w.heap.size + 1 + 1) 0 (Q2v).toArray ?dx ?dy ?dt (qzq _ _ _ _ _ _ _ _) Q11 ?_))
 try (case lx => rfl)
 try (case lc => exact S0.row)
 try (case dx => rfl)
 try (case dy => rfl)
 try (case dt => exact S3.to)
 refine bodyPost_ret (v := .agg (Q2v).toArray) ?_ rfl ⟨_, _, _, _, by rw [hd.out, hdc.out], by rw [hd.out]; exact S3.fin2 _⟩
 exact qz3 Tryz.results162 _ _ (w.heap.size + 1 + 1) 0 rfl Q2v _ (S3.out2 _ rfl) Tryz.underlying45 rfl (qza _ _ _ _ _ _ _ _)
theorem qzau (base : Nat) (A : Ar) (h : Hd) (d : Dd) (tk : Bool) (me clock : Int) (s g n r : Value) (w : World) (hbase : base <= w.heap.size) (hA : A.size <= 1048576) (O : qz3i base w s g n r A) (x y z u : Int) (hOk : qz18 x y z u A = true) (R : qzbh A h me) (h1 : 1 <= h.at_) (h23 : h.at_ <= 23) :
  Calls Tryz.prog 162 Q24 w fun e w' => ∃ s' g' n' r', e = .returned (.agg (Q2q).toArray) /\ qz2h base w w' s g n r s' g' n' r' Q1g.1 := by
 rcases (show h.at_ = 1 ∨ h.at_ = 6 ∨ (2 <= h.at_ /\ h.at_ <= 5) ∨ (7 <= h.at_ /\ h.at_ <= 12) ∨ (13 <= h.at_ /\ h.at_ <= 18) ∨ h.at_ = 19 ∨ h.at_ = 21 ∨ (20 <= h.at_ /\ h.at_ ≠ 21) by omega) with e | e | e | e | e | e | e | e
 ·exact qzb7 base A h d tk me clock s g n r w hbase hA O x y z u hOk R e
 ·exact qzas base A h d tk me clock s g n r w hbase hA O x y z u hOk R e
 ·exact qzap base A h d tk me clock s g n r w hbase hA O x y z u hOk R e
 ·exact qzah base A h d tk me clock s g n r w hbase hA O x y z u hOk R e
 ·exact qz9i base A h d tk me clock s g n r w hbase hA O x y z u hOk R e
 ·exact qz9c base A h d tk me clock s g n r w hbase hA O x y z u hOk R e
 ·exact qz9p base A h d tk me clock s g n r w hbase hA O x y z u hOk R e
 ·exact qz9b base A h d tk me clock s g n r w hbase hA O x y z u hOk R e
end
end Go.Proofs.YtclkglkhhnapiaaGreat
