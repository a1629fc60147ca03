/-
  What the law's proof goes by, part 25.
-/
import Derived.Test.YthjkdnlmopafkaaFnBlank00
import Derived.Test.YthjkdnlmopafkaaFnBlank17
import Derived.Test.YthjkdnlmopafkaaFnBlank19
import Derived.Test.YthjkdnlmopafkaaFnBlank20
import Derived.Test.YthjkdnlmopafkaaFnBlank21
import Derived.Test.YthjkdnlmopafkaaFnBlank22
import Derived.Test.YthjkdnlmopafkaaFnBlank23
namespace Go.Proofs.Ythjkdnlmopafkaa
open Go.ChangeShapes Go.WideShapes Go.ChangeAt Go.RowKit
set_option maxRecDepth 100000
set_option maxHeartbeats 16000000
set_option linter.unusedVariables false
set_option linter.unusedSimpArgs false
set_option linter.unnecessarySimpa false
set_option linter.unusedSectionVars false
section
attribute [local go_sem ↓] Go.wp_at_zero Go.wp_at_succ
def qz10 (x y z u : Int) (A : Ar) (h : Hd) (d : Dd) (tk : Bool) (me clock : Int) : Ar × Hd × Dd × Bool :=
 if h.at_ = 1 ∨ h.at_ = 6 then ((qz1y x y z u A h).1, (qz1y x y z u A h).2, d, tk)
 else if h.at_ <= 5 then ((qz22 A h d clock).1, (qz22 A h d clock).2.1, (qz22 A h d clock).2.2, tk)
 else if h.at_ <= 12 then ((qzu x y z u A h).1, (qzu x y z u A h).2, d, tk)
 else if h.at_ <= 18 then ((qzl A h me tk).1, (qzl A h me tk).2.1, d, (qzl A h me tk).2.2)
 else if h.at_ = 19 then (A, qz9c A h, d, tk)
 else if h.at_ = 21 then (A, qz70 A h, d, tk)
 else ((qz43 A h).1, (qz43 A h).2, d, tk)
def qz23 (A : Ar) (h : Hd) (tk : Bool) (me : Int) : Int := if 13 <= h.at_ /\ h.at_ <= 18 then (qzl A h me tk).1.camera else Q6e
structure qzb4 (A : Ar) (h : Hd) (me : Int) : Prop where
 v0 : 0 <= h.ver
 v1 : h.ver < (Q6a : Int)
 x0 : 0 <= h.x_
 x1 : h.x_ < (Q69 : Int)
 p0 : 0 <= h.pred
 p1 : h.pred < (Q69 : Int)
 c0 : 0 <= h.currVer
 c1 : h.currVer < (Q6a : Int)
 u1 : h.curr < (Q69 : Int)
 n1 : h.new_ < (Q69 : Int)
 o0 : 0 <= h.out
 o1 : h.out <= 1000000
 s0 : 0 <= h.sum
 s1 : h.sum <= 1000000
 cm : 0 <= h.cam
 r0 : 0 <= h.round
 r1 : h.round <= 20000
 i0 : 0 <= h.index
 i1 : h.index <= 60
 m0 : 0 <= me
 m1 : me < (Q6o : Int)
 k0 : 0 <= Q6e
 k1 : Q6e <= 100
theorem qzb3 (base : Nat) (A : Ar) (h : Hd) (d : Dd) (tk : Bool) (me clock : Int) (s g n r : Value) (w : World) (hbase : base <= Q67) (hA : A.size <= 1048576) (O : qz21 base w s g n r A) (x y z u : Int) (hOk : qz17 x y z u A = true) (R : qzb4 A h me) (e : h.at_ = 1) :
  Calls Try.prog 102 Q1v w fun e w' => ∃ s' g' n' r', e = .returned (.agg (Q2g).toArray) /\ qz2f base w w' s g n r s' g' n' r' Q16.1 := by
 have hA' := hA
 unfold Ar.size at hA
 obtain ⟨sa, sc, rfl⟩ := qzg O.rs
 obtain ⟨ga, gc, rfl⟩ := qzg O.rg
 obtain ⟨na, nc, rfl⟩ := qzg O.rn
 obtain ⟨ra, rc, rfl⟩ := qzg O.rr
 obtain ⟨S0, P0⟩ := qz1e base w Q09 Q06 Q0a Q0h A Q14 Q0j 143 25 x y z u O rfl rfl
 have hd : Hid (Q16 = ((qz1y x y z u A h).1, (qz1y x y z u A h).2, d, tk)) := by show _ = _; unfold qz10; rw [if_pos (by omega)]
 have hdc : Hid Q59 := by show _ = _; unfold qz23; rw [if_neg (by omega)]
 have eH : Hid (h.at_ = 1) := e
 go_enter Try.func102, Try.ntmps102
 have tok : True := trivial
 go_wp2_with (clear tok; refine qz2o Q2d ?_)
 generalize hw0 : (Q39).alloc (.cells Q01 143) = w0 at *
 clear hw0
 show wpList _ _ _ _ _ w0
 have q5 := S0.cell 5 rfl
 obtain ⟨p0, p1, p2, p3⟩ := id P0
 rw [e] at q5
 clear e
 go_wp2_with (first | (refine Q6h rfl 143 (.tmp 5) rfl (Q67 + 1) 0 ?lx Q14 _ ?lc Q6k rfl (qz6 _ _ _ _ _ _ _ _) ?_) | (go_at_call 106; refine (Q5t).mono ?_; rintro e w2 ⟨s2, g2, n2, r2, rfl, E⟩; have S3 := S0.swap E; clear E; obtain ⟨sa2, sc2, rfl⟩ := qzg S3.own.rs; obtain ⟨ga2, gc2, rfl⟩ := qzg S3.own.rg; obtain ⟨na2, nc2, rfl⟩ := qzg S3.own.rn; obtain ⟨ra2, rc2, rfl⟩ := qzg S3.own.rr) | (refine Q6b rfl 143 (.tmp 8) _ rfl (Q67 + 1 + 1) 0 (Q1a).toArray ?dx ?dy ?dt (qzp _ _ _ _ _ _ _ _) Q0v ?_))
 try (case lx => rfl)
 try (case lc => exact S0.row)
 try (case dx => rfl)
 try (case dy => rfl)
 try (case dt => exact S3.to)
 refine bodyPost_ret (v := .agg (Q1a).toArray) ?_ rfl ⟨_, _, _, _, by rw [hd.out, hdc.out], by rw [hd.out]; exact S3.fin2 _⟩
 exact qz3 Try.results102 _ _ (Q67 + 1 + 1) 0 rfl Q1a _ (S3.out2 _ rfl) Q6k rfl (qz6 _ _ _ _ _ _ _ _)
theorem qzai (base : Nat) (A : Ar) (h : Hd) (d : Dd) (tk : Bool) (me clock : Int) (s g n r : Value) (w : World) (hbase : base <= Q67) (hA : A.size <= 1048576) (O : qz21 base w s g n r A) (x y z u : Int) (hOk : qz17 x y z u A = true) (R : qzb4 A h me) (e : h.at_ = 6) :
  Calls Try.prog 102 Q1v w fun e w' => ∃ s' g' n' r', e = .returned (.agg (Q2g).toArray) /\ qz2f base w w' s g n r s' g' n' r' Q16.1 := by
 have hA' := hA
 unfold Ar.size at hA
 obtain ⟨sa, sc, rfl⟩ := qzg O.rs
 obtain ⟨ga, gc, rfl⟩ := qzg O.rg
 obtain ⟨na, nc, rfl⟩ := qzg O.rn
 obtain ⟨ra, rc, rfl⟩ := qzg O.rr
 obtain ⟨S0, P0⟩ := qz1e base w Q09 Q06 Q0a Q0h A Q14 Q0j 143 25 x y z u O rfl rfl
 have hd : Hid (Q16 = ((qz1y x y z u A h).1, (qz1y x y z u A h).2, d, tk)) := by show _ = _; unfold qz10; rw [if_pos (by omega)]
 have hdc : Hid Q59 := by show _ = _; unfold qz23; rw [if_neg (by omega)]
 have eH : Hid (h.at_ = 6) := e
 go_enter Try.func102, Try.ntmps102
 have tok : True := trivial
 go_wp2_with (clear tok; refine qz2o Q2d ?_)
 generalize hw0 : (Q39).alloc (.cells Q01 143) = w0 at *
 clear hw0
 show wpList _ _ _ _ _ w0
 have q5 := S0.cell 5 rfl
 obtain ⟨p0, p1, p2, p3⟩ := id P0
 rw [e] at q5
 clear e
 go_wp2_with (first | (refine Q6h rfl 143 (.tmp 5) rfl (Q67 + 1) 0 ?lx Q14 _ ?lc Q6k rfl (qz6 _ _ _ _ _ _ _ _) ?_) | (go_at_call 106; refine (Q5t).mono ?_; rintro e w2 ⟨s2, g2, n2, r2, rfl, E⟩; have S3 := S0.swap E; clear E; obtain ⟨sa2, sc2, rfl⟩ := qzg S3.own.rs; obtain ⟨ga2, gc2, rfl⟩ := qzg S3.own.rg; obtain ⟨na2, nc2, rfl⟩ := qzg S3.own.rn; obtain ⟨ra2, rc2, rfl⟩ := qzg S3.own.rr) | (refine Q6b rfl 143 (.tmp 8) _ rfl (Q67 + 1 + 1) 0 (Q1a).toArray ?dx ?dy ?dt (qzp _ _ _ _ _ _ _ _) Q0v ?_))
 try (case lx => rfl)
 try (case lc => exact S0.row)
 try (case dx => rfl)
 try (case dy => rfl)
 try (case dt => exact S3.to)
 refine bodyPost_ret (v := .agg (Q1a).toArray) ?_ rfl ⟨_, _, _, _, by rw [hd.out, hdc.out], by rw [hd.out]; exact S3.fin2 _⟩
 exact qz3 Try.results102 _ _ (Q67 + 1 + 1) 0 rfl Q1a _ (S3.out2 _ rfl) Q6k rfl (qz6 _ _ _ _ _ _ _ _)
theorem qzam (base : Nat) (A : Ar) (h : Hd) (d : Dd) (tk : Bool) (me clock : Int) (s g n r : Value) (w : World) (hbase : base <= Q67) (hA : A.size <= 1048576) (O : qz21 base w s g n r A) (x y z u : Int) (hOk : qz17 x y z u A = true) (R : qzb4 A h me) (e : 2 <= h.at_ /\ h.at_ <= 5) :
  Calls Try.prog 102 Q1v w fun e w' => ∃ s' g' n' r', e = .returned (.agg (Q2g).toArray) /\ qz2f base w w' s g n r s' g' n' r' Q16.1 := by
 have hA' := hA
 unfold Ar.size at hA
 obtain ⟨sa, sc, rfl⟩ := qzg O.rs
 obtain ⟨ga, gc, rfl⟩ := qzg O.rg
 obtain ⟨na, nc, rfl⟩ := qzg O.rn
 obtain ⟨ra, rc, rfl⟩ := qzg O.rr
 obtain ⟨S0, P0⟩ := qz1e base w Q09 Q06 Q0a Q0h A Q14 Q0j 143 25 x y z u O rfl rfl
 have hd : Hid (Q16 = ((qz22 A h d clock).1, (qz22 A h d clock).2.1, (qz22 A h d clock).2.2, tk)) := by show _ = _; unfold qz10; rw [if_neg (by omega), if_pos (by omega)]
 have hdc : Hid Q59 := by show _ = _; unfold qz23; rw [if_neg (by omega)]
 have eH : Hid (2 <= h.at_ /\ h.at_ <= 5) := e
 go_enter Try.func102, Try.ntmps102
 have tok : True := trivial
 go_wp2_with (clear tok; refine qz2o Q2d ?_)
 generalize hw0 : (Q39).alloc (.cells Q01 143) = w0 at *
 clear hw0
 show wpList _ _ _ _ _ w0
 have q5 := S0.cell 5 rfl
 obtain ⟨p0, p1, p2, p3⟩ := id P0
 have b1 : (h.at_ == 1) = false := by simp; omega
 have b6 : (h.at_ == 6) = false := by simp; omega
 have c5 : h.at_ <= 5 := by omega
 clear e
 go_wp2_with (first | (refine Q6h rfl 143 (.tmp 5) rfl (Q67 + 1) 0 ?lx Q14 _ ?lc Q6k rfl (qz6 _ _ _ _ _ _ _ _) ?_) | (go_at_call 107; refine (qzbs base A h d tk clock _ _ _ _ _ (Q6s hbase S0.but.size) hA' S0.own x y z u hOk R.v0 R.v1 R.x0 R.x1 R.u1 R.o0 R.o1 R.s0 R.s1 R.cm).mono ?_; rintro e w2 ⟨s2, g2, n2, r2, rfl, E⟩; have S3 := S0.swap E; clear E; obtain ⟨sa2, sc2, rfl⟩ := qzg S3.own.rs; obtain ⟨ga2, gc2, rfl⟩ := qzg S3.own.rg; obtain ⟨na2, nc2, rfl⟩ := qzg S3.own.rn; obtain ⟨ra2, rc2, rfl⟩ := qzg S3.own.rr) | (refine Q6b rfl 143 (.tmp 8) _ rfl (Q67 + 1 + 1) 0 (Q27).toArray ?dx ?dy ?dt (qzp _ _ _ _ _ _ _ _) Q0v ?_))
 try (case lx => rfl)
 try (case lc => exact S0.row)
 try (case dx => rfl)
 try (case dy => rfl)
 try (case dt => exact S3.to)
 refine bodyPost_ret (v := .agg (Q27).toArray) ?_ rfl ⟨_, _, _, _, by rw [hd.out, hdc.out], by rw [hd.out]; exact S3.fin2 _⟩
 exact qz3 Try.results102 _ _ (Q67 + 1 + 1) 0 rfl Q27 _ (S3.out2 _ rfl) Q6k rfl (qz6 _ _ _ _ _ _ _ _)
theorem qzaw (base : Nat) (A : Ar) (h : Hd) (d : Dd) (tk : Bool) (me clock : Int) (s g n r : Value) (w : World) (hbase : base <= Q67) (hA : A.size <= 1048576) (O : qz21 base w s g n r A) (x y z u : Int) (hOk : qz17 x y z u A = true) (R : qzb4 A h me) (e : 7 <= h.at_ /\ h.at_ <= 12) :
  Calls Try.prog 102 Q1v w fun e w' => ∃ s' g' n' r', e = .returned (.agg (Q2g).toArray) /\ qz2f base w w' s g n r s' g' n' r' Q16.1 := by
 have hA' := hA
 unfold Ar.size at hA
 obtain ⟨sa, sc, rfl⟩ := qzg O.rs
 obtain ⟨ga, gc, rfl⟩ := qzg O.rg
 obtain ⟨na, nc, rfl⟩ := qzg O.rn
 obtain ⟨ra, rc, rfl⟩ := qzg O.rr
 obtain ⟨S0, P0⟩ := qz1e base w Q09 Q06 Q0a Q0h A Q14 Q0j 143 25 x y z u O rfl rfl
 have hd : Hid (Q16 = ((qzu x y z u A h).1, (qzu x y z u A h).2, d, tk)) := by show _ = _; unfold qz10; rw [if_neg (by omega), if_neg (by omega), if_pos (by omega)]
 have hdc : Hid Q59 := by show _ = _; unfold qz23; rw [if_neg (by omega)]
 have eH : Hid (7 <= h.at_ /\ h.at_ <= 12) := e
 go_enter Try.func102, Try.ntmps102
 have tok : True := trivial
 go_wp2_with (clear tok; refine qz2o Q2d ?_)
 generalize hw0 : (Q39).alloc (.cells Q01 143) = w0 at *
 clear hw0
 show wpList _ _ _ _ _ w0
 have q5 := S0.cell 5 rfl
 obtain ⟨p0, p1, p2, p3⟩ := id P0
 have b1 : (h.at_ == 1) = false := by simp; omega
 have b6 : (h.at_ == 6) = false := by simp; omega
 have c5 : ¬ (h.at_ <= 5) := by omega
 have c12 : h.at_ <= 12 := by omega
 clear e
 go_wp2_with (first | (refine Q6h rfl 143 (.tmp 5) rfl (Q67 + 1) 0 ?lx Q14 _ ?lc Q6k rfl (qz6 _ _ _ _ _ _ _ _) ?_) | (go_at_call 108; refine (qz88 base A h d tk _ _ _ _ _ (Q6s hbase S0.but.size) hA' S0.own x y z u hOk (by have := eH.out; omega) (by have := eH.out; omega) R.p0 R.p1 R.u1 R.c0 R.c1 R.n1).mono ?_; rintro e w2 ⟨s2, g2, n2, r2, rfl, E⟩; have S3 := S0.swap E; clear E; obtain ⟨sa2, sc2, rfl⟩ := qzg S3.own.rs; obtain ⟨ga2, gc2, rfl⟩ := qzg S3.own.rg; obtain ⟨na2, nc2, rfl⟩ := qzg S3.own.rn; obtain ⟨ra2, rc2, rfl⟩ := qzg S3.own.rr) | (refine Q6b rfl 143 (.tmp 8) _ rfl (Q67 + 1 + 1) 0 (Q2e).toArray ?dx ?dy ?dt (qzp _ _ _ _ _ _ _ _) Q0v ?_))
 try (case lx => rfl)
 try (case lc => exact S0.row)
 try (case dx => rfl)
 try (case dy => rfl)
 try (case dt => exact S3.to)
 refine bodyPost_ret (v := .agg (Q2e).toArray) ?_ rfl ⟨_, _, _, _, by rw [hd.out, hdc.out], by rw [hd.out]; exact S3.fin2 _⟩
 exact qz3 Try.results102 _ _ (Q67 + 1 + 1) 0 rfl Q2e _ (S3.out2 _ rfl) Q6k rfl (qz6 _ _ _ _ _ _ _ _)
theorem qz8z (base : Nat) (A : Ar) (h : Hd) (d : Dd) (tk : Bool) (me clock : Int) (s g n r : Value) (w : World) (hbase : base <= Q67) (hA : A.size <= 1048576) (O : qz21 base w s g n r A) (x y z u : Int) (hOk : qz17 x y z u A = true) (R : qzb4 A h me) (e : 13 <= h.at_ /\ h.at_ <= 18) :
  Calls Try.prog 102 Q1v w fun e w' => ∃ s' g' n' r', e = .returned (.agg (Q2g).toArray) /\ qz2f base w w' s g n r s' g' n' r' Q16.1 := by
 have hA' := hA
 unfold Ar.size at hA
 obtain ⟨sa, sc, rfl⟩ := qzg O.rs
 obtain ⟨ga, gc, rfl⟩ := qzg O.rg
 obtain ⟨na, nc, rfl⟩ := qzg O.rn
 obtain ⟨ra, rc, rfl⟩ := qzg O.rr
 obtain ⟨S0, P0⟩ := qz1e base w Q09 Q06 Q0a Q0h A Q14 Q0j 143 25 x y z u O rfl rfl
 have hd : Hid (Q16 = ((qzl A h me tk).1, (qzl A h me tk).2.1, d, (qzl A h me tk).2.2)) := by show _ = _; unfold qz10; rw [if_neg (by omega), if_neg (by omega), if_neg (by omega), if_pos (by omega)]
 have hdc : Hid (qz23 A h tk me = (qzl A h me tk).1.camera) := by show _ = _; unfold qz23; rw [if_pos (by omega)]
 have eH : Hid (13 <= h.at_ /\ h.at_ <= 18) := e
 go_enter Try.func102, Try.ntmps102
 have tok : True := trivial
 go_wp2_with (clear tok; refine qz2o Q2d ?_)
 generalize hw0 : (Q39).alloc (.cells Q01 143) = w0 at *
 clear hw0
 show wpList _ _ _ _ _ w0
 have q5 := S0.cell 5 rfl
 obtain ⟨p0, p1, p2, p3⟩ := id P0
 have b1 : (h.at_ == 1) = false := by simp; omega
 have b6 : (h.at_ == 6) = false := by simp; omega
 have c5 : ¬ (h.at_ <= 5) := by omega
 have c12 : ¬ (h.at_ <= 12) := by omega
 have c18 : h.at_ <= 18 := by omega
 clear e
 go_wp2_with (first | (refine Q6h rfl 143 (.tmp 5) rfl (Q67 + 1) 0 ?lx Q14 _ ?lc Q6k rfl (qz6 _ _ _ _ _ _ _ _) ?_) | (go_at_call 109; refine (qz7i base A h d tk me _ _ _ _ _ (Q6s hbase S0.but.size) hA' S0.own R.m0 R.m1 R.k0 R.k1).mono ?_; rintro e w2 ⟨s2, g2, n2, r2, rfl, E⟩; have S3 := S0.swap E; clear E; obtain ⟨sa2, sc2, rfl⟩ := qzg S3.own.rs; obtain ⟨ga2, gc2, rfl⟩ := qzg S3.own.rg; obtain ⟨na2, nc2, rfl⟩ := qzg S3.own.rn; obtain ⟨ra2, rc2, rfl⟩ := qzg S3.own.rr) | (refine Q6b rfl 143 (.tmp 8) _ rfl (Q67 + 1 + 1) 0 (Q28).toArray ?dx ?dy ?dt (qzp _ _ _ _ _ _ _ _) Q0v ?_))
 try (case lx => rfl)
 try (case lc => exact S0.row)
 try (case dx => rfl)
 try (case dy => rfl)
 try (case dt => exact S3.to)
 refine bodyPost_ret (v := .agg (Q28).toArray) ?_ rfl ⟨_, _, _, _, by rw [hd.out, hdc.out], by rw [hd.out]; exact S3.fin2 _⟩
 exact qz3 Try.results102 _ _ (Q67 + 1 + 1) 0 rfl Q28 _ (S3.out2 _ rfl) Q6k rfl (qz6 _ _ _ _ _ _ _ _)
theorem qz9d (base : Nat) (A : Ar) (h : Hd) (d : Dd) (tk : Bool) (me clock : Int) (s g n r : Value) (w : World) (hbase : base <= Q67) (hA : A.size <= 1048576) (O : qz21 base w s g n r A) (x y z u : Int) (hOk : qz17 x y z u A = true) (R : qzb4 A h me) (e : h.at_ = 19) :
  Calls Try.prog 102 Q1v w fun e w' => ∃ s' g' n' r', e = .returned (.agg (Q2g).toArray) /\ qz2f base w w' s g n r s' g' n' r' Q16.1 := by
 have hA' := hA
 unfold Ar.size at hA
 obtain ⟨sa, sc, rfl⟩ := qzg O.rs
 obtain ⟨ga, gc, rfl⟩ := qzg O.rg
 obtain ⟨na, nc, rfl⟩ := qzg O.rn
 obtain ⟨ra, rc, rfl⟩ := qzg O.rr
 obtain ⟨S0, P0⟩ := qz1e base w Q09 Q06 Q0a Q0h A Q14 Q0j 143 25 x y z u O rfl rfl
 have hd : Hid (Q16 = (A, (qz9c A h), d, tk)) := by show _ = _; unfold qz10; rw [if_neg (by omega), if_neg (by omega), if_neg (by omega), if_neg (by omega), if_pos (by omega)]
 have hdc : Hid Q59 := by show _ = _; unfold qz23; rw [if_neg (by omega)]
 have eH : Hid (h.at_ = 19) := e
 go_enter Try.func102, Try.ntmps102
 have tok : True := trivial
 go_wp2_with (clear tok; refine qz2o Q2d ?_)
 generalize hw0 : (Q39).alloc (.cells Q01 143) = w0 at *
 clear hw0
 show wpList _ _ _ _ _ w0
 have q5 := S0.cell 5 rfl
 obtain ⟨p0, p1, p2, p3⟩ := id P0
 rw [e] at q5
 clear e
 go_wp2_with (first | (refine Q6h rfl 143 (.tmp 5) rfl (Q67 + 1) 0 ?lx Q14 _ ?lc Q6k rfl (qz6 _ _ _ _ _ _ _ _) ?_) | (go_at_call 110; refine (qzat Q6n A h d tk _ _ _ _ _ _ _ _ _ (Q6f _) hA' S0.is x y z u hOk R.v0 R.v1 R.x0 R.x1 R.o0 R.o1 R.s0 R.s1).mono ?_; rintro e w2 ⟨rfl, b2⟩; have S3 := S0.below b2; clear b2) | (refine Q6b rfl 143 (.tmp 8) _ rfl (Q67 + 1 + 1) 0 (qz9 Q6e Q09 Q06 Q0a Q0h (qz9c A h) d tk).toArray ?dx ?dy ?dt (qzp _ _ _ _ _ _ _ _) Q0v ?_))
 try (case lx => rfl)
 try (case lc => exact S0.row)
 try (case dx => rfl)
 try (case dy => rfl)
 try (case dt => exact S3.to)
 refine bodyPost_ret (v := .agg (qz9 Q6e Q09 Q06 Q0a Q0h (qz9c A h) d tk).toArray) ?_ rfl ⟨_, _, _, _, by rw [hd.out, hdc.out], by rw [hd.out]; exact S3.fin2 _⟩
 exact qz3 Try.results102 _ _ (Q67 + 1 + 1) 0 rfl (qz9 Q6e Q09 Q06 Q0a Q0h (qz9c A h) d tk) _ (S3.out2 _ rfl) Q6k rfl (qz6 _ _ _ _ _ _ _ _)
theorem qz9a (base : Nat) (A : Ar) (h : Hd) (d : Dd) (tk : Bool) (me clock : Int) (s g n r : Value) (w : World) (hbase : base <= Q67) (hA : A.size <= 1048576) (O : qz21 base w s g n r A) (x y z u : Int) (hOk : qz17 x y z u A = true) (R : qzb4 A h me) (e : h.at_ = 21) :
  Calls Try.prog 102 Q1v w fun e w' => ∃ s' g' n' r', e = .returned (.agg (Q2g).toArray) /\ qz2f base w w' s g n r s' g' n' r' Q16.1 := by
 have hA' := hA
 unfold Ar.size at hA
 obtain ⟨sa, sc, rfl⟩ := qzg O.rs
 obtain ⟨ga, gc, rfl⟩ := qzg O.rg
 obtain ⟨na, nc, rfl⟩ := qzg O.rn
 obtain ⟨ra, rc, rfl⟩ := qzg O.rr
 obtain ⟨S0, P0⟩ := qz1e base w Q09 Q06 Q0a Q0h A Q14 Q0j 143 25 x y z u O rfl rfl
 have hd : Hid (Q16 = (A, (qz70 A h), d, tk)) := by show _ = _; unfold qz10; rw [if_neg (by omega), if_neg (by omega), if_neg (by omega), if_neg (by omega), if_neg (by omega), if_pos (by omega)]
 have hdc : Hid Q59 := by show _ = _; unfold qz23; rw [if_neg (by omega)]
 have eH : Hid (h.at_ = 21) := e
 go_enter Try.func102, Try.ntmps102
 have tok : True := trivial
 go_wp2_with (clear tok; refine qz2o Q2d ?_)
 generalize hw0 : (Q39).alloc (.cells Q01 143) = w0 at *
 clear hw0
 show wpList _ _ _ _ _ w0
 have q5 := S0.cell 5 rfl
 obtain ⟨p0, p1, p2, p3⟩ := id P0
 rw [e] at q5
 clear e
 go_wp2_with (first | (refine Q6h rfl 143 (.tmp 5) rfl (Q67 + 1) 0 ?lx Q14 _ ?lc Q6k rfl (qz6 _ _ _ _ _ _ _ _) ?_) | (go_at_call 111; refine (qzau base A h d tk _ _ _ _ _ (Q6s hbase S0.but.size) hA' S0.own x y z u hOk R.v0 R.v1 R.x0 R.x1 R.o0 R.o1 eH.out R.i0 R.i1).mono ?_; rintro e w2 ⟨s2, g2, n2, r2, rfl, E⟩; have S3 := S0.swap E; clear E; obtain ⟨sa2, sc2, rfl⟩ := qzg S3.own.rs; obtain ⟨ga2, gc2, rfl⟩ := qzg S3.own.rg; obtain ⟨na2, nc2, rfl⟩ := qzg S3.own.rn; obtain ⟨ra2, rc2, rfl⟩ := qzg S3.own.rr) | (refine Q6b rfl 143 (.tmp 8) _ rfl (Q67 + 1 + 1) 0 (Q3h).toArray ?dx ?dy ?dt (qzp _ _ _ _ _ _ _ _) Q0v ?_))
 try (case lx => rfl)
 try (case lc => exact S0.row)
 try (case dx => rfl)
 try (case dy => rfl)
 try (case dt => exact S3.to)
 refine bodyPost_ret (v := .agg (Q3h).toArray) ?_ rfl ⟨_, _, _, _, by rw [hd.out, hdc.out], by rw [hd.out]; exact S3.fin2 _⟩
 exact qz3 Try.results102 _ _ (Q67 + 1 + 1) 0 rfl Q3h _ (S3.out2 _ rfl) Q6k rfl (qz6 _ _ _ _ _ _ _ _)
theorem qz9j (base : Nat) (A : Ar) (h : Hd) (d : Dd) (tk : Bool) (me clock : Int) (s g n r : Value) (w : World) (hbase : base <= Q67) (hA : A.size <= 1048576) (O : qz21 base w s g n r A) (x y z u : Int) (hOk : qz17 x y z u A = true) (R : qzb4 A h me) (e : 20 <= h.at_ /\ h.at_ ≠ 21) :
  Calls Try.prog 102 Q1v w fun e w' => ∃ s' g' n' r', e = .returned (.agg (Q2g).toArray) /\ qz2f base w w' s g n r s' g' n' r' Q16.1 := by
 have hA' := hA
 unfold Ar.size at hA
 obtain ⟨sa, sc, rfl⟩ := qzg O.rs
 obtain ⟨ga, gc, rfl⟩ := qzg O.rg
 obtain ⟨na, nc, rfl⟩ := qzg O.rn
 obtain ⟨ra, rc, rfl⟩ := qzg O.rr
 obtain ⟨S0, P0⟩ := qz1e base w Q09 Q06 Q0a Q0h A Q14 Q0j 143 25 x y z u O rfl rfl
 have hd : Hid (Q16 = ((qz43 A h).1, (qz43 A h).2, d, tk)) := by show _ = _; unfold qz10; rw [if_neg (by omega), if_neg (by omega), if_neg (by omega), if_neg (by omega), if_neg (by omega), if_neg (by omega)]
 have hdc : Hid Q59 := by show _ = _; unfold qz23; rw [if_neg (by omega)]
 have eH : Hid (20 <= h.at_ /\ h.at_ ≠ 21) := e
 go_enter Try.func102, Try.ntmps102
 have tok : True := trivial
 go_wp2_with (clear tok; refine qz2o Q2d ?_)
 generalize hw0 : (Q39).alloc (.cells Q01 143) = w0 at *
 clear hw0
 show wpList _ _ _ _ _ w0
 have q5 := S0.cell 5 rfl
 obtain ⟨p0, p1, p2, p3⟩ := id P0
 have b1 : (h.at_ == 1) = false := by simp; omega
 have b6 : (h.at_ == 6) = false := by simp; omega
 have c5 : ¬ (h.at_ <= 5) := by omega
 have c12 : ¬ (h.at_ <= 12) := by omega
 have c18 : ¬ (h.at_ <= 18) := by omega
 have b19 : (h.at_ == 19) = false := by simp; omega
 clear e
 go_wp2_with (first | (refine Q6h rfl 143 (.tmp 5) rfl (Q67 + 1) 0 ?lx Q14 _ ?lc Q6k rfl (qz6 _ _ _ _ _ _ _ _) ?_) | (go_at_call 111; refine (qzao base A h d tk _ _ _ _ _ (Q6s hbase S0.but.size) hA' S0.own x y z u hOk R.v0 R.v1 R.x0 R.x1 R.o0 R.o1 (by have := eH.out; omega)).mono ?_; rintro e w2 ⟨s2, g2, n2, r2, rfl, E⟩; have S3 := S0.swap E; clear E; obtain ⟨sa2, sc2, rfl⟩ := qzg S3.own.rs; obtain ⟨ga2, gc2, rfl⟩ := qzg S3.own.rg; obtain ⟨na2, nc2, rfl⟩ := qzg S3.own.rn; obtain ⟨ra2, rc2, rfl⟩ := qzg S3.own.rr) | (refine Q6b rfl 143 (.tmp 8) _ rfl (Q67 + 1 + 1) 0 (Q2p).toArray ?dx ?dy ?dt (qzp _ _ _ _ _ _ _ _) Q0v ?_))
 try (case lx => rfl)
 try (case lc => exact S0.row)
 try (case dx => rfl)
 try (case dy => rfl)
 try (case dt => exact S3.to)
 refine bodyPost_ret (v := .agg (Q2p).toArray) ?_ rfl ⟨_, _, _, _, by rw [hd.out, hdc.out], by rw [hd.out]; exact S3.fin2 _⟩
 exact qz3 Try.results102 _ _ (Q67 + 1 + 1) 0 rfl Q2p _ (S3.out2 _ rfl) Q6k rfl (qz6 _ _ _ _ _ _ _ _)
theorem qzap (base : Nat) (A : Ar) (h : Hd) (d : Dd) (tk : Bool) (me clock : Int) (s g n r : Value) (w : World) (hbase : base <= Q67) (hA : A.size <= 1048576) (O : qz21 base w s g n r A) (x y z u : Int) (hOk : qz17 x y z u A = true) (R : qzb4 A h me) (h1 : 1 <= h.at_) (h23 : h.at_ <= 23) :
  Calls Try.prog 102 Q1v w fun e w' => ∃ s' g' n' r', e = .returned (.agg (Q2g).toArray) /\ qz2f base w w' s g n r s' g' n' r' Q16.1 := by
 rcases (show h.at_ = 1 ∨ h.at_ = 6 ∨ (2 <= h.at_ /\ h.at_ <= 5) ∨ (7 <= h.at_ /\ h.at_ <= 12) ∨ (13 <= h.at_ /\ h.at_ <= 18) ∨ h.at_ = 19 ∨ h.at_ = 21 ∨ (20 <= h.at_ /\ h.at_ ≠ 21) by omega) with e | e | e | e | e | e | e | e
 ·exact qzb3 base A h d tk me clock s g n r w hbase hA O x y z u hOk R e
 ·exact qzai base A h d tk me clock s g n r w hbase hA O x y z u hOk R e
 ·exact qzam base A h d tk me clock s g n r w hbase hA O x y z u hOk R e
 ·exact qzaw base A h d tk me clock s g n r w hbase hA O x y z u hOk R e
 ·exact qz8z base A h d tk me clock s g n r w hbase hA O x y z u hOk R e
 ·exact qz9d base A h d tk me clock s g n r w hbase hA O x y z u hOk R e
 ·exact qz9a base A h d tk me clock s g n r w hbase hA O x y z u hOk R e
 ·exact qz9j base A h d tk me clock s g n r w hbase hA O x y z u hOk R e
end
end Go.Proofs.Ythjkdnlmopafkaa
