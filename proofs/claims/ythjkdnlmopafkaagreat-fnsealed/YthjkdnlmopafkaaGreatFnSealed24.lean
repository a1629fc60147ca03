/-
  What the law's proof goes by, part 25.
-/
import Derived.Test.YthjkdnlmopafkaaGreatFnSealed00
import Derived.Test.YthjkdnlmopafkaaGreatFnSealed17
import Derived.Test.YthjkdnlmopafkaaGreatFnSealed19
import Derived.Test.YthjkdnlmopafkaaGreatFnSealed20
import Derived.Test.YthjkdnlmopafkaaGreatFnSealed21
import Derived.Test.YthjkdnlmopafkaaGreatFnSealed22
import Derived.Test.YthjkdnlmopafkaaGreatFnSealed23
namespace Go.Proofs.YthjkdnlmopafkaaGreat
open Go.ChangeShapes Go.WideShapes Go.ChangeAt Go.RowKit
set_option maxRecDepth 100000
set_option maxHeartbeats 16000000
set_option linter.unusedVariables false
set_option linter.unusedSimpArgs false
set_option linter.unnecessarySimpa false
set_option linter.unusedSectionVars false
section
attribute [local go_sem ↓] Go.wp_at_zero Go.wp_at_succ
def qz16 (x y z u : Int) (A : Ar) (h : Hd) (d : Dd) (tk : Bool) (me clock : Int) : Ar × Hd × Dd × Bool :=
 if h.at_ = 1 ∨ h.at_ = 6 then ((qz2c x y z u A h).1, (qz2c x y z u A h).2, d, tk)
 else if h.at_ <= 5 then ((qz1m A h d clock).1, (qz1m A h d clock).2.1, (qz1m A h d clock).2.2, tk)
 else if h.at_ <= 12 then ((qzx x y z u A h).1, (qzx x y z u A h).2, d, tk)
 else if h.at_ <= 18 then ((qzo A h me tk).1, (qzo A h me tk).2.1, d, (qzo A h me tk).2.2)
 else if h.at_ = 19 then (A, qzaz A h, d, tk)
 else if h.at_ = 21 then (A, qz8l A h, d, tk)
 else ((qz4r A h).1, (qz4r A h).2, d, tk)
def qz2g (A : Ar) (h : Hd) (tk : Bool) (me : Int) : Int := if 13 <= h.at_ /\ h.at_ <= 18 then (qzo A h me tk).1.camera else Q7m
structure qzcy (A : Ar) (h : Hd) (me : Int) : Prop where
 v0 : 0 <= h.ver
 v1 : h.ver < (Q7h : Int)
 x0 : 0 <= h.x_
 x1 : h.x_ < (Q7f : Int)
 p0 : 0 <= h.pred
 p1 : h.pred < (Q7f : Int)
 c0 : 0 <= h.currVer
 c1 : h.currVer < (Q7h : Int)
 u1 : h.curr < (Q7f : Int)
 n1 : h.new_ < (Q7f : Int)
 o0 : 0 <= h.out
 o1 : h.out <= 1000000
 s0 : 0 <= h.sum
 s1 : h.sum <= 1000000
 cm : 0 <= h.cam
 r0 : 0 <= h.round
 r1 : h.round <= 20000
 i0 : 0 <= h.index
 i1 : h.index <= 60
 m0 : 0 <= me
 m1 : me < (Q7w : Int)
 k0 : 0 <= Q7m
 k1 : Q7m <= 100
theorem qzbz (base : Nat) (A : Ar) (h : Hd) (d : Dd) (tk : Bool) (me clock : Int) (s g n r : Value) (w : World) (hbase : base <= Q7b) (hA : A.size <= 1048576) (O : qz33 base w s g n r A) (x y z u : Int) (hOk : qz1a x y z u A = true) (R : qzcy A h me) (e : h.at_ = 1) :
  Calls Tryz.prog 148 Q2b w fun e w' => ∃ s' g' n' r', e = .returned (.agg (Q2s).toArray) /\ qz2j base w w' s g n r s' g' n' r' Q1h.1 := by
 have hA' := hA
 unfold Ar.size at hA
 obtain ⟨sa, sc, rfl⟩ := qzh O.rs
 obtain ⟨ga, gc, rfl⟩ := qzh O.rg
 obtain ⟨na, nc, rfl⟩ := qzh O.rn
 obtain ⟨ra, rc, rfl⟩ := qzh O.rr
 obtain ⟨S0, P0⟩ := qz1i base w Q0b Q09 Q0c Q0m A Q1f Q0k 59 28 x y z u O rfl rfl
 have hd : Hid (Q1h = ((qz2c x y z u A h).1, (qz2c x y z u A h).2, d, tk)) := by show _ = _; unfold qz16; rw [if_pos (by omega)]
 have hdc : Hid Q65 := by show _ = _; unfold qz2g; rw [if_neg (by omega)]
 have eH : Hid (h.at_ = 1) := e
 go_enter Tryz.func148, Tryz.ntmps148
 have tok : True := trivial
 go_wp2_with (clear tok; refine qz1q Q2z ?_)
 generalize hw0 : (Q3y).alloc (.cells Q01 59) = w0 at *
 clear hw0
 show wpList _ _ _ _ _ w0
 have q5 := S0.cell 5 rfl
 obtain ⟨p0, p1, p2, p3⟩ := id P0
 rw [e] at q5
 clear e
 go_wp2_with (first | (refine Q7j rfl 59 (.tmp 5) rfl (Q7b + 1) 0 ?lx Q1f _ ?lc Q7p rfl (qz8 _ _ _ _ _ _ _ _) ?_) | (go_at_call 155; refine (Q6w).mono ?_; rintro e w2 ⟨s2, g2, n2, r2, rfl, E⟩; have S3 := S0.swap E; clear E; obtain ⟨sa2, sc2, rfl⟩ := qzh S3.own.rs; obtain ⟨ga2, gc2, rfl⟩ := qzh S3.own.rg; obtain ⟨na2, nc2, rfl⟩ := qzh S3.own.rn; obtain ⟨ra2, rc2, rfl⟩ := qzh S3.own.rr) | (refine Q7e rfl 59 (.tmp 8) _ rfl (Q7b + 1 + 1) 0 (Q1j).toArray ?dx ?dy ?dt (qzp _ _ _ _ _ _ _ _) Q0w ?_))
 try (case lx => rfl)
 try (case lc => exact S0.row)
 try (case dx => rfl)
 try (case dy => rfl)
 try (case dt => exact S3.to)
 refine bodyPost_ret (v := .agg (Q1j).toArray) ?_ rfl ⟨_, _, _, _, by rw [hd.out, hdc.out], by rw [hd.out]; exact S3.fin2 _⟩
 exact qz3 Tryz.results148 _ _ (Q7b + 1 + 1) 0 rfl Q1j _ (S3.out2 _ rfl) Q7p rfl (qz8 _ _ _ _ _ _ _ _)
theorem qzct (base : Nat) (A : Ar) (h : Hd) (d : Dd) (tk : Bool) (me clock : Int) (s g n r : Value) (w : World) (hbase : base <= Q7b) (hA : A.size <= 1048576) (O : qz33 base w s g n r A) (x y z u : Int) (hOk : qz1a x y z u A = true) (R : qzcy A h me) (e : h.at_ = 6) :
  Calls Tryz.prog 148 Q2b w fun e w' => ∃ s' g' n' r', e = .returned (.agg (Q2s).toArray) /\ qz2j base w w' s g n r s' g' n' r' Q1h.1 := by
 have hA' := hA
 unfold Ar.size at hA
 obtain ⟨sa, sc, rfl⟩ := qzh O.rs
 obtain ⟨ga, gc, rfl⟩ := qzh O.rg
 obtain ⟨na, nc, rfl⟩ := qzh O.rn
 obtain ⟨ra, rc, rfl⟩ := qzh O.rr
 obtain ⟨S0, P0⟩ := qz1i base w Q0b Q09 Q0c Q0m A Q1f Q0k 59 28 x y z u O rfl rfl
 have hd : Hid (Q1h = ((qz2c x y z u A h).1, (qz2c x y z u A h).2, d, tk)) := by show _ = _; unfold qz16; rw [if_pos (by omega)]
 have hdc : Hid Q65 := by show _ = _; unfold qz2g; rw [if_neg (by omega)]
 have eH : Hid (h.at_ = 6) := e
 go_enter Tryz.func148, Tryz.ntmps148
 have tok : True := trivial
 go_wp2_with (clear tok; refine qz1q Q2z ?_)
 generalize hw0 : (Q3y).alloc (.cells Q01 59) = w0 at *
 clear hw0
 show wpList _ _ _ _ _ w0
 have q5 := S0.cell 5 rfl
 obtain ⟨p0, p1, p2, p3⟩ := id P0
 rw [e] at q5
 clear e
 go_wp2_with (first | (refine Q7j rfl 59 (.tmp 5) rfl (Q7b + 1) 0 ?lx Q1f _ ?lc Q7p rfl (qz8 _ _ _ _ _ _ _ _) ?_) | (go_at_call 155; refine (Q6w).mono ?_; rintro e w2 ⟨s2, g2, n2, r2, rfl, E⟩; have S3 := S0.swap E; clear E; obtain ⟨sa2, sc2, rfl⟩ := qzh S3.own.rs; obtain ⟨ga2, gc2, rfl⟩ := qzh S3.own.rg; obtain ⟨na2, nc2, rfl⟩ := qzh S3.own.rn; obtain ⟨ra2, rc2, rfl⟩ := qzh S3.own.rr) | (refine Q7e rfl 59 (.tmp 8) _ rfl (Q7b + 1 + 1) 0 (Q1j).toArray ?dx ?dy ?dt (qzp _ _ _ _ _ _ _ _) Q0w ?_))
 try (case lx => rfl)
 try (case lc => exact S0.row)
 try (case dx => rfl)
 try (case dy => rfl)
 try (case dt => exact S3.to)
 refine bodyPost_ret (v := .agg (Q1j).toArray) ?_ rfl ⟨_, _, _, _, by rw [hd.out, hdc.out], by rw [hd.out]; exact S3.fin2 _⟩
 exact qz3 Tryz.results148 _ _ (Q7b + 1 + 1) 0 rfl Q1j _ (S3.out2 _ rfl) Q7p rfl (qz8 _ _ _ _ _ _ _ _)
theorem qzci (base : Nat) (A : Ar) (h : Hd) (d : Dd) (tk : Bool) (me clock : Int) (s g n r : Value) (w : World) (hbase : base <= Q7b) (hA : A.size <= 1048576) (O : qz33 base w s g n r A) (x y z u : Int) (hOk : qz1a x y z u A = true) (R : qzcy A h me) (e : 2 <= h.at_ /\ h.at_ <= 5) :
  Calls Tryz.prog 148 Q2b w fun e w' => ∃ s' g' n' r', e = .returned (.agg (Q2s).toArray) /\ qz2j base w w' s g n r s' g' n' r' Q1h.1 := by
 have hA' := hA
 unfold Ar.size at hA
 obtain ⟨sa, sc, rfl⟩ := qzh O.rs
 obtain ⟨ga, gc, rfl⟩ := qzh O.rg
 obtain ⟨na, nc, rfl⟩ := qzh O.rn
 obtain ⟨ra, rc, rfl⟩ := qzh O.rr
 obtain ⟨S0, P0⟩ := qz1i base w Q0b Q09 Q0c Q0m A Q1f Q0k 59 28 x y z u O rfl rfl
 have hd : Hid (Q1h = ((qz1m A h d clock).1, (qz1m A h d clock).2.1, (qz1m A h d clock).2.2, tk)) := by show _ = _; unfold qz16; rw [if_neg (by omega), if_pos (by omega)]
 have hdc : Hid Q65 := by show _ = _; unfold qz2g; rw [if_neg (by omega)]
 have eH : Hid (2 <= h.at_ /\ h.at_ <= 5) := e
 go_enter Tryz.func148, Tryz.ntmps148
 have tok : True := trivial
 go_wp2_with (clear tok; refine qz1q Q2z ?_)
 generalize hw0 : (Q3y).alloc (.cells Q01 59) = w0 at *
 clear hw0
 show wpList _ _ _ _ _ w0
 have q5 := S0.cell 5 rfl
 obtain ⟨p0, p1, p2, p3⟩ := id P0
 have b1 : (h.at_ == 1) = false := by simp; omega
 have b6 : (h.at_ == 6) = false := by simp; omega
 have c5 : h.at_ <= 5 := by omega
 clear e
 go_wp2_with (first | (refine Q7j rfl 59 (.tmp 5) rfl (Q7b + 1) 0 ?lx Q1f _ ?lc Q7p rfl (qz8 _ _ _ _ _ _ _ _) ?_) | (go_at_call 53; refine (qz9q base A h d tk clock _ _ _ _ _ (Q7u hbase S0.but.size) hA' S0.own x y z u hOk R.v0 R.v1 R.x0 R.x1 R.u1 R.o0 R.o1 R.s0 R.s1 R.cm).mono ?_; rintro e w2 ⟨s2, g2, n2, r2, rfl, E⟩; have S3 := S0.swap E; clear E; obtain ⟨sa2, sc2, rfl⟩ := qzh S3.own.rs; obtain ⟨ga2, gc2, rfl⟩ := qzh S3.own.rg; obtain ⟨na2, nc2, rfl⟩ := qzh S3.own.rn; obtain ⟨ra2, rc2, rfl⟩ := qzh S3.own.rr) | (refine Q7e rfl 59 (.tmp 8) _ rfl (Q7b + 1 + 1) 0 (Q2n).toArray ?dx ?dy ?dt (qzp _ _ _ _ _ _ _ _) Q0w ?_))
 try (case lx => rfl)
 try (case lc => exact S0.row)
 try (case dx => rfl)
 try (case dy => rfl)
 try (case dt => exact S3.to)
 refine bodyPost_ret (v := .agg (Q2n).toArray) ?_ rfl ⟨_, _, _, _, by rw [hd.out, hdc.out], by rw [hd.out]; exact S3.fin2 _⟩
 exact qz3 Tryz.results148 _ _ (Q7b + 1 + 1) 0 rfl Q2n _ (S3.out2 _ rfl) Q7p rfl (qz8 _ _ _ _ _ _ _ _)
theorem qzcn (base : Nat) (A : Ar) (h : Hd) (d : Dd) (tk : Bool) (me clock : Int) (s g n r : Value) (w : World) (hbase : base <= Q7b) (hA : A.size <= 1048576) (O : qz33 base w s g n r A) (x y z u : Int) (hOk : qz1a x y z u A = true) (R : qzcy A h me) (e : 7 <= h.at_ /\ h.at_ <= 12) :
  Calls Tryz.prog 148 Q2b w fun e w' => ∃ s' g' n' r', e = .returned (.agg (Q2s).toArray) /\ qz2j base w w' s g n r s' g' n' r' Q1h.1 := by
 have hA' := hA
 unfold Ar.size at hA
 obtain ⟨sa, sc, rfl⟩ := qzh O.rs
 obtain ⟨ga, gc, rfl⟩ := qzh O.rg
 obtain ⟨na, nc, rfl⟩ := qzh O.rn
 obtain ⟨ra, rc, rfl⟩ := qzh O.rr
 obtain ⟨S0, P0⟩ := qz1i base w Q0b Q09 Q0c Q0m A Q1f Q0k 59 28 x y z u O rfl rfl
 have hd : Hid (Q1h = ((qzx x y z u A h).1, (qzx x y z u A h).2, d, tk)) := by show _ = _; unfold qz16; rw [if_neg (by omega), if_neg (by omega), if_pos (by omega)]
 have hdc : Hid Q65 := by show _ = _; unfold qz2g; rw [if_neg (by omega)]
 have eH : Hid (7 <= h.at_ /\ h.at_ <= 12) := e
 go_enter Tryz.func148, Tryz.ntmps148
 have tok : True := trivial
 go_wp2_with (clear tok; refine qz1q Q2z ?_)
 generalize hw0 : (Q3y).alloc (.cells Q01 59) = w0 at *
 clear hw0
 show wpList _ _ _ _ _ w0
 have q5 := S0.cell 5 rfl
 obtain ⟨p0, p1, p2, p3⟩ := id P0
 have b1 : (h.at_ == 1) = false := by simp; omega
 have b6 : (h.at_ == 6) = false := by simp; omega
 have c5 : ¬ (h.at_ <= 5) := by omega
 have c12 : h.at_ <= 12 := by omega
 clear e
 go_wp2_with (first | (refine Q7j rfl 59 (.tmp 5) rfl (Q7b + 1) 0 ?lx Q1f _ ?lc Q7p rfl (qz8 _ _ _ _ _ _ _ _) ?_) | (go_at_call 156; refine (qza8 base A h d tk _ _ _ _ _ (Q7u hbase S0.but.size) hA' S0.own x y z u hOk (by have := eH.out; omega) (by have := eH.out; omega) R.p0 R.p1 R.u1 R.c0 R.c1 R.n1).mono ?_; rintro e w2 ⟨s2, g2, n2, r2, rfl, E⟩; have S3 := S0.swap E; clear E; obtain ⟨sa2, sc2, rfl⟩ := qzh S3.own.rs; obtain ⟨ga2, gc2, rfl⟩ := qzh S3.own.rg; obtain ⟨na2, nc2, rfl⟩ := qzh S3.own.rn; obtain ⟨ra2, rc2, rfl⟩ := qzh S3.own.rr) | (refine Q7e rfl 59 (.tmp 8) _ rfl (Q7b + 1 + 1) 0 (Q2q).toArray ?dx ?dy ?dt (qzp _ _ _ _ _ _ _ _) Q0w ?_))
 try (case lx => rfl)
 try (case lc => exact S0.row)
 try (case dx => rfl)
 try (case dy => rfl)
 try (case dt => exact S3.to)
 refine bodyPost_ret (v := .agg (Q2q).toArray) ?_ rfl ⟨_, _, _, _, by rw [hd.out, hdc.out], by rw [hd.out]; exact S3.fin2 _⟩
 exact qz3 Tryz.results148 _ _ (Q7b + 1 + 1) 0 rfl Q2q _ (S3.out2 _ rfl) Q7p rfl (qz8 _ _ _ _ _ _ _ _)
theorem qzb5 (base : Nat) (A : Ar) (h : Hd) (d : Dd) (tk : Bool) (me clock : Int) (s g n r : Value) (w : World) (hbase : base <= Q7b) (hA : A.size <= 1048576) (O : qz33 base w s g n r A) (x y z u : Int) (hOk : qz1a x y z u A = true) (R : qzcy A h me) (e : 13 <= h.at_ /\ h.at_ <= 18) :
  Calls Tryz.prog 148 Q2b w fun e w' => ∃ s' g' n' r', e = .returned (.agg (Q2s).toArray) /\ qz2j base w w' s g n r s' g' n' r' Q1h.1 := by
 have hA' := hA
 unfold Ar.size at hA
 obtain ⟨sa, sc, rfl⟩ := qzh O.rs
 obtain ⟨ga, gc, rfl⟩ := qzh O.rg
 obtain ⟨na, nc, rfl⟩ := qzh O.rn
 obtain ⟨ra, rc, rfl⟩ := qzh O.rr
 obtain ⟨S0, P0⟩ := qz1i base w Q0b Q09 Q0c Q0m A Q1f Q0k 59 28 x y z u O rfl rfl
 have hd : Hid (Q1h = ((qzo A h me tk).1, (qzo A h me tk).2.1, d, (qzo A h me tk).2.2)) := by show _ = _; unfold qz16; rw [if_neg (by omega), if_neg (by omega), if_neg (by omega), if_pos (by omega)]
 have hdc : Hid (qz2g A h tk me = (qzo A h me tk).1.camera) := by show _ = _; unfold qz2g; rw [if_pos (by omega)]
 have eH : Hid (13 <= h.at_ /\ h.at_ <= 18) := e
 go_enter Tryz.func148, Tryz.ntmps148
 have tok : True := trivial
 go_wp2_with (clear tok; refine qz1q Q2z ?_)
 generalize hw0 : (Q3y).alloc (.cells Q01 59) = w0 at *
 clear hw0
 show wpList _ _ _ _ _ w0
 have q5 := S0.cell 5 rfl
 obtain ⟨p0, p1, p2, p3⟩ := id P0
 have b1 : (h.at_ == 1) = false := by simp; omega
 have b6 : (h.at_ == 6) = false := by simp; omega
 have c5 : ¬ (h.at_ <= 5) := by omega
 have c12 : ¬ (h.at_ <= 12) := by omega
 have c18 : h.at_ <= 18 := by omega
 clear e
 go_wp2_with (first | (refine Q7j rfl 59 (.tmp 5) rfl (Q7b + 1) 0 ?lx Q1f _ ?lc Q7p rfl (qz8 _ _ _ _ _ _ _ _) ?_) | (go_at_call 157; refine (qz99 base A h d tk me _ _ _ _ _ (Q7u hbase S0.but.size) hA' S0.own R.m0 R.m1 R.k0 R.k1).mono ?_; rintro e w2 ⟨s2, g2, n2, r2, rfl, E⟩; have S3 := S0.swap E; clear E; obtain ⟨sa2, sc2, rfl⟩ := qzh S3.own.rs; obtain ⟨ga2, gc2, rfl⟩ := qzh S3.own.rg; obtain ⟨na2, nc2, rfl⟩ := qzh S3.own.rn; obtain ⟨ra2, rc2, rfl⟩ := qzh S3.own.rr) | (refine Q7e rfl 59 (.tmp 8) _ rfl (Q7b + 1 + 1) 0 (Q2o).toArray ?dx ?dy ?dt (qzp _ _ _ _ _ _ _ _) Q0w ?_))
 try (case lx => rfl)
 try (case lc => exact S0.row)
 try (case dx => rfl)
 try (case dy => rfl)
 try (case dt => exact S3.to)
 refine bodyPost_ret (v := .agg (Q2o).toArray) ?_ rfl ⟨_, _, _, _, by rw [hd.out, hdc.out], by rw [hd.out]; exact S3.fin2 _⟩
 exact qz3 Tryz.results148 _ _ (Q7b + 1 + 1) 0 rfl Q2o _ (S3.out2 _ rfl) Q7p rfl (qz8 _ _ _ _ _ _ _ _)
theorem qzav (base : Nat) (A : Ar) (h : Hd) (d : Dd) (tk : Bool) (me clock : Int) (s g n r : Value) (w : World) (hbase : base <= Q7b) (hA : A.size <= 1048576) (O : qz33 base w s g n r A) (x y z u : Int) (hOk : qz1a x y z u A = true) (R : qzcy A h me) (e : h.at_ = 19) :
  Calls Tryz.prog 148 Q2b w fun e w' => ∃ s' g' n' r', e = .returned (.agg (Q2s).toArray) /\ qz2j base w w' s g n r s' g' n' r' Q1h.1 := by
 have hA' := hA
 unfold Ar.size at hA
 obtain ⟨sa, sc, rfl⟩ := qzh O.rs
 obtain ⟨ga, gc, rfl⟩ := qzh O.rg
 obtain ⟨na, nc, rfl⟩ := qzh O.rn
 obtain ⟨ra, rc, rfl⟩ := qzh O.rr
 obtain ⟨S0, P0⟩ := qz1i base w Q0b Q09 Q0c Q0m A Q1f Q0k 59 28 x y z u O rfl rfl
 have hd : Hid (Q1h = (A, (qzaz A h), d, tk)) := by show _ = _; unfold qz16; rw [if_neg (by omega), if_neg (by omega), if_neg (by omega), if_neg (by omega), if_pos (by omega)]
 have hdc : Hid Q65 := by show _ = _; unfold qz2g; rw [if_neg (by omega)]
 have eH : Hid (h.at_ = 19) := e
 go_enter Tryz.func148, Tryz.ntmps148
 have tok : True := trivial
 go_wp2_with (clear tok; refine qz1q Q2z ?_)
 generalize hw0 : (Q3y).alloc (.cells Q01 59) = w0 at *
 clear hw0
 show wpList _ _ _ _ _ w0
 have q5 := S0.cell 5 rfl
 obtain ⟨p0, p1, p2, p3⟩ := id P0
 rw [e] at q5
 clear e
 go_wp2_with (first | (refine Q7j rfl 59 (.tmp 5) rfl (Q7b + 1) 0 ?lx Q1f _ ?lc Q7p rfl (qz8 _ _ _ _ _ _ _ _) ?_) | (go_at_call 158; refine (qzcj Q7r A h d tk _ _ _ _ _ _ _ _ _ (Q7l _) hA' S0.is x y z u hOk R.v0 R.v1 R.x0 R.x1 R.o0 R.o1 R.s0 R.s1).mono ?_; rintro e w2 ⟨rfl, b2⟩; have S3 := S0.below b2; clear b2) | (refine Q7e rfl 59 (.tmp 8) _ rfl (Q7b + 1 + 1) 0 (qzc Q7m Q0b Q09 Q0c Q0m (qzaz A h) d tk).toArray ?dx ?dy ?dt (qzp _ _ _ _ _ _ _ _) Q0w ?_))
 try (case lx => rfl)
 try (case lc => exact S0.row)
 try (case dx => rfl)
 try (case dy => rfl)
 try (case dt => exact S3.to)
 refine bodyPost_ret (v := .agg (qzc Q7m Q0b Q09 Q0c Q0m (qzaz A h) d tk).toArray) ?_ rfl ⟨_, _, _, _, by rw [hd.out, hdc.out], by rw [hd.out]; exact S3.fin2 _⟩
 exact qz3 Tryz.results148 _ _ (Q7b + 1 + 1) 0 rfl (qzc Q7m Q0b Q09 Q0c Q0m (qzaz A h) d tk) _ (S3.out2 _ rfl) Q7p rfl (qz8 _ _ _ _ _ _ _ _)
theorem qzaw (base : Nat) (A : Ar) (h : Hd) (d : Dd) (tk : Bool) (me clock : Int) (s g n r : Value) (w : World) (hbase : base <= Q7b) (hA : A.size <= 1048576) (O : qz33 base w s g n r A) (x y z u : Int) (hOk : qz1a x y z u A = true) (R : qzcy A h me) (e : h.at_ = 21) :
  Calls Tryz.prog 148 Q2b w fun e w' => ∃ s' g' n' r', e = .returned (.agg (Q2s).toArray) /\ qz2j base w w' s g n r s' g' n' r' Q1h.1 := by
 have hA' := hA
 unfold Ar.size at hA
 obtain ⟨sa, sc, rfl⟩ := qzh O.rs
 obtain ⟨ga, gc, rfl⟩ := qzh O.rg
 obtain ⟨na, nc, rfl⟩ := qzh O.rn
 obtain ⟨ra, rc, rfl⟩ := qzh O.rr
 obtain ⟨S0, P0⟩ := qz1i base w Q0b Q09 Q0c Q0m A Q1f Q0k 59 28 x y z u O rfl rfl
 have hd : Hid (Q1h = (A, (qz8l A h), d, tk)) := by show _ = _; unfold qz16; rw [if_neg (by omega), if_neg (by omega), if_neg (by omega), if_neg (by omega), if_neg (by omega), if_pos (by omega)]
 have hdc : Hid Q65 := by show _ = _; unfold qz2g; rw [if_neg (by omega)]
 have eH : Hid (h.at_ = 21) := e
 go_enter Tryz.func148, Tryz.ntmps148
 have tok : True := trivial
 go_wp2_with (clear tok; refine qz1q Q2z ?_)
 generalize hw0 : (Q3y).alloc (.cells Q01 59) = w0 at *
 clear hw0
 show wpList _ _ _ _ _ w0
 have q5 := S0.cell 5 rfl
 obtain ⟨p0, p1, p2, p3⟩ := id P0
 rw [e] at q5
 clear e
 go_wp2_with (first | (refine Q7j rfl 59 (.tmp 5) rfl (Q7b + 1) 0 ?lx Q1f _ ?lc Q7p rfl (qz8 _ _ _ _ _ _ _ _) ?_) | (go_at_call 159; refine (qzcw base A h d tk _ _ _ _ _ (Q7u hbase S0.but.size) hA' S0.own x y z u hOk R.v0 R.v1 R.x0 R.x1 R.o0 R.o1 eH.out R.i0 R.i1).mono ?_; rintro e w2 ⟨s2, g2, n2, r2, rfl, E⟩; have S3 := S0.swap E; clear E; obtain ⟨sa2, sc2, rfl⟩ := qzh S3.own.rs; obtain ⟨ga2, gc2, rfl⟩ := qzh S3.own.rg; obtain ⟨na2, nc2, rfl⟩ := qzh S3.own.rn; obtain ⟨ra2, rc2, rfl⟩ := qzh S3.own.rr) | (refine Q7e rfl 59 (.tmp 8) _ rfl (Q7b + 1 + 1) 0 (Q3p).toArray ?dx ?dy ?dt (qzp _ _ _ _ _ _ _ _) Q0w ?_))
 try (case lx => rfl)
 try (case lc => exact S0.row)
 try (case dx => rfl)
 try (case dy => rfl)
 try (case dt => exact S3.to)
 refine bodyPost_ret (v := .agg (Q3p).toArray) ?_ rfl ⟨_, _, _, _, by rw [hd.out, hdc.out], by rw [hd.out]; exact S3.fin2 _⟩
 exact qz3 Tryz.results148 _ _ (Q7b + 1 + 1) 0 rfl Q3p _ (S3.out2 _ rfl) Q7p rfl (qz8 _ _ _ _ _ _ _ _)
theorem qzbc (base : Nat) (A : Ar) (h : Hd) (d : Dd) (tk : Bool) (me clock : Int) (s g n r : Value) (w : World) (hbase : base <= Q7b) (hA : A.size <= 1048576) (O : qz33 base w s g n r A) (x y z u : Int) (hOk : qz1a x y z u A = true) (R : qzcy A h me) (e : 20 <= h.at_ /\ h.at_ ≠ 21) :
  Calls Tryz.prog 148 Q2b w fun e w' => ∃ s' g' n' r', e = .returned (.agg (Q2s).toArray) /\ qz2j base w w' s g n r s' g' n' r' Q1h.1 := by
 have hA' := hA
 unfold Ar.size at hA
 obtain ⟨sa, sc, rfl⟩ := qzh O.rs
 obtain ⟨ga, gc, rfl⟩ := qzh O.rg
 obtain ⟨na, nc, rfl⟩ := qzh O.rn
 obtain ⟨ra, rc, rfl⟩ := qzh O.rr
 obtain ⟨S0, P0⟩ := qz1i base w Q0b Q09 Q0c Q0m A Q1f Q0k 59 28 x y z u O rfl rfl
 have hd : Hid (Q1h = ((qz4r A h).1, (qz4r A h).2, d, tk)) := by show _ = _; unfold qz16; rw [if_neg (by omega), if_neg (by omega), if_neg (by omega), if_neg (by omega), if_neg (by omega), if_neg (by omega)]
 have hdc : Hid Q65 := by show _ = _; unfold qz2g; rw [if_neg (by omega)]
 have eH : Hid (20 <= h.at_ /\ h.at_ ≠ 21) := e
 go_enter Tryz.func148, Tryz.ntmps148
 have tok : True := trivial
 go_wp2_with (clear tok; refine qz1q Q2z ?_)
 generalize hw0 : (Q3y).alloc (.cells Q01 59) = w0 at *
 clear hw0
 show wpList _ _ _ _ _ w0
 have q5 := S0.cell 5 rfl
 obtain ⟨p0, p1, p2, p3⟩ := id P0
 have b1 : (h.at_ == 1) = false := by simp; omega
 have b6 : (h.at_ == 6) = false := by simp; omega
 have c5 : ¬ (h.at_ <= 5) := by omega
 have c12 : ¬ (h.at_ <= 12) := by omega
 have c18 : ¬ (h.at_ <= 18) := by omega
 have b19 : (h.at_ == 19) = false := by simp; omega
 clear e
 go_wp2_with (first | (refine Q7j rfl 59 (.tmp 5) rfl (Q7b + 1) 0 ?lx Q1f _ ?lc Q7p rfl (qz8 _ _ _ _ _ _ _ _) ?_) | (go_at_call 159; refine (qzcr base A h d tk _ _ _ _ _ (Q7u hbase S0.but.size) hA' S0.own x y z u hOk R.v0 R.v1 R.x0 R.x1 R.o0 R.o1 (by have := eH.out; omega)).mono ?_; rintro e w2 ⟨s2, g2, n2, r2, rfl, E⟩; have S3 := S0.swap E; clear E; obtain ⟨sa2, sc2, rfl⟩ := qzh S3.own.rs; obtain ⟨ga2, gc2, rfl⟩ := qzh S3.own.rg; obtain ⟨na2, nc2, rfl⟩ := qzh S3.own.rn; obtain ⟨ra2, rc2, rfl⟩ := qzh S3.own.rr) | (refine Q7e rfl 59 (.tmp 8) _ rfl (Q7b + 1 + 1) 0 (Q2x).toArray ?dx ?dy ?dt (qzp _ _ _ _ _ _ _ _) Q0w ?_))
 try (case lx => rfl)
 try (case lc => exact S0.row)
 try (case dx => rfl)
 try (case dy => rfl)
 try (case dt => exact S3.to)
 refine bodyPost_ret (v := .agg (Q2x).toArray) ?_ rfl ⟨_, _, _, _, by rw [hd.out, hdc.out], by rw [hd.out]; exact S3.fin2 _⟩
 exact qz3 Tryz.results148 _ _ (Q7b + 1 + 1) 0 rfl Q2x _ (S3.out2 _ rfl) Q7p rfl (qz8 _ _ _ _ _ _ _ _)
theorem qzcu (base : Nat) (A : Ar) (h : Hd) (d : Dd) (tk : Bool) (me clock : Int) (s g n r : Value) (w : World) (hbase : base <= Q7b) (hA : A.size <= 1048576) (O : qz33 base w s g n r A) (x y z u : Int) (hOk : qz1a x y z u A = true) (R : qzcy A h me) (h1 : 1 <= h.at_) (h23 : h.at_ <= 23) :
  Calls Tryz.prog 148 Q2b w fun e w' => ∃ s' g' n' r', e = .returned (.agg (Q2s).toArray) /\ qz2j base w w' s g n r s' g' n' r' Q1h.1 := by
 rcases (show h.at_ = 1 ∨ h.at_ = 6 ∨ (2 <= h.at_ /\ h.at_ <= 5) ∨ (7 <= h.at_ /\ h.at_ <= 12) ∨ (13 <= h.at_ /\ h.at_ <= 18) ∨ h.at_ = 19 ∨ h.at_ = 21 ∨ (20 <= h.at_ /\ h.at_ ≠ 21) by omega) with e | e | e | e | e | e | e | e
 ·exact qzbz base A h d tk me clock s g n r w hbase hA O x y z u hOk R e
 ·exact qzct base A h d tk me clock s g n r w hbase hA O x y z u hOk R e
 ·exact qzci base A h d tk me clock s g n r w hbase hA O x y z u hOk R e
 ·exact qzcn base A h d tk me clock s g n r w hbase hA O x y z u hOk R e
 ·exact qzb5 base A h d tk me clock s g n r w hbase hA O x y z u hOk R e
 ·exact qzav base A h d tk me clock s g n r w hbase hA O x y z u hOk R e
 ·exact qzaw base A h d tk me clock s g n r w hbase hA O x y z u hOk R e
 ·exact qzbc base A h d tk me clock s g n r w hbase hA O x y z u hOk R e
end
end Go.Proofs.YthjkdnlmopafkaaGreat
