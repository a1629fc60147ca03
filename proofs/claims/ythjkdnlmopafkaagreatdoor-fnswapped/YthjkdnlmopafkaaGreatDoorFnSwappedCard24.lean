/-
  What the law's proof goes by, part 25.
-/
import Derived.Test.YthjkdnlmopafkaaGreatDoorFnSwappedCard00
import Derived.Test.YthjkdnlmopafkaaGreatDoorFnSwappedCard17
import Derived.Test.YthjkdnlmopafkaaGreatDoorFnSwappedCard19
import Derived.Test.YthjkdnlmopafkaaGreatDoorFnSwappedCard20
import Derived.Test.YthjkdnlmopafkaaGreatDoorFnSwappedCard21
import Derived.Test.YthjkdnlmopafkaaGreatDoorFnSwappedCard22
import Derived.Test.YthjkdnlmopafkaaGreatDoorFnSwappedCard23
namespace Go.Proofs.YthjkdnlmopafkaaGreatDoor
open Go.ChangeShapes Go.WideShapes Go.ChangeAt Go.RowKit
set_option maxRecDepth 100000
set_option maxHeartbeats 16000000
set_option linter.unusedVariables false
set_option linter.unusedSimpArgs false
set_option linter.unnecessarySimpa false
set_option linter.unusedSectionVars false
section
attribute [local go_sem ↓] Go.wp_at_zero Go.wp_at_succ
def qz18 (x y z u : Int) (A : Ar) (h : Hd) (d : Dd) (tk : Bool) (me clock : Int) : Ar × Hd × Dd × Bool :=
 if h.at_ = 1 ∨ h.at_ = 6 then ((qz22 x y z u A h).1, (qz22 x y z u A h).2, d, tk)
 else if h.at_ <= 5 then ((qz25 A h d clock).1, (qz25 A h d clock).2.1, (qz25 A h d clock).2.2, tk)
 else if h.at_ <= 12 then ((qzw x y z u A h).1, (qzw x y z u A h).2, d, tk)
 else if h.at_ <= 18 then ((qzo A h me tk).1, (qzo A h me tk).2.1, d, (qzo A h me tk).2.2)
 else if h.at_ = 19 then (A, qzb0 A h, d, tk)
 else if h.at_ = 21 then (A, qz80 A h, d, tk)
 else ((qz4g A h).1, (qz4g A h).2, d, tk)
def qz27 (A : Ar) (h : Hd) (tk : Bool) (me : Int) : Int := if 13 <= h.at_ /\ h.at_ <= 18 then (qzo A h me tk).1.camera else Q6w
structure qzcu (A : Ar) (h : Hd) (me : Int) : Prop where
 v0 : 0 <= h.ver
 v1 : h.ver < (Q6r : Int)
 x0 : 0 <= h.x_
 x1 : h.x_ < (Q6q : Int)
 p0 : 0 <= h.pred
 p1 : h.pred < (Q6q : Int)
 c0 : 0 <= h.currVer
 c1 : h.currVer < (Q6r : Int)
 u1 : h.curr < (Q6q : Int)
 n1 : h.new_ < (Q6q : Int)
 o0 : 0 <= h.out
 o1 : h.out <= 1000000
 s0 : 0 <= h.sum
 s1 : h.sum <= 1000000
 cm : 0 <= h.cam
 r0 : 0 <= h.round
 r1 : h.round <= 20000
 i0 : 0 <= h.index
 i1 : h.index <= 60
 m0 : 0 <= me
 m1 : me < (Q74 : Int)
 k0 : 0 <= Q6w
 k1 : Q6w <= 100
theorem qzbx (base : Nat) (A : Ar) (h : Hd) (d : Dd) (tk : Bool) (me clock : Int) (s g n r : Value) (w : World) (hbase : base <= Q6o) (hA : A.size <= 1048576) (O : qz1t base w s g n r A) (x y z u : Int) (hOk : qz10 x y z u A = true) (R : qzcu A h me) (e : h.at_ = 1) :
  Calls Tryz.prog 137 Q20 w fun e w' => ∃ s' g' n' r', e = .returned (.agg (Q2i).toArray) /\ qz29 base w w' s g n r s' g' n' r' Q19.1 := by
 have hA' := hA
 unfold Ar.size at hA
 obtain ⟨sa, sc, rfl⟩ := qzf O.rs
 obtain ⟨ga, gc, rfl⟩ := qzf O.rg
 obtain ⟨na, nc, rfl⟩ := qzf O.rn
 obtain ⟨ra, rc, rfl⟩ := qzf O.rr
 obtain ⟨S0, P0⟩ := qz1i base w Q0a Q07 Q0c Q0h A Q18 Q0i 60 25 x y z u O rfl rfl
 have hd : Hid (Q19 = ((qz22 x y z u A h).1, (qz22 x y z u A h).2, d, tk)) := by show _ = _; unfold qz18; rw [if_pos (by omega)]
 have hdc : Hid Q5i := by show _ = _; unfold qz27; rw [if_neg (by omega)]
 have eH : Hid (h.at_ = 1) := e
 go_enter Tryz.func137, Tryz.ntmps137
 have tok : True := trivial
 go_wp2_with (clear tok; refine qz2j Q2b ?_)
 generalize hw0 : (Q34).alloc (.cells Q01 60) = w0 at *
 clear hw0
 show wpList _ _ _ _ _ w0
 have q5 := S0.cell 5 rfl
 obtain ⟨p0, p1, p2, p3⟩ := id P0
 rw [e] at q5
 clear e
 go_wp2_with (first | (refine Q6z rfl 60 (.tmp 5) rfl (Q6o + 1) 0 ?lx Q18 _ ?lc Q71 rfl (qz7 _ _ _ _ _ _ _ _) ?_) | (go_at_call 53; refine (Q6b).mono ?_; rintro e w2 ⟨s2, g2, n2, r2, rfl, E⟩; have S3 := S0.swap E; clear E; obtain ⟨sa2, sc2, rfl⟩ := qzf S3.own.rs; obtain ⟨ga2, gc2, rfl⟩ := qzf S3.own.rg; obtain ⟨na2, nc2, rfl⟩ := qzf S3.own.rn; obtain ⟨ra2, rc2, rfl⟩ := qzf S3.own.rr) | (refine Q6t rfl 60 (.tmp 8) _ rfl (Q6o + 1 + 1) 0 (Q1b).toArray ?dx ?dy ?dt (qzs _ _ _ _ _ _ _ _) Q0v ?_))
 try (case lx => rfl)
 try (case lc => exact S0.row)
 try (case dx => rfl)
 try (case dy => rfl)
 try (case dt => exact S3.to)
 refine bodyPost_ret (v := .agg (Q1b).toArray) ?_ rfl ⟨_, _, _, _, by rw [hd.out, hdc.out], by rw [hd.out]; exact S3.fin2 _⟩
 exact qz3 Tryz.results137 _ _ (Q6o + 1 + 1) 0 rfl Q1b _ (S3.out2 _ rfl) Q71 rfl (qz7 _ _ _ _ _ _ _ _)
theorem qzcb (base : Nat) (A : Ar) (h : Hd) (d : Dd) (tk : Bool) (me clock : Int) (s g n r : Value) (w : World) (hbase : base <= Q6o) (hA : A.size <= 1048576) (O : qz1t base w s g n r A) (x y z u : Int) (hOk : qz10 x y z u A = true) (R : qzcu A h me) (e : h.at_ = 6) :
  Calls Tryz.prog 137 Q20 w fun e w' => ∃ s' g' n' r', e = .returned (.agg (Q2i).toArray) /\ qz29 base w w' s g n r s' g' n' r' Q19.1 := by
 have hA' := hA
 unfold Ar.size at hA
 obtain ⟨sa, sc, rfl⟩ := qzf O.rs
 obtain ⟨ga, gc, rfl⟩ := qzf O.rg
 obtain ⟨na, nc, rfl⟩ := qzf O.rn
 obtain ⟨ra, rc, rfl⟩ := qzf O.rr
 obtain ⟨S0, P0⟩ := qz1i base w Q0a Q07 Q0c Q0h A Q18 Q0i 60 25 x y z u O rfl rfl
 have hd : Hid (Q19 = ((qz22 x y z u A h).1, (qz22 x y z u A h).2, d, tk)) := by show _ = _; unfold qz18; rw [if_pos (by omega)]
 have hdc : Hid Q5i := by show _ = _; unfold qz27; rw [if_neg (by omega)]
 have eH : Hid (h.at_ = 6) := e
 go_enter Tryz.func137, Tryz.ntmps137
 have tok : True := trivial
 go_wp2_with (clear tok; refine qz2j Q2b ?_)
 generalize hw0 : (Q34).alloc (.cells Q01 60) = w0 at *
 clear hw0
 show wpList _ _ _ _ _ w0
 have q5 := S0.cell 5 rfl
 obtain ⟨p0, p1, p2, p3⟩ := id P0
 rw [e] at q5
 clear e
 go_wp2_with (first | (refine Q6z rfl 60 (.tmp 5) rfl (Q6o + 1) 0 ?lx Q18 _ ?lc Q71 rfl (qz7 _ _ _ _ _ _ _ _) ?_) | (go_at_call 53; refine (Q6b).mono ?_; rintro e w2 ⟨s2, g2, n2, r2, rfl, E⟩; have S3 := S0.swap E; clear E; obtain ⟨sa2, sc2, rfl⟩ := qzf S3.own.rs; obtain ⟨ga2, gc2, rfl⟩ := qzf S3.own.rg; obtain ⟨na2, nc2, rfl⟩ := qzf S3.own.rn; obtain ⟨ra2, rc2, rfl⟩ := qzf S3.own.rr) | (refine Q6t rfl 60 (.tmp 8) _ rfl (Q6o + 1 + 1) 0 (Q1b).toArray ?dx ?dy ?dt (qzs _ _ _ _ _ _ _ _) Q0v ?_))
 try (case lx => rfl)
 try (case lc => exact S0.row)
 try (case dx => rfl)
 try (case dy => rfl)
 try (case dt => exact S3.to)
 refine bodyPost_ret (v := .agg (Q1b).toArray) ?_ rfl ⟨_, _, _, _, by rw [hd.out, hdc.out], by rw [hd.out]; exact S3.fin2 _⟩
 exact qz3 Tryz.results137 _ _ (Q6o + 1 + 1) 0 rfl Q1b _ (S3.out2 _ rfl) Q71 rfl (qz7 _ _ _ _ _ _ _ _)
theorem qzbw (base : Nat) (A : Ar) (h : Hd) (d : Dd) (tk : Bool) (me clock : Int) (s g n r : Value) (w : World) (hbase : base <= Q6o) (hA : A.size <= 1048576) (O : qz1t base w s g n r A) (x y z u : Int) (hOk : qz10 x y z u A = true) (R : qzcu A h me) (e : 2 <= h.at_ /\ h.at_ <= 5) :
  Calls Tryz.prog 137 Q20 w fun e w' => ∃ s' g' n' r', e = .returned (.agg (Q2i).toArray) /\ qz29 base w w' s g n r s' g' n' r' Q19.1 := by
 have hA' := hA
 unfold Ar.size at hA
 obtain ⟨sa, sc, rfl⟩ := qzf O.rs
 obtain ⟨ga, gc, rfl⟩ := qzf O.rg
 obtain ⟨na, nc, rfl⟩ := qzf O.rn
 obtain ⟨ra, rc, rfl⟩ := qzf O.rr
 obtain ⟨S0, P0⟩ := qz1i base w Q0a Q07 Q0c Q0h A Q18 Q0i 60 25 x y z u O rfl rfl
 have hd : Hid (Q19 = ((qz25 A h d clock).1, (qz25 A h d clock).2.1, (qz25 A h d clock).2.2, tk)) := by show _ = _; unfold qz18; rw [if_neg (by omega), if_pos (by omega)]
 have hdc : Hid Q5i := by show _ = _; unfold qz27; rw [if_neg (by omega)]
 have eH : Hid (2 <= h.at_ /\ h.at_ <= 5) := e
 go_enter Tryz.func137, Tryz.ntmps137
 have tok : True := trivial
 go_wp2_with (clear tok; refine qz2j Q2b ?_)
 generalize hw0 : (Q34).alloc (.cells Q01 60) = w0 at *
 clear hw0
 show wpList _ _ _ _ _ w0
 have q5 := S0.cell 5 rfl
 obtain ⟨p0, p1, p2, p3⟩ := id P0
 have b1 : (h.at_ == 1) = false := by simp; omega
 have b6 : (h.at_ == 6) = false := by simp; omega
 have c5 : h.at_ <= 5 := by omega
 clear e
 go_wp2_with (first | (refine Q6z rfl 60 (.tmp 5) rfl (Q6o + 1) 0 ?lx Q18 _ ?lc Q71 rfl (qz7 _ _ _ _ _ _ _ _) ?_) | (go_at_call 147; refine (qzd7 base A h d tk clock _ _ _ _ _ (Q77 hbase S0.but.size) hA' S0.own x y z u hOk R.v0 R.v1 R.x0 R.x1 R.u1 R.o0 R.o1 R.s0 R.s1 R.cm).mono ?_; rintro e w2 ⟨s2, g2, n2, r2, rfl, E⟩; have S3 := S0.swap E; clear E; obtain ⟨sa2, sc2, rfl⟩ := qzf S3.own.rs; obtain ⟨ga2, gc2, rfl⟩ := qzf S3.own.rg; obtain ⟨na2, nc2, rfl⟩ := qzf S3.own.rn; obtain ⟨ra2, rc2, rfl⟩ := qzf S3.own.rr) | (refine Q6t rfl 60 (.tmp 8) _ rfl (Q6o + 1 + 1) 0 (Q2d).toArray ?dx ?dy ?dt (qzs _ _ _ _ _ _ _ _) Q0v ?_))
 try (case lx => rfl)
 try (case lc => exact S0.row)
 try (case dx => rfl)
 try (case dy => rfl)
 try (case dt => exact S3.to)
 refine bodyPost_ret (v := .agg (Q2d).toArray) ?_ rfl ⟨_, _, _, _, by rw [hd.out, hdc.out], by rw [hd.out]; exact S3.fin2 _⟩
 exact qz3 Tryz.results137 _ _ (Q6o + 1 + 1) 0 rfl Q2d _ (S3.out2 _ rfl) Q71 rfl (qz7 _ _ _ _ _ _ _ _)
theorem qzcj (base : Nat) (A : Ar) (h : Hd) (d : Dd) (tk : Bool) (me clock : Int) (s g n r : Value) (w : World) (hbase : base <= Q6o) (hA : A.size <= 1048576) (O : qz1t base w s g n r A) (x y z u : Int) (hOk : qz10 x y z u A = true) (R : qzcu A h me) (e : 7 <= h.at_ /\ h.at_ <= 12) :
  Calls Tryz.prog 137 Q20 w fun e w' => ∃ s' g' n' r', e = .returned (.agg (Q2i).toArray) /\ qz29 base w w' s g n r s' g' n' r' Q19.1 := by
 have hA' := hA
 unfold Ar.size at hA
 obtain ⟨sa, sc, rfl⟩ := qzf O.rs
 obtain ⟨ga, gc, rfl⟩ := qzf O.rg
 obtain ⟨na, nc, rfl⟩ := qzf O.rn
 obtain ⟨ra, rc, rfl⟩ := qzf O.rr
 obtain ⟨S0, P0⟩ := qz1i base w Q0a Q07 Q0c Q0h A Q18 Q0i 60 25 x y z u O rfl rfl
 have hd : Hid (Q19 = ((qzw x y z u A h).1, (qzw x y z u A h).2, d, tk)) := by show _ = _; unfold qz18; rw [if_neg (by omega), if_neg (by omega), if_pos (by omega)]
 have hdc : Hid Q5i := by show _ = _; unfold qz27; rw [if_neg (by omega)]
 have eH : Hid (7 <= h.at_ /\ h.at_ <= 12) := e
 go_enter Tryz.func137, Tryz.ntmps137
 have tok : True := trivial
 go_wp2_with (clear tok; refine qz2j Q2b ?_)
 generalize hw0 : (Q34).alloc (.cells Q01 60) = w0 at *
 clear hw0
 show wpList _ _ _ _ _ w0
 have q5 := S0.cell 5 rfl
 obtain ⟨p0, p1, p2, p3⟩ := id P0
 have b1 : (h.at_ == 1) = false := by simp; omega
 have b6 : (h.at_ == 6) = false := by simp; omega
 have c5 : ¬ (h.at_ <= 5) := by omega
 have c12 : h.at_ <= 12 := by omega
 clear e
 go_wp2_with (first | (refine Q6z rfl 60 (.tmp 5) rfl (Q6o + 1) 0 ?lx Q18 _ ?lc Q71 rfl (qz7 _ _ _ _ _ _ _ _) ?_) | (go_at_call 148; refine (qz9c base A h d tk _ _ _ _ _ (Q77 hbase S0.but.size) hA' S0.own x y z u hOk (by have := eH.out; omega) (by have := eH.out; omega) R.p0 R.p1 R.u1 R.c0 R.c1 R.n1).mono ?_; rintro e w2 ⟨s2, g2, n2, r2, rfl, E⟩; have S3 := S0.swap E; clear E; obtain ⟨sa2, sc2, rfl⟩ := qzf S3.own.rs; obtain ⟨ga2, gc2, rfl⟩ := qzf S3.own.rg; obtain ⟨na2, nc2, rfl⟩ := qzf S3.own.rn; obtain ⟨ra2, rc2, rfl⟩ := qzf S3.own.rr) | (refine Q6t rfl 60 (.tmp 8) _ rfl (Q6o + 1 + 1) 0 (Q2h).toArray ?dx ?dy ?dt (qzs _ _ _ _ _ _ _ _) Q0v ?_))
 try (case lx => rfl)
 try (case lc => exact S0.row)
 try (case dx => rfl)
 try (case dy => rfl)
 try (case dt => exact S3.to)
 refine bodyPost_ret (v := .agg (Q2h).toArray) ?_ rfl ⟨_, _, _, _, by rw [hd.out, hdc.out], by rw [hd.out]; exact S3.fin2 _⟩
 exact qz3 Tryz.results137 _ _ (Q6o + 1 + 1) 0 rfl Q2h _ (S3.out2 _ rfl) Q71 rfl (qz7 _ _ _ _ _ _ _ _)
theorem qzac (base : Nat) (A : Ar) (h : Hd) (d : Dd) (tk : Bool) (me clock : Int) (s g n r : Value) (w : World) (hbase : base <= Q6o) (hA : A.size <= 1048576) (O : qz1t base w s g n r A) (x y z u : Int) (hOk : qz10 x y z u A = true) (R : qzcu A h me) (e : 13 <= h.at_ /\ h.at_ <= 18) :
  Calls Tryz.prog 137 Q20 w fun e w' => ∃ s' g' n' r', e = .returned (.agg (Q2i).toArray) /\ qz29 base w w' s g n r s' g' n' r' Q19.1 := by
 have hA' := hA
 unfold Ar.size at hA
 obtain ⟨sa, sc, rfl⟩ := qzf O.rs
 obtain ⟨ga, gc, rfl⟩ := qzf O.rg
 obtain ⟨na, nc, rfl⟩ := qzf O.rn
 obtain ⟨ra, rc, rfl⟩ := qzf O.rr
 obtain ⟨S0, P0⟩ := qz1i base w Q0a Q07 Q0c Q0h A Q18 Q0i 60 25 x y z u O rfl rfl
 have hd : Hid (Q19 = ((qzo A h me tk).1, (qzo A h me tk).2.1, d, (qzo A h me tk).2.2)) := by show _ = _; unfold qz18; rw [if_neg (by omega), if_neg (by omega), if_neg (by omega), if_pos (by omega)]
 have hdc : Hid (qz27 A h tk me = (qzo A h me tk).1.camera) := by show _ = _; unfold qz27; rw [if_pos (by omega)]
 have eH : Hid (13 <= h.at_ /\ h.at_ <= 18) := e
 go_enter Tryz.func137, Tryz.ntmps137
 have tok : True := trivial
 go_wp2_with (clear tok; refine qz2j Q2b ?_)
 generalize hw0 : (Q34).alloc (.cells Q01 60) = w0 at *
 clear hw0
 show wpList _ _ _ _ _ w0
 have q5 := S0.cell 5 rfl
 obtain ⟨p0, p1, p2, p3⟩ := id P0
 have b1 : (h.at_ == 1) = false := by simp; omega
 have b6 : (h.at_ == 6) = false := by simp; omega
 have c5 : ¬ (h.at_ <= 5) := by omega
 have c12 : ¬ (h.at_ <= 12) := by omega
 have c18 : h.at_ <= 18 := by omega
 clear e
 go_wp2_with (first | (refine Q6z rfl 60 (.tmp 5) rfl (Q6o + 1) 0 ?lx Q18 _ ?lc Q71 rfl (qz7 _ _ _ _ _ _ _ _) ?_) | (go_at_call 149; refine (qz8m base A h d tk me _ _ _ _ _ (Q77 hbase S0.but.size) hA' S0.own R.m0 R.m1 R.k0 R.k1).mono ?_; rintro e w2 ⟨s2, g2, n2, r2, rfl, E⟩; have S3 := S0.swap E; clear E; obtain ⟨sa2, sc2, rfl⟩ := qzf S3.own.rs; obtain ⟨ga2, gc2, rfl⟩ := qzf S3.own.rg; obtain ⟨na2, nc2, rfl⟩ := qzf S3.own.rn; obtain ⟨ra2, rc2, rfl⟩ := qzf S3.own.rr) | (refine Q6t rfl 60 (.tmp 8) _ rfl (Q6o + 1 + 1) 0 (Q2e).toArray ?dx ?dy ?dt (qzs _ _ _ _ _ _ _ _) Q0v ?_))
 try (case lx => rfl)
 try (case lc => exact S0.row)
 try (case dx => rfl)
 try (case dy => rfl)
 try (case dt => exact S3.to)
 refine bodyPost_ret (v := .agg (Q2e).toArray) ?_ rfl ⟨_, _, _, _, by rw [hd.out, hdc.out], by rw [hd.out]; exact S3.fin2 _⟩
 exact qz3 Tryz.results137 _ _ (Q6o + 1 + 1) 0 rfl Q2e _ (S3.out2 _ rfl) Q71 rfl (qz7 _ _ _ _ _ _ _ _)
theorem qzaq (base : Nat) (A : Ar) (h : Hd) (d : Dd) (tk : Bool) (me clock : Int) (s g n r : Value) (w : World) (hbase : base <= Q6o) (hA : A.size <= 1048576) (O : qz1t base w s g n r A) (x y z u : Int) (hOk : qz10 x y z u A = true) (R : qzcu A h me) (e : h.at_ = 19) :
  Calls Tryz.prog 137 Q20 w fun e w' => ∃ s' g' n' r', e = .returned (.agg (Q2i).toArray) /\ qz29 base w w' s g n r s' g' n' r' Q19.1 := by
 have hA' := hA
 unfold Ar.size at hA
 obtain ⟨sa, sc, rfl⟩ := qzf O.rs
 obtain ⟨ga, gc, rfl⟩ := qzf O.rg
 obtain ⟨na, nc, rfl⟩ := qzf O.rn
 obtain ⟨ra, rc, rfl⟩ := qzf O.rr
 obtain ⟨S0, P0⟩ := qz1i base w Q0a Q07 Q0c Q0h A Q18 Q0i 60 25 x y z u O rfl rfl
 have hd : Hid (Q19 = (A, (qzb0 A h), d, tk)) := by show _ = _; unfold qz18; rw [if_neg (by omega), if_neg (by omega), if_neg (by omega), if_neg (by omega), if_pos (by omega)]
 have hdc : Hid Q5i := by show _ = _; unfold qz27; rw [if_neg (by omega)]
 have eH : Hid (h.at_ = 19) := e
 go_enter Tryz.func137, Tryz.ntmps137
 have tok : True := trivial
 go_wp2_with (clear tok; refine qz2j Q2b ?_)
 generalize hw0 : (Q34).alloc (.cells Q01 60) = w0 at *
 clear hw0
 show wpList _ _ _ _ _ w0
 have q5 := S0.cell 5 rfl
 obtain ⟨p0, p1, p2, p3⟩ := id P0
 rw [e] at q5
 clear e
 go_wp2_with (first | (refine Q6z rfl 60 (.tmp 5) rfl (Q6o + 1) 0 ?lx Q18 _ ?lc Q71 rfl (qz7 _ _ _ _ _ _ _ _) ?_) | (go_at_call 150; refine (qzce Q73 A h d tk _ _ _ _ _ _ _ _ _ (Q6v _) hA' S0.is x y z u hOk R.v0 R.v1 R.x0 R.x1 R.o0 R.o1 R.s0 R.s1).mono ?_; rintro e w2 ⟨rfl, b2⟩; have S3 := S0.below b2; clear b2) | (refine Q6t rfl 60 (.tmp 8) _ rfl (Q6o + 1 + 1) 0 (qza Q6w Q0a Q07 Q0c Q0h (qzb0 A h) d tk).toArray ?dx ?dy ?dt (qzs _ _ _ _ _ _ _ _) Q0v ?_))
 try (case lx => rfl)
 try (case lc => exact S0.row)
 try (case dx => rfl)
 try (case dy => rfl)
 try (case dt => exact S3.to)
 refine bodyPost_ret (v := .agg (qza Q6w Q0a Q07 Q0c Q0h (qzb0 A h) d tk).toArray) ?_ rfl ⟨_, _, _, _, by rw [hd.out, hdc.out], by rw [hd.out]; exact S3.fin2 _⟩
 exact qz3 Tryz.results137 _ _ (Q6o + 1 + 1) 0 rfl (qza Q6w Q0a Q07 Q0c Q0h (qzb0 A h) d tk) _ (S3.out2 _ rfl) Q71 rfl (qz7 _ _ _ _ _ _ _ _)
theorem qzai (base : Nat) (A : Ar) (h : Hd) (d : Dd) (tk : Bool) (me clock : Int) (s g n r : Value) (w : World) (hbase : base <= Q6o) (hA : A.size <= 1048576) (O : qz1t base w s g n r A) (x y z u : Int) (hOk : qz10 x y z u A = true) (R : qzcu A h me) (e : h.at_ = 21) :
  Calls Tryz.prog 137 Q20 w fun e w' => ∃ s' g' n' r', e = .returned (.agg (Q2i).toArray) /\ qz29 base w w' s g n r s' g' n' r' Q19.1 := by
 have hA' := hA
 unfold Ar.size at hA
 obtain ⟨sa, sc, rfl⟩ := qzf O.rs
 obtain ⟨ga, gc, rfl⟩ := qzf O.rg
 obtain ⟨na, nc, rfl⟩ := qzf O.rn
 obtain ⟨ra, rc, rfl⟩ := qzf O.rr
 obtain ⟨S0, P0⟩ := qz1i base w Q0a Q07 Q0c Q0h A Q18 Q0i 60 25 x y z u O rfl rfl
 have hd : Hid (Q19 = (A, (qz80 A h), d, tk)) := by show _ = _; unfold qz18; rw [if_neg (by omega), if_neg (by omega), if_neg (by omega), if_neg (by omega), if_neg (by omega), if_pos (by omega)]
 have hdc : Hid Q5i := by show _ = _; unfold qz27; rw [if_neg (by omega)]
 have eH : Hid (h.at_ = 21) := e
 go_enter Tryz.func137, Tryz.ntmps137
 have tok : True := trivial
 go_wp2_with (clear tok; refine qz2j Q2b ?_)
 generalize hw0 : (Q34).alloc (.cells Q01 60) = w0 at *
 clear hw0
 show wpList _ _ _ _ _ w0
 have q5 := S0.cell 5 rfl
 obtain ⟨p0, p1, p2, p3⟩ := id P0
 rw [e] at q5
 clear e
 go_wp2_with (first | (refine Q6z rfl 60 (.tmp 5) rfl (Q6o + 1) 0 ?lx Q18 _ ?lc Q71 rfl (qz7 _ _ _ _ _ _ _ _) ?_) | (go_at_call 151; refine (qzck base A h d tk _ _ _ _ _ (Q77 hbase S0.but.size) hA' S0.own x y z u hOk R.v0 R.v1 R.x0 R.x1 R.o0 R.o1 eH.out R.i0 R.i1).mono ?_; rintro e w2 ⟨s2, g2, n2, r2, rfl, E⟩; have S3 := S0.swap E; clear E; obtain ⟨sa2, sc2, rfl⟩ := qzf S3.own.rs; obtain ⟨ga2, gc2, rfl⟩ := qzf S3.own.rg; obtain ⟨na2, nc2, rfl⟩ := qzf S3.own.rn; obtain ⟨ra2, rc2, rfl⟩ := qzf S3.own.rr) | (refine Q6t rfl 60 (.tmp 8) _ rfl (Q6o + 1 + 1) 0 (Q3k).toArray ?dx ?dy ?dt (qzs _ _ _ _ _ _ _ _) Q0v ?_))
 try (case lx => rfl)
 try (case lc => exact S0.row)
 try (case dx => rfl)
 try (case dy => rfl)
 try (case dt => exact S3.to)
 refine bodyPost_ret (v := .agg (Q3k).toArray) ?_ rfl ⟨_, _, _, _, by rw [hd.out, hdc.out], by rw [hd.out]; exact S3.fin2 _⟩
 exact qz3 Tryz.results137 _ _ (Q6o + 1 + 1) 0 rfl Q3k _ (S3.out2 _ rfl) Q71 rfl (qz7 _ _ _ _ _ _ _ _)
theorem qzau (base : Nat) (A : Ar) (h : Hd) (d : Dd) (tk : Bool) (me clock : Int) (s g n r : Value) (w : World) (hbase : base <= Q6o) (hA : A.size <= 1048576) (O : qz1t base w s g n r A) (x y z u : Int) (hOk : qz10 x y z u A = true) (R : qzcu A h me) (e : 20 <= h.at_ /\ h.at_ ≠ 21) :
  Calls Tryz.prog 137 Q20 w fun e w' => ∃ s' g' n' r', e = .returned (.agg (Q2i).toArray) /\ qz29 base w w' s g n r s' g' n' r' Q19.1 := by
 have hA' := hA
 unfold Ar.size at hA
 obtain ⟨sa, sc, rfl⟩ := qzf O.rs
 obtain ⟨ga, gc, rfl⟩ := qzf O.rg
 obtain ⟨na, nc, rfl⟩ := qzf O.rn
 obtain ⟨ra, rc, rfl⟩ := qzf O.rr
 obtain ⟨S0, P0⟩ := qz1i base w Q0a Q07 Q0c Q0h A Q18 Q0i 60 25 x y z u O rfl rfl
 have hd : Hid (Q19 = ((qz4g A h).1, (qz4g A h).2, d, tk)) := by show _ = _; unfold qz18; rw [if_neg (by omega), if_neg (by omega), if_neg (by omega), if_neg (by omega), if_neg (by omega), if_neg (by omega)]
 have hdc : Hid Q5i := by show _ = _; unfold qz27; rw [if_neg (by omega)]
 have eH : Hid (20 <= h.at_ /\ h.at_ ≠ 21) := e
 go_enter Tryz.func137, Tryz.ntmps137
 have tok : True := trivial
 go_wp2_with (clear tok; refine qz2j Q2b ?_)
 generalize hw0 : (Q34).alloc (.cells Q01 60) = w0 at *
 clear hw0
 show wpList _ _ _ _ _ w0
 have q5 := S0.cell 5 rfl
 obtain ⟨p0, p1, p2, p3⟩ := id P0
 have b1 : (h.at_ == 1) = false := by simp; omega
 have b6 : (h.at_ == 6) = false := by simp; omega
 have c5 : ¬ (h.at_ <= 5) := by omega
 have c12 : ¬ (h.at_ <= 12) := by omega
 have c18 : ¬ (h.at_ <= 18) := by omega
 have b19 : (h.at_ == 19) = false := by simp; omega
 clear e
 go_wp2_with (first | (refine Q6z rfl 60 (.tmp 5) rfl (Q6o + 1) 0 ?lx Q18 _ ?lc Q71 rfl (qz7 _ _ _ _ _ _ _ _) ?_) | (go_at_call 151; refine (qzc8 base A h d tk _ _ _ _ _ (Q77 hbase S0.but.size) hA' S0.own x y z u hOk R.v0 R.v1 R.x0 R.x1 R.o0 R.o1 (by have := eH.out; omega)).mono ?_; rintro e w2 ⟨s2, g2, n2, r2, rfl, E⟩; have S3 := S0.swap E; clear E; obtain ⟨sa2, sc2, rfl⟩ := qzf S3.own.rs; obtain ⟨ga2, gc2, rfl⟩ := qzf S3.own.rg; obtain ⟨na2, nc2, rfl⟩ := qzf S3.own.rn; obtain ⟨ra2, rc2, rfl⟩ := qzf S3.own.rr) | (refine Q6t rfl 60 (.tmp 8) _ rfl (Q6o + 1 + 1) 0 (Q2o).toArray ?dx ?dy ?dt (qzs _ _ _ _ _ _ _ _) Q0v ?_))
 try (case lx => rfl)
 try (case lc => exact S0.row)
 try (case dx => rfl)
 try (case dy => rfl)
 try (case dt => exact S3.to)
 refine bodyPost_ret (v := .agg (Q2o).toArray) ?_ rfl ⟨_, _, _, _, by rw [hd.out, hdc.out], by rw [hd.out]; exact S3.fin2 _⟩
 exact qz3 Tryz.results137 _ _ (Q6o + 1 + 1) 0 rfl Q2o _ (S3.out2 _ rfl) Q71 rfl (qz7 _ _ _ _ _ _ _ _)
theorem qzcg (base : Nat) (A : Ar) (h : Hd) (d : Dd) (tk : Bool) (me clock : Int) (s g n r : Value) (w : World) (hbase : base <= Q6o) (hA : A.size <= 1048576) (O : qz1t base w s g n r A) (x y z u : Int) (hOk : qz10 x y z u A = true) (R : qzcu A h me) (h1 : 1 <= h.at_) (h23 : h.at_ <= 23) :
  Calls Tryz.prog 137 Q20 w fun e w' => ∃ s' g' n' r', e = .returned (.agg (Q2i).toArray) /\ qz29 base w w' s g n r s' g' n' r' Q19.1 := by
 rcases (show h.at_ = 1 ∨ h.at_ = 6 ∨ (2 <= h.at_ /\ h.at_ <= 5) ∨ (7 <= h.at_ /\ h.at_ <= 12) ∨ (13 <= h.at_ /\ h.at_ <= 18) ∨ h.at_ = 19 ∨ h.at_ = 21 ∨ (20 <= h.at_ /\ h.at_ ≠ 21) by omega) with e | e | e | e | e | e | e | e
 ·exact qzbx base A h d tk me clock s g n r w hbase hA O x y z u hOk R e
 ·exact qzcb base A h d tk me clock s g n r w hbase hA O x y z u hOk R e
 ·exact qzbw base A h d tk me clock s g n r w hbase hA O x y z u hOk R e
 ·exact qzcj base A h d tk me clock s g n r w hbase hA O x y z u hOk R e
 ·exact qzac base A h d tk me clock s g n r w hbase hA O x y z u hOk R e
 ·exact qzaq base A h d tk me clock s g n r w hbase hA O x y z u hOk R e
 ·exact qzai base A h d tk me clock s g n r w hbase hA O x y z u hOk R e
 ·exact qzau base A h d tk me clock s g n r w hbase hA O x y z u hOk R e
end
end Go.Proofs.YthjkdnlmopafkaaGreatDoor
