/-
  What the law's proof goes by, part 18.
-/
import Derived.BigQuiet
import Derived.Test.YthjkdnlmopafkaaGreatDoorFnSwappedCard00
import Derived.Test.YthjkdnlmopafkaaGreatDoorFnSwappedCard15
import Derived.Test.YthjkdnlmopafkaaGreatDoorFnSwappedCard16
namespace Go.Proofs.YthjkdnlmopafkaaGreatDoor
open Go.ChangeShapes Go.WideShapes Go.ChangeAt Go.RowKit
set_option maxRecDepth 100000
set_option maxHeartbeats 16000000
set_option linter.unusedVariables false
set_option linter.unusedSimpArgs false
set_option linter.unnecessarySimpa false
set_option linter.unusedSectionVars false
section
open Go.ChangeShapes Go.WideShapes Go.ChangeAt Go.RowKit Go.Sort
attribute [local go_sem ↓] Go.wp_at_zero Go.wp_at_succ
def qzw (x y z u : Int) (A : Ar) (h : Hd) : Ar × Hd :=
 if h.at_ = 7 then qz3b y z A h
 else if h.at_ = 8 then (if 0 <= h.new_ then { A with vers := A.vers.set (ndOf A h.new_).head.toNat { vrOf A (ndOf A h.new_).head with next := aimI h } } else A, { h with at_ := 9 })
 else if h.at_ = 9 then (Q68.1, qz79 Q68.2 h h.pred 4)
 else if h.at_ = 10 then (if 0 <= qz4j x y z u h.key /\ 0 <= h.new_ then { A with guides := A.guides.set (qz4j x y z u h.key).toNat h.new_ } else A, qz9 h 1 0 0)
 else if h.at_ = 11 then ((qz14 z A (max h.curr 0) h.currVer (vrOf A h.currVer).next true 2).1, qz79 (qz14 z A (max h.curr 0) h.currVer (vrOf A h.currVer).next true 2).2 h (max h.curr 0) 5)
 else if h.at_ = 12 then (Q40.1, qz9 h 2 (ndOf Q40.1 (max h.curr 0)).value 0)
 else (A, h)
theorem qz2x {x y z u : Int} {A : Ar} (h : qz10 x y z u A = true) : qz3w x y z u = true /\ ((Q75 : Int) = u /\ 1 <= u /\ u <= 8) /\ 0 < Q6q /\ 0 < Q6r /\ Q6q <= 60 /\ Q6r <= 400 := by
 have h1 := (qz1r h).1
 simp only [qz6r, Bool.and_eq_true, beq_iff_eq, qz13] at h1
 have h2 := (qz2n x y z u).1 h1.1.1.1.1.1
 refine ⟨h1.1.1.1.1.1, ?_⟩
 omega
theorem qz9q (y z : Int) (A : Ar) (h : Hd) : (qz3b y z A h).1.camera = Q6w := by unfold qz3b; split <;> rfl
section
variable {base : Nat} {w0 w w' : World} {b bo : Nat} {s0 g0 n0 r0 s g n r : Value} {A : Ar} {D : List Value}
theorem Stp.fin2 (S : Stp base w0 w b bo s0 g0 n0 r0 s g n r A D) (D' : List Value) : qz29 base w0 (w.setCells bo 0 D') s0 g0 n0 r0 s g n r A :=
 ⟨S.own.kept (But.of_only (S := fun q => q = bo) (qze bo D' 0 w) rfl) (fun q hq => (S.ne q hq).2), S.but.far (qze bo D' 0 w) (Q77 S.lo (Nat.le_of_lt S.lt)), S.blk⟩
theorem Stp.out2 (S : Stp base w0 w b bo s0 g0 n0 r0 s g n r A D) (D' : List Value) (h33 : D'.length = 33) : (w.setCells bo 0 D').rangeAt bo 0 D' :=
 World.rangeAt_setCells_same _ _ _ _ (by rw [h33]; exact S.to)
end
theorem qz8c (base : Nat) (A : Ar) (h : Hd) (d : Dd) (tk : Bool) (s g n r : Value) (w : World) (hbase : base <= Q6o) (hA : A.size <= 1048576) (O : qz1t base w s g n r A) (x y z u : Int) (hOk : qz10 x y z u A = true) (hat : h.at_ = 7)  :
  Calls Tryz.prog 148 Q2n w fun e w' => ∃ s' g' n' r', e = .returned (.agg (Q3v).toArray) /\ qz29 base w w' s g n r s' g' n' r' (qzw x y z u A h).1 := by
 have hA' := hA
 unfold Ar.size at hA
 obtain ⟨hpb, hgl, hnl0, hvl0, hnl60, hvl400⟩ := qz2x hOk
 obtain ⟨sa, sc, rfl⟩ := qzf O.rs
 obtain ⟨gb, gc, rfl⟩ := qz12 O.rg (by omega)
 obtain ⟨nb, nc, rfl⟩ := qz12 O.rn (by omega)
 obtain ⟨rb, rc, rfl⟩ := qz12 O.rr (by omega)
 obtain ⟨S0, P0⟩ := qz1i base w Q0a Q0m Q0b Q05 A Q1x Q0i 60 25 x y z u O rfl rfl
 go_enter Tryz.func148, Tryz.ntmps148
 have tok : True := trivial
 go_wp2_with (clear tok; refine qz2j Q36 ?_)
 generalize hw0 : ((Q44).alloc Q6e).alloc (.cells Q01 60) = w0 at *
 clear hw0
 show wpList _ _ _ _ _ w0
 have hset : (Q5a).setCells Q73 0 (hdC h).toArray.toList = w0.alloc Q0p := qz1c w0 56 (hdC h) [] Q0l rfl
 have FA := qzg w0 Q00 56 22 (by decide)
 have KA := (Q6s Q73 w0).alloc (Q6v _) Q0p
 have S1 := S0.below KA
 have P1 := P0.under KA (by have := S0.hi; omega)
 have HB := qz6 w0 (hdC h) 56
 have hbh := S0.hi
 have hbl : Q73 < (w0.alloc Q0p).heap.size := by simp
 go_upto_region 2 with (first | (refine wpList_load_mid rfl 56 (.tmp 7) rfl (w.heap.size + 1) 5 ?ax1 (hdC h) _ ?ac1 Tryz.underlying56 rfl (qz4 h) ?_) | (refine wpList_store_mid rfl 56 (.tmp 5) (.tmp 8) rfl w0.heap.size 0 _ rfl rfl FA (qzc h) (qzk h) ?_; rw [hset]))
 try (case ax1 => rfl)
 try (case ac1 => exact (qzv S0.row).2.1)
 generalize hw1 : w0.alloc Q0p = w1 at *
 clear hw1 hset FA S0 P0 KA
 generalize Q73 = bh at *
 have r0 : w1.cell? ⟨bh, 0, none⟩ = some (.int .i64 h.at_) := by simpa using HB 0 _ rfl
 rw [hat] at r0
 have hb1 := Nat.lt_trans S1.lt S1.hi
 obtain ⟨p0, p1, p2, p3⟩ := id P1
 have hd : Hid (qzw x y z u A h = (qz3b y z A h)) := by show _ = _; rw [qzw, if_pos hat]
 go_upto_region 4 with fail
 go_wp2_with (first | (refine Q6z rfl 60 (.tmp 3) rfl (Q6o + 1) 0 ?lx Q1x _ ?lc Q71 rfl (qz7 _ _ _ _ _ _ _ _) ?_) | (go_at_call 156; refine (qzc7 base A h d tk _ _ _ _ _ (Q77 hbase S1.but.size) hA' S1.own x y z u).mono ?_; rintro e w2 ⟨s2, g2, n2, r2, rfl, E⟩; have S3 := S1.swap E; clear E; obtain ⟨sa2, sc2, rfl⟩ := qzf S3.own.rs; obtain ⟨ga2, gc2, rfl⟩ := qzf S3.own.rg; obtain ⟨na2, nc2, rfl⟩ := qzf S3.own.rn; obtain ⟨ra2, rc2, rfl⟩ := qzf S3.own.rr) | (refine Q6t rfl 60 (.tmp 4) _ rfl (Q6o + 1 + 1) 0 (Q2k).toArray ?dx7 ?dy7 ?dt7 (qzs _ _ _ _ _ _ _ _) Q0v ?_))
 try (case lx => rfl)
 try (case lc => exact S1.row)
 try (case dx7 => rfl)
 try (case dy7 => rfl)
 try (case dt7 => exact S3.to)
 refine bodyPost_ret (v := .agg (Q2k).toArray) ?_ rfl ⟨_, _, _, _, by rw [hd.out], by rw [hd.out]; exact S3.fin2 _⟩
 exact qz3 Tryz.results148 _ _ (Q6o + 1 + 1) 0 rfl Q2k _ (S3.out2 _ rfl) Q71 rfl (qz7 _ _ _ _ _ _ _ _)
theorem qz8b (base : Nat) (A : Ar) (h : Hd) (d : Dd) (tk : Bool) (s g n r : Value) (w : World) (hbase : base <= Q6o) (hA : A.size <= 1048576) (O : qz1t base w s g n r A) (x y z u : Int) (hOk : qz10 x y z u A = true) (hat : h.at_ = 9) (hp0 : 0 <= h.pred) (hp1 : h.pred < (Q6q : Int)) :
  Calls Tryz.prog 148 Q2n w fun e w' => ∃ s' g' n' r', e = .returned (.agg (Q3v).toArray) /\ qz29 base w w' s g n r s' g' n' r' (qzw x y z u A h).1 := by
 have hA' := hA
 unfold Ar.size at hA
 obtain ⟨hpb, hgl, hnl0, hvl0, hnl60, hvl400⟩ := qz2x hOk
 obtain ⟨sa, sc, rfl⟩ := qzf O.rs
 obtain ⟨gb, gc, rfl⟩ := qz12 O.rg (by omega)
 obtain ⟨nb, nc, rfl⟩ := qz12 O.rn (by omega)
 obtain ⟨rb, rc, rfl⟩ := qz12 O.rr (by omega)
 obtain ⟨S0, P0⟩ := qz1i base w Q0a Q0m Q0b Q05 A Q1x Q0i 60 25 x y z u O rfl rfl
 go_enter Tryz.func148, Tryz.ntmps148
 have tok : True := trivial
 go_wp2_with (clear tok; refine qz2j Q36 ?_)
 generalize hw0 : ((Q44).alloc Q6e).alloc (.cells Q01 60) = w0 at *
 clear hw0
 show wpList _ _ _ _ _ w0
 have hset : (Q5a).setCells Q73 0 (hdC h).toArray.toList = w0.alloc Q0p := qz1c w0 56 (hdC h) [] Q0l rfl
 have FA := qzg w0 Q00 56 22 (by decide)
 have KA := (Q6s Q73 w0).alloc (Q6v _) Q0p
 have S1 := S0.below KA
 have P1 := P0.under KA (by have := S0.hi; omega)
 have HB := qz6 w0 (hdC h) 56
 have hbh := S0.hi
 have hbl : Q73 < (w0.alloc Q0p).heap.size := by simp
 go_upto_region 2 with (first | (refine wpList_load_mid rfl 56 (.tmp 7) rfl (w.heap.size + 1) 5 ?ax1 (hdC h) _ ?ac1 Tryz.underlying56 rfl (qz4 h) ?_) | (refine wpList_store_mid rfl 56 (.tmp 5) (.tmp 8) rfl w0.heap.size 0 _ rfl rfl FA (qzc h) (qzk h) ?_; rw [hset]))
 try (case ax1 => rfl)
 try (case ac1 => exact (qzv S0.row).2.1)
 generalize hw1 : w0.alloc Q0p = w1 at *
 clear hw1 hset FA S0 P0 KA
 generalize Q73 = bh at *
 have r0 : w1.cell? ⟨bh, 0, none⟩ = some (.int .i64 h.at_) := by simpa using HB 0 _ rfl
 rw [hat] at r0
 have hb1 := Nat.lt_trans S1.lt S1.hi
 obtain ⟨p0, p1, p2, p3⟩ := id P1
 have r14 : w1.cell? ⟨bh, 14, none⟩ = some (.int .i64 h.pred) := by simpa using HB 14 _ rfl
 have r15 : w1.cell? ⟨bh, 15, none⟩ = some (.int .i64 h.predVer) := by simpa using HB 15 _ rfl
 have hd : Hid (qzw x y z u A h = (Q68.1, qz79 Q68.2 h h.pred 4)) := by show _ = _; rw [qzw, if_neg (by omega), if_neg (by omega), if_pos hat]
 go_upto_region 10 with fail
 have yp0 : ∀ (dq : Nat) (os : Array Obj), (grow (redrawn w1 dq) os).cell? ⟨Q6o, 0, none⟩ = some (.int .i64 x) := fun dq os => cell_regrown (by first | assumption | simpa using HB 0 _ rfl) dq os
 have yp1 : ∀ (dq : Nat) (os : Array Obj), (grow (redrawn w1 dq) os).cell? ⟨Q6o, 1, none⟩ = some (.int .i64 y) := fun dq os => cell_regrown (by first | assumption | simpa using HB 1 _ rfl) dq os
 have yp2 : ∀ (dq : Nat) (os : Array Obj), (grow (redrawn w1 dq) os).cell? ⟨Q6o, 2, none⟩ = some (.int .i64 z) := fun dq os => cell_regrown (by first | assumption | simpa using HB 2 _ rfl) dq os
 have yp3 : ∀ (dq : Nat) (os : Array Obj), (grow (redrawn w1 dq) os).cell? ⟨Q6o, 3, none⟩ = some (.int .i64 u) := fun dq os => cell_regrown (by first | assumption | simpa using HB 3 _ rfl) dq os
 have y14 : ∀ (dq : Nat) (os : Array Obj), (grow (redrawn w1 dq) os).cell? ⟨bh, 14, none⟩ = some (.int .i64 h.pred) := fun dq os => cell_regrown (by first | assumption | simpa using HB 14 _ rfl) dq os
 have y15 : ∀ (dq : Nat) (os : Array Obj), (grow (redrawn w1 dq) os).cell? ⟨bh, 15, none⟩ = some (.int .i64 h.predVer) := fun dq os => cell_regrown (by first | assumption | simpa using HB 15 _ rfl) dq os
 have cN : ∀ (dq : Nat) (os : Array Obj), Calls Tryz.prog 159 #[.agg (hdC h).toArray] (grow (redrawn w1 dq) os) fun e w'' => e = .returned (.int .i64 (newI h)) /\ ∃ q : Regrown, w'' = grow (redrawn w1 q.d) q.os := fun dq os => Calls.regrown_of (qzdi h _)
 refine qz2i 8 (by kernel_rfl) (by kernel_rfl) ?_
 simp only [List.take_succ_cons, List.take_zero, List.drop_succ_cons, List.drop_zero]
 repeat (first | (refine qz16 rfl 60 (.tmp 3) rfl (w.heap.size + 1) 0 rfl Q1x _ (fun w' hw' => by obtain ⟨⟨dq, os⟩, rfl⟩ := hw'; exact qz0 S1.row (below_regrown w1 dq os) (by omega)) Tryz.underlying60 rfl (qz7 _ _ _ _ _ _ _ _) ?_; simp only [Act.put, List.setIfInBounds_toArray, List.set_cons_succ, List.set_cons_zero]) | (refine qz16 rfl 56 (.tmp 5) rfl bh 0 rfl (hdC h) _ (fun w' hw' => by obtain ⟨⟨dq, os⟩, rfl⟩ := hw'; exact qz0 HB (below_regrown w1 dq os) (by omega)) Tryz.underlying56 rfl (qz4 h) ?_; simp only [Act.put, List.setIfInBounds_toArray, List.set_cons_succ, List.set_cons_zero]) | go_big_quiet_step (exact cN _ _))
 refine wpQuiet_nil ?_
 intro _ hw'
 obtain ⟨⟨dq, osq⟩, hw''⟩ := hw'
 subst hw''
 have S2 := S1.below (below_regrown w1 dq osq)
 clear yp0 yp1 yp2 yp3 y14 y15 cN
 generalize grow (redrawn w1 dq) osq = wb at *
 go_wp2_with (first | (go_at_call 158; refine (qz85 base A h d tk h.pred h.predVer (newI h) false 1 4 _ _ _ _ _ (Q77 hbase S2.but.size) hA' S2.own x y z u hp0 hp1).mono ?_; rintro e w2 ⟨s2, g2, n2, r2, rfl, E⟩; have S3 := S2.swap E; clear E; obtain ⟨sa2, sc2, rfl⟩ := qzf S3.own.rs; obtain ⟨ga2, gc2, rfl⟩ := qzf S3.own.rg; obtain ⟨na2, nc2, rfl⟩ := qzf S3.own.rn; obtain ⟨ra2, rc2, rfl⟩ := qzf S3.own.rr) | (refine Q6t rfl 60 (.tmp 4) _ rfl (Q6o + 1 + 1) 0 (Q1q).toArray ?dx9 ?dy9 ?dt9 (qzs _ _ _ _ _ _ _ _) Q0v ?_))
 try (case dx9 => rfl)
 try (case dy9 => rfl)
 try (case dt9 => exact S3.to)
 refine bodyPost_ret (v := .agg (Q1q).toArray) ?_ rfl ⟨_, _, _, _, by rw [hd.out], by rw [hd.out]; exact S3.fin2 _⟩
 exact qz3 Tryz.results148 _ _ (Q6o + 1 + 1) 0 rfl Q1q _ (S3.out2 _ rfl) Q71 rfl (qz7 _ _ _ _ _ _ _ _)
theorem qz91 (base : Nat) (A : Ar) (h : Hd) (d : Dd) (tk : Bool) (s g n r : Value) (w : World) (hbase : base <= Q6o) (hA : A.size <= 1048576) (O : qz1t base w s g n r A) (x y z u : Int) (hOk : qz10 x y z u A = true) (hat : h.at_ = 11) (hu1 : h.curr < (Q6q : Int)) (hc0 : 0 <= h.currVer) (hc1 : h.currVer < (Q6r : Int)) :
  Calls Tryz.prog 148 Q2n w fun e w' => ∃ s' g' n' r', e = .returned (.agg (Q3v).toArray) /\ qz29 base w w' s g n r s' g' n' r' (qzw x y z u A h).1 := by
 have hA' := hA
 unfold Ar.size at hA
 obtain ⟨hpb, hgl, hnl0, hvl0, hnl60, hvl400⟩ := qz2x hOk
 obtain ⟨sa, sc, rfl⟩ := qzf O.rs
 obtain ⟨gb, gc, rfl⟩ := qz12 O.rg (by omega)
 obtain ⟨nb, nc, rfl⟩ := qz12 O.rn (by omega)
 obtain ⟨rb, rc, rfl⟩ := qz12 O.rr (by omega)
 obtain ⟨S0, P0⟩ := qz1i base w Q0a Q0m Q0b Q05 A Q1x Q0i 60 25 x y z u O rfl rfl
 go_enter Tryz.func148, Tryz.ntmps148
 have tok : True := trivial
 go_wp2_with (clear tok; refine qz2j Q36 ?_)
 generalize hw0 : ((Q44).alloc Q6e).alloc (.cells Q01 60) = w0 at *
 clear hw0
 show wpList _ _ _ _ _ w0
 have hset : (Q5a).setCells Q73 0 (hdC h).toArray.toList = w0.alloc Q0p := qz1c w0 56 (hdC h) [] Q0l rfl
 have FA := qzg w0 Q00 56 22 (by decide)
 have KA := (Q6s Q73 w0).alloc (Q6v _) Q0p
 have S1 := S0.below KA
 have P1 := P0.under KA (by have := S0.hi; omega)
 have HB := qz6 w0 (hdC h) 56
 have hbh := S0.hi
 have hbl : Q73 < (w0.alloc Q0p).heap.size := by simp
 go_upto_region 2 with (first | (refine wpList_load_mid rfl 56 (.tmp 7) rfl (w.heap.size + 1) 5 ?ax1 (hdC h) _ ?ac1 Tryz.underlying56 rfl (qz4 h) ?_) | (refine wpList_store_mid rfl 56 (.tmp 5) (.tmp 8) rfl w0.heap.size 0 _ rfl rfl FA (qzc h) (qzk h) ?_; rw [hset]))
 try (case ax1 => rfl)
 try (case ac1 => exact (qzv S0.row).2.1)
 generalize hw1 : w0.alloc Q0p = w1 at *
 clear hw1 hset FA S0 P0 KA
 generalize Q73 = bh at *
 have r0 : w1.cell? ⟨bh, 0, none⟩ = some (.int .i64 h.at_) := by simpa using HB 0 _ rfl
 rw [hat] at r0
 have hb1 := Nat.lt_trans S1.lt S1.hi
 obtain ⟨p0, p1, p2, p3⟩ := id P1
 obtain ⟨ck, hck⟩ : ∃ k : Nat, h.currVer = k := ⟨h.currVer.toNat, by omega⟩
 have hcl : ck < Q6r := by omega
 have hck0 : (0 : Int) <= (ck : Int) := by omega
 have hck1 : (ck : Int) < (Q6r : Int) := by omega
 have r16 : w1.cell? ⟨bh, 16, none⟩ = some (.int .i64 h.curr) := by simpa using HB 16 _ rfl
 have r17 : w1.cell? ⟨bh, 17, none⟩ = some (.int .i64 h.currVer) := by simpa using HB 17 _ rfl
 rw [hck] at r17
 have c0 := (qz23 S1.own.rr (ck * 5) (.int .i64 A.vers[ck].next) (by have := qzy (f := vrC) (sz := 5) (fun _ => rfl) A.vers ck hcl 0 (by omega); rw [Nat.add_zero] at this; rw [this]; rfl)).1
 have hd : Hid (qzw x y z u A h = ((qz14 z A (max h.curr 0) (ck : Int) A.vers[ck].next true 2).1, qz79 (qz14 z A (max h.curr 0) (ck : Int) A.vers[ck].next true 2).2 h (max h.curr 0) 5)) := by show _ = _; rw [qzw, if_neg (by omega), if_neg (by omega), if_neg (by omega), if_neg (by omega), if_pos hat, hck, qz38 A ck hcl]
 clear hck hat
 have x4 := S1.cell 4 rfl
 go_upto_region 17 with fail
 have yp0 : ∀ (dq : Nat) (os : Array Obj), (grow (redrawn w1 dq) os).cell? ⟨Q6o, 0, none⟩ = some (.int .i64 x) := fun dq os => cell_regrown (by first | assumption | simpa using HB 0 _ rfl) dq os
 have yp1 : ∀ (dq : Nat) (os : Array Obj), (grow (redrawn w1 dq) os).cell? ⟨Q6o, 1, none⟩ = some (.int .i64 y) := fun dq os => cell_regrown (by first | assumption | simpa using HB 1 _ rfl) dq os
 have yp2 : ∀ (dq : Nat) (os : Array Obj), (grow (redrawn w1 dq) os).cell? ⟨Q6o, 2, none⟩ = some (.int .i64 z) := fun dq os => cell_regrown (by first | assumption | simpa using HB 2 _ rfl) dq os
 have yp3 : ∀ (dq : Nat) (os : Array Obj), (grow (redrawn w1 dq) os).cell? ⟨Q6o, 3, none⟩ = some (.int .i64 u) := fun dq os => cell_regrown (by first | assumption | simpa using HB 3 _ rfl) dq os
 have y16 : ∀ (dq : Nat) (os : Array Obj), (grow (redrawn w1 dq) os).cell? ⟨bh, 16, none⟩ = some (.int .i64 h.curr) := fun dq os => cell_regrown (by first | assumption | simpa using HB 16 _ rfl) dq os
 have y17 : ∀ (dq : Nat) (os : Array Obj), (grow (redrawn w1 dq) os).cell? ⟨bh, 17, none⟩ = some (.int .i64 (ck : Int)) := fun dq os => cell_regrown r17 dq os
 have y4 : ∀ (dq : Nat) (os : Array Obj), (grow (redrawn w1 dq) os).cell? ⟨Q6o + 1, 4, none⟩ = some Q05 := fun dq os => cell_regrown x4 dq os
 have yc : ∀ (dq : Nat) (os : Array Obj), (grow (redrawn w1 dq) os).cell? ⟨rb, ck * 5, none⟩ = some (.int .i64 A.vers[ck].next) := fun dq os => cell_regrown c0 dq os
 have cN : ∀ (dq : Nat) (os : Array Obj), Calls Tryz.prog 138 #[.int .i64 h.curr, .int .i64 0] (grow (redrawn w1 dq) os) fun e w'' => e = .returned (.int .i64 (max h.curr 0)) /\ ∃ q : Regrown, w'' = grow (redrawn w1 q.d) q.os := fun dq os => Calls.regrown_of ((qz1e h.curr 0 _).mono (fun e w' h => ⟨h.1, by rw [h.2]; exact Q6s _ _⟩))
 refine qz2i 15 (by kernel_rfl) (by kernel_rfl) ?_
 simp only [List.take_succ_cons, List.take_zero, List.drop_succ_cons, List.drop_zero]
 repeat (first | (refine qz16 rfl 60 (.tmp 3) rfl (w.heap.size + 1) 0 rfl Q1x _ (fun w' hw' => by obtain ⟨⟨dq, os⟩, rfl⟩ := hw'; exact qz0 S1.row (below_regrown w1 dq os) (by omega)) Tryz.underlying60 rfl (qz7 _ _ _ _ _ _ _ _) ?_; simp only [Act.put, List.setIfInBounds_toArray, List.set_cons_succ, List.set_cons_zero]) | go_big_quiet_step (exact cN _ _))
 refine wpQuiet_nil ?_
 intro _ hw'
 obtain ⟨⟨dq, osq⟩, hw''⟩ := hw'
 subst hw''
 have S2 := S1.below (below_regrown w1 dq osq)
 clear yp0 yp1 yp2 yp3 y16 y17 y4 yc cN c0 r17 r16 x4
 generalize grow (redrawn w1 dq) osq = wb at *
 go_wp2_with (first | (go_at_call 158; refine (qz85 base A h d tk (max h.curr 0) (ck : Int) A.vers[ck].next true 2 5 _ _ _ _ _ (Q77 hbase S2.but.size) hA' S2.own x y z u (by omega) (by omega)).mono ?_; rintro e w2 ⟨s2, g2, n2, r2, rfl, E⟩; have S3 := S2.swap E; clear E; obtain ⟨sa2, sc2, rfl⟩ := qzf S3.own.rs; obtain ⟨ga2, gc2, rfl⟩ := qzf S3.own.rg; obtain ⟨na2, nc2, rfl⟩ := qzf S3.own.rn; obtain ⟨ra2, rc2, rfl⟩ := qzf S3.own.rr) | (refine Q6t rfl 60 (.tmp 4) _ rfl (Q6o + 1 + 1) 0 (qza Q6w (.slice sa2 (qz14 z A (max h.curr 0) (ck : Int) A.vers[ck].next true 2).1.slots.length sc2) (.slice ga2 (qz14 z A (max h.curr 0) (ck : Int) A.vers[ck].next true 2).1.guides.length gc2) (.slice na2 (qz14 z A (max h.curr 0) (ck : Int) A.vers[ck].next true 2).1.nodes.length nc2) (.slice ra2 (qz14 z A (max h.curr 0) (ck : Int) A.vers[ck].next true 2).1.vers.length rc2) (qz79 (qz14 z A (max h.curr 0) (ck : Int) A.vers[ck].next true 2).2 h (max h.curr 0) 5) d tk).toArray ?dx11 ?dy11 ?dt11 (qzs _ _ _ _ _ _ _ _) Q0v ?_))
 try (case dx11 => rfl)
 try (case dy11 => rfl)
 try (case dt11 => exact S3.to)
 refine bodyPost_ret (v := .agg (qza Q6w (.slice sa2 (qz14 z A (max h.curr 0) (ck : Int) A.vers[ck].next true 2).1.slots.length sc2) (.slice ga2 (qz14 z A (max h.curr 0) (ck : Int) A.vers[ck].next true 2).1.guides.length gc2) (.slice na2 (qz14 z A (max h.curr 0) (ck : Int) A.vers[ck].next true 2).1.nodes.length nc2) (.slice ra2 (qz14 z A (max h.curr 0) (ck : Int) A.vers[ck].next true 2).1.vers.length rc2) (qz79 (qz14 z A (max h.curr 0) (ck : Int) A.vers[ck].next true 2).2 h (max h.curr 0) 5) d tk).toArray) ?_ rfl ⟨_, _, _, _, by rw [hd.out], by rw [hd.out]; exact S3.fin2 _⟩
 exact qz3 Tryz.results148 _ _ (Q6o + 1 + 1) 0 rfl (qza Q6w (.slice sa2 (qz14 z A (max h.curr 0) (ck : Int) A.vers[ck].next true 2).1.slots.length sc2) (.slice ga2 (qz14 z A (max h.curr 0) (ck : Int) A.vers[ck].next true 2).1.guides.length gc2) (.slice na2 (qz14 z A (max h.curr 0) (ck : Int) A.vers[ck].next true 2).1.nodes.length nc2) (.slice ra2 (qz14 z A (max h.curr 0) (ck : Int) A.vers[ck].next true 2).1.vers.length rc2) (qz79 (qz14 z A (max h.curr 0) (ck : Int) A.vers[ck].next true 2).2 h (max h.curr 0) 5) d tk) _ (S3.out2 _ rfl) Q71 rfl (qz7 _ _ _ _ _ _ _ _)
theorem qz7g (base : Nat) (A : Ar) (h : Hd) (d : Dd) (tk : Bool) (s g n r : Value) (w : World) (hbase : base <= Q6o) (hA : A.size <= 1048576) (O : qz1t base w s g n r A) (x y z u : Int) (hOk : qz10 x y z u A = true) (hat : h.at_ = 10) (hn1 : h.new_ < (Q6q : Int)) :
  Calls Tryz.prog 148 Q2n w fun e w' => ∃ s' g' n' r', e = .returned (.agg (Q3v).toArray) /\ qz29 base w w' s g n r s' g' n' r' (qzw x y z u A h).1 := by
 have hA' := hA
 unfold Ar.size at hA
 obtain ⟨hpb, hgl, hnl0, hvl0, hnl60, hvl400⟩ := qz2x hOk
 obtain ⟨sa, sc, rfl⟩ := qzf O.rs
 obtain ⟨gb, gc, rfl⟩ := qz12 O.rg (by omega)
 obtain ⟨nb, nc, rfl⟩ := qz12 O.rn (by omega)
 obtain ⟨rb, rc, rfl⟩ := qz12 O.rr (by omega)
 obtain ⟨S0, P0⟩ := qz1i base w Q0a Q0m Q0b Q05 A Q1x Q0i 60 25 x y z u O rfl rfl
 go_enter Tryz.func148, Tryz.ntmps148
 have tok : True := trivial
 go_wp2_with (clear tok; refine qz2j Q36 ?_)
 generalize hw0 : ((Q44).alloc Q6e).alloc (.cells Q01 60) = w0 at *
 clear hw0
 show wpList _ _ _ _ _ w0
 have hset : (Q5a).setCells Q73 0 (hdC h).toArray.toList = w0.alloc Q0p := qz1c w0 56 (hdC h) [] Q0l rfl
 have FA := qzg w0 Q00 56 22 (by decide)
 have KA := (Q6s Q73 w0).alloc (Q6v _) Q0p
 have S1 := S0.below KA
 have P1 := P0.under KA (by have := S0.hi; omega)
 have HB := qz6 w0 (hdC h) 56
 have hbh := S0.hi
 have hbl : Q73 < (w0.alloc Q0p).heap.size := by simp
 go_upto_region 2 with (first | (refine wpList_load_mid rfl 56 (.tmp 7) rfl (w.heap.size + 1) 5 ?ax1 (hdC h) _ ?ac1 Tryz.underlying56 rfl (qz4 h) ?_) | (refine wpList_store_mid rfl 56 (.tmp 5) (.tmp 8) rfl w0.heap.size 0 _ rfl rfl FA (qzc h) (qzk h) ?_; rw [hset]))
 try (case ax1 => rfl)
 try (case ac1 => exact (qzv S0.row).2.1)
 generalize hw1 : w0.alloc Q0p = w1 at *
 clear hw1 hset FA S0 P0 KA
 generalize Q73 = bh at *
 have r0 : w1.cell? ⟨bh, 0, none⟩ = some (.int .i64 h.at_) := by simpa using HB 0 _ rfl
 rw [hat] at r0
 have hb1 := Nat.lt_trans S1.lt S1.hi
 obtain ⟨p0, p1, p2, p3⟩ := id P1
 have r3 : w1.cell? ⟨bh, 3, none⟩ = some (.int .i64 h.key) := by simpa using HB 3 _ rfl
 have hpt : qz4j x y z u h.key = -1 ∨ ∃ k : Nat, qz4j x y z u h.key = k /\ k < Q75 := by
  unfold qz4j
  by_cases hk : (qz3w x y z u && inB h.key 0 63) = true
  ·rw [if_pos hk]
   simp only [Bool.and_eq_true, qz13] at hk
   obtain ⟨hk0, hk1, hk2⟩ := hk
   have hm1 : 0 <= h.key * u := Int.mul_nonneg hk1 (by omega)
   have hm2 : h.key * u <= 63 * u := Int.mul_le_mul_of_nonneg_right hk2 (by omega)
   refine Or.inr ⟨(h.key * u / 64).toNat, ?_, ?_⟩ <;> omega
  ·rw [if_neg hk]; exact Or.inl rfl
 have hd0 : Hid (qzw x y z u A h = (if 0 <= qz4j x y z u h.key /\ 0 <= h.new_ then { A with guides := A.guides.set (qz4j x y z u h.key).toNat h.new_ } else A, qz9 h 1 0 0)) := by show _ = _; rw [qzw, if_neg (by omega), if_neg (by omega), if_neg (by omega), if_pos hat]
 have cP : ∀ W : World, Calls Tryz.prog 141 #[.agg Q06, .int .i64 h.key] W fun e w' => e = .returned (.int .i64 (qz4j x y z u h.key)) /\ Below W.heap.size W w' := fun W => qz55 x y z u h.key W
 clear hat
 generalize qz4j x y z u h.key = pt at *
 have hgb : gb < Q6o := O.lt gb (Or.inr (Or.inl rfl))
 have hlo := S1.lo
 go_upto_region 13 with (go_at_call 141; refine (cP _).mono ?_; rintro e w2 ⟨rfl, b2⟩; have S2 := S1.below b2; have HB2 := qz0 HB b2 hbl)
 have hbl2 : bh < Q78 := Q72 hbl b2.size
 clear b2 cP HB S1 P1 p0 p1 p2 p3 r0 r3
 have r18 : w2.cell? ⟨bh, 18, none⟩ = some (.int .i64 h.new_) := by simpa using HB2 18 _ rfl
 rcases hpt with rfl | ⟨k, rfl, hkl⟩
 ·have hd : Hid (qzw x y z u A h = (A, qz9 h 1 0 0)) := by show _ = _; rw [hd0.out, if_neg (by omega)]
  clear hd0
  go_upto_region 21 with (first | (refine Q6z rfl 56 (.tmp 5) rfl bh 0 ?ax101 (hdC h) _ ?ac101 Q6x rfl (qz4 h) ?_) | (go_at_call 102; refine (qzt h 1 0 0 _).mono ?_; rintro e w101q ⟨rfl, b101q⟩; have S3 := S2.below b101q) | (refine Q6t rfl 56 (.tmp 71) _ rfl (Q6o + 1) 5 (hdC (qz9 h 1 0 0)).toArray ?bx101 ?by101 ?bt101 (qzc _) (qzk _) ?_))
  try (case ax101 => rfl)
  try (case ac101 => exact HB2)
  try (case bx101 => rfl)
  try (case by101 => rfl)
  try (case bt101 => have T := qz1d S3.th 5 22 (by omega); rw [Nat.zero_add] at T; exact T)
  have S9 := S3.hand (qz9 h 1 0 0)
  go_wp2_with (first | (refine Q6z rfl 60 (.tmp 3) rfl (Q6o + 1) 0 ?cx102 Q2g _ ?cc102 Q71 rfl (qz7 _ _ _ _ _ _ _ _) ?_) | (refine Q6t rfl 60 (.tmp 4) _ rfl (Q6o + 1 + 1) 0 (Q2g).toArray ?dx102 ?dy102 ?dt102 (qzs _ _ _ _ _ _ _ _) Q0v ?_))
  try (case cx102 => rfl)
  try (case cc102 => exact S9.row)
  try (case dx102 => rfl)
  try (case dy102 => rfl)
  try (case dt102 => exact S9.to)
  refine bodyPost_ret (v := .agg (Q2g).toArray) ?_ rfl ⟨_, _, _, _, by rw [hd.out], by rw [hd.out]; exact S9.fin⟩
  exact qz3 Tryz.results148 _ _ (Q6o + 1 + 1) 0 rfl Q2g _ (S9.out rfl) Q71 rfl (qz7 _ _ _ _ _ _ _ _)
 by_cases hn0 : 0 <= h.new_
 ·have hd : Hid (qzw x y z u A h = ({ A with guides := A.guides.set k h.new_ }, qz9 h 1 0 0)) := by show _ = _; rw [hd0.out, if_pos ⟨by omega, hn0⟩]; simp
  clear hd0
  obtain ⟨cg, cgf⟩ := qz23 S2.own.rg k (.int .i64 A.guides[k]) (by have := qzy (f := intC) (sz := 1) (fun _ => rfl) A.guides k hkl 0 (by omega); rw [Nat.mul_one, Nat.add_zero] at this; rw [this]; rfl)
  have x2 := S2.cell 2 rfl
  have hk0 : (0 : Int) <= (k : Int) := by omega
  have hk1 : (k : Int) < (Q75 : Int) := by omega
  go_upto_region 15 with fail
  have S4 := S2.guide k hkl h.new_
  have HB4 := (But.of_only (S := fun q => q = gb) ((Only.refl gb w2).setCell (p := ⟨gb, k, none⟩) (Or.inl rfl) (.int .i64 h.new_)) rfl).range HB2 hbl2 (by omega)
  generalize w2.setCell ⟨gb, k, none⟩ (.int .i64 h.new_) = w4 at *
  clear S2 HB2 cg cgf x2 r18
  go_upto_region 21 with (first | (refine Q6z rfl 56 (.tmp 5) rfl bh 0 ?ax103 (hdC h) _ ?ac103 Q6x rfl (qz4 h) ?_) | (go_at_call 102; refine (qzt h 1 0 0 _).mono ?_; rintro e w103q ⟨rfl, b103q⟩; have S5 := S4.below b103q) | (refine Q6t rfl 56 (.tmp 71) _ rfl (Q6o + 1) 5 (hdC (qz9 h 1 0 0)).toArray ?bx103 ?by103 ?bt103 (qzc _) (qzk _) ?_))
  try (case ax103 => rfl)
  try (case ac103 => exact HB4)
  try (case bx103 => rfl)
  try (case by103 => rfl)
  try (case bt103 => have T := qz1d S5.th 5 22 (by omega); rw [Nat.zero_add] at T; exact T)
  have S9 := S5.hand (qz9 h 1 0 0)
  go_wp2_with (first | (refine Q6z rfl 60 (.tmp 3) rfl (Q6o + 1) 0 ?cx104 Q2g _ ?cc104 Q71 rfl (qz7 _ _ _ _ _ _ _ _) ?_) | (refine Q6t rfl 60 (.tmp 4) _ rfl (Q6o + 1 + 1) 0 (Q2g).toArray ?dx104 ?dy104 ?dt104 (qzs _ _ _ _ _ _ _ _) Q0v ?_))
  try (case cx104 => rfl)
  try (case cc104 => exact S9.row)
  try (case dx104 => rfl)
  try (case dy104 => rfl)
  try (case dt104 => exact S9.to)
  refine bodyPost_ret (v := .agg (Q2g).toArray) ?_ rfl ⟨_, _, _, _, by rw [hd.out], by rw [hd.out]; exact S9.fin⟩
  exact qz3 Tryz.results148 _ _ (Q6o + 1 + 1) 0 rfl Q2g _ (S9.out rfl) Q71 rfl (qz7 _ _ _ _ _ _ _ _)
 ·have hd : Hid (qzw x y z u A h = (A, qz9 h 1 0 0)) := by show _ = _; rw [hd0.out, if_neg (by omega)]
  clear hd0
  have hk0 : (0 : Int) <= (k : Int) := by omega
  have hn2 : h.new_ < 0 := by omega
  go_upto_region 21 with (first | (refine Q6z rfl 56 (.tmp 5) rfl bh 0 ?ax105 (hdC h) _ ?ac105 Q6x rfl (qz4 h) ?_) | (go_at_call 102; refine (qzt h 1 0 0 _).mono ?_; rintro e w105q ⟨rfl, b105q⟩; have S3 := S2.below b105q) | (refine Q6t rfl 56 (.tmp 71) _ rfl (Q6o + 1) 5 (hdC (qz9 h 1 0 0)).toArray ?bx105 ?by105 ?bt105 (qzc _) (qzk _) ?_))
  try (case ax105 => rfl)
  try (case ac105 => exact HB2)
  try (case bx105 => rfl)
  try (case by105 => rfl)
  try (case bt105 => have T := qz1d S3.th 5 22 (by omega); rw [Nat.zero_add] at T; exact T)
  have S9 := S3.hand (qz9 h 1 0 0)
  go_wp2_with (first | (refine Q6z rfl 60 (.tmp 3) rfl (Q6o + 1) 0 ?cx106 Q2g _ ?cc106 Q71 rfl (qz7 _ _ _ _ _ _ _ _) ?_) | (refine Q6t rfl 60 (.tmp 4) _ rfl (Q6o + 1 + 1) 0 (Q2g).toArray ?dx106 ?dy106 ?dt106 (qzs _ _ _ _ _ _ _ _) Q0v ?_))
  try (case cx106 => rfl)
  try (case cc106 => exact S9.row)
  try (case dx106 => rfl)
  try (case dy106 => rfl)
  try (case dt106 => exact S9.to)
  refine bodyPost_ret (v := .agg (Q2g).toArray) ?_ rfl ⟨_, _, _, _, by rw [hd.out], by rw [hd.out]; exact S9.fin⟩
  exact qz3 Tryz.results148 _ _ (Q6o + 1 + 1) 0 rfl Q2g _ (S9.out rfl) Q71 rfl (qz7 _ _ _ _ _ _ _ _)
theorem qz9f (base : Nat) (A : Ar) (h : Hd) (d : Dd) (tk : Bool) (s g n r : Value) (w : World) (hbase : base <= Q6o) (hA : A.size <= 1048576) (O : qz1t base w s g n r A) (x y z u : Int) (hOk : qz10 x y z u A = true) (hat : h.at_ = 8) (hn1 : h.new_ < (Q6q : Int)) :
  Calls Tryz.prog 148 Q2n w fun e w' => ∃ s' g' n' r', e = .returned (.agg (Q3v).toArray) /\ qz29 base w w' s g n r s' g' n' r' (qzw x y z u A h).1 := by
 have hA' := hA
 unfold Ar.size at hA
 obtain ⟨hpb, hgl, hnl0, hvl0, hnl60, hvl400⟩ := qz2x hOk
 obtain ⟨sa, sc, rfl⟩ := qzf O.rs
 obtain ⟨gb, gc, rfl⟩ := qz12 O.rg (by omega)
 obtain ⟨nb, nc, rfl⟩ := qz12 O.rn (by omega)
 obtain ⟨rb, rc, rfl⟩ := qz12 O.rr (by omega)
 obtain ⟨S0, P0⟩ := qz1i base w Q0a Q0m Q0b Q05 A Q1x Q0i 60 25 x y z u O rfl rfl
 go_enter Tryz.func148, Tryz.ntmps148
 have tok : True := trivial
 go_wp2_with (clear tok; refine qz2j Q36 ?_)
 generalize hw0 : ((Q44).alloc Q6e).alloc (.cells Q01 60) = w0 at *
 clear hw0
 show wpList _ _ _ _ _ w0
 have hset : (Q5a).setCells Q73 0 (hdC h).toArray.toList = w0.alloc Q0p := qz1c w0 56 (hdC h) [] Q0l rfl
 have FA := qzg w0 Q00 56 22 (by decide)
 have KA := (Q6s Q73 w0).alloc (Q6v _) Q0p
 have S1 := S0.below KA
 have P1 := P0.under KA (by have := S0.hi; omega)
 have HB := qz6 w0 (hdC h) 56
 have hbh := S0.hi
 have hbl : Q73 < (w0.alloc Q0p).heap.size := by simp
 go_upto_region 2 with (first | (refine wpList_load_mid rfl 56 (.tmp 7) rfl (w.heap.size + 1) 5 ?ax1 (hdC h) _ ?ac1 Tryz.underlying56 rfl (qz4 h) ?_) | (refine wpList_store_mid rfl 56 (.tmp 5) (.tmp 8) rfl w0.heap.size 0 _ rfl rfl FA (qzc h) (qzk h) ?_; rw [hset]))
 try (case ax1 => rfl)
 try (case ac1 => exact (qzv S0.row).2.1)
 generalize hw1 : w0.alloc Q0p = w1 at *
 clear hw1 hset FA S0 P0 KA
 generalize Q73 = bh at *
 have r0 : w1.cell? ⟨bh, 0, none⟩ = some (.int .i64 h.at_) := by simpa using HB 0 _ rfl
 rw [hat] at r0
 have hb1 := Nat.lt_trans S1.lt S1.hi
 obtain ⟨p0, p1, p2, p3⟩ := id P1
 have r18 : w1.cell? ⟨bh, 18, none⟩ = some (.int .i64 h.new_) := by simpa using HB 18 _ rfl
 have hd0 : Hid (qzw x y z u A h = (if 0 <= h.new_ then { A with vers := A.vers.set (ndOf A h.new_).head.toNat { vrOf A (ndOf A h.new_).head with next := aimI h } } else A, { h with at_ := 9 })) := by show _ = _; rw [qzw, if_neg (by omega), if_pos hat]
 clear hat
 have q5 := S1.cell 5 rfl
 have f5 := S1.free 5 (by decide)
 by_cases hn0 : 0 <= h.new_
 case neg =>
  have hd : Hid (qzw x y z u A h = (A, { h with at_ := 9 })) := by show _ = _; rw [hd0.out, if_neg hn0]
  clear hd0
  go_upto_region 21 with fail
  have S4 : Stp base w _ (Q6o + 1) (Q6o + 1 + 1) Q0a Q0m Q0b Q05 Q0a Q0m Q0b Q05 A (qza Q6w Q0a Q0m Q0b Q05 { h with at_ := 9 } d tk) := S1.put 5 (by simp [qza, hdC, ddC]) (.int .i64 9)
  go_wp2_with (first | (refine Q6z rfl 60 (.tmp 3) rfl (Q6o + 1) 0 ?cx81 (qza Q6w Q0a Q0m Q0b Q05 { h with at_ := 9 } d tk) _ ?cc81 Q71 rfl (qz7 _ _ _ _ _ _ _ _) ?_) | (refine Q6t rfl 60 (.tmp 4) _ rfl (Q6o + 1 + 1) 0 (qza Q6w Q0a Q0m Q0b Q05 { h with at_ := 9 } d tk).toArray ?dx81 ?dy81 ?dt81 (qzs _ _ _ _ _ _ _ _) Q0v ?_))
  try (case cx81 => rfl)
  try (case cc81 => exact S4.row)
  try (case dx81 => rfl)
  try (case dy81 => rfl)
  try (case dt81 => exact S4.to)
  refine bodyPost_ret (v := .agg (qza Q6w Q0a Q0m Q0b Q05 { h with at_ := 9 } d tk).toArray) ?_ rfl ⟨_, _, _, _, by rw [hd.out], by rw [hd.out]; exact S4.fin⟩
  exact qz3 Tryz.results148 _ _ (Q6o + 1 + 1) 0 rfl (qza Q6w Q0a Q0m Q0b Q05 { h with at_ := 9 } d tk) _ (S4.out rfl) Q71 rfl (qz7 _ _ _ _ _ _ _ _)
 obtain ⟨nk, hnk⟩ : ∃ k : Nat, h.new_ = k := ⟨h.new_.toNat, by omega⟩
 have hnl : nk < Q6q := by omega
 have hhd := qzc5 hOk nk hnl
 obtain ⟨vk, hvk⟩ : ∃ k : Nat, A.nodes[nk].head = k := ⟨A.nodes[nk].head.toNat, by omega⟩
 have hvl : vk < Q6r := by omega
 have hd : Hid (qzw x y z u A h = ({ A with vers := A.vers.set vk { A.vers[vk] with next := aimI h } }, { h with at_ := 9 })) := by show _ = _; rw [hd0.out, if_pos hn0, hnk, qz1l A nk hnl, hvk, qz38 A vk hvl]; simp
 have c2 := (qz23 S1.own.rn (nk * 3 + 2) (.int .i64 A.nodes[nk].head) (by rw [qzy (sz := 3) (fun _ => rfl) A.nodes nk hnl 2 (by omega)]; rfl)).1
 rw [hvk] at c2
 rw [hnk] at r18
 have hrb : rb < Q6o := O.lt rb (Or.inr (Or.inr (Or.inr rfl)))
 have hn1' : (nk : Int) < (Q6q : Int) := by omega
 have hn0' : (0 : Int) <= (nk : Int) := by omega
 have hv1' : (vk : Int) < (Q6r : Int) := by omega
 have hv0' : (0 : Int) <= (vk : Int) := by omega
 clear hd0 hnk hvk hhd hn0 hn1
 have x3 := S1.cell 3 rfl
 have x4 := S1.cell 4 rfl
 go_upto_region 7 with fail
 have y3 : ∀ (dq : Nat) (os : Array Obj), (grow (redrawn w1 dq) os).cell? ⟨Q6o + 1, 3, none⟩ = some Q0b := fun dq os => cell_regrown x3 dq os
 have y4 : ∀ (dq : Nat) (os : Array Obj), (grow (redrawn w1 dq) os).cell? ⟨Q6o + 1, 4, none⟩ = some Q05 := fun dq os => cell_regrown x4 dq os
 have y18 : ∀ (dq : Nat) (os : Array Obj), (grow (redrawn w1 dq) os).cell? ⟨bh, 18, none⟩ = some (.int .i64 (nk : Int)) := fun dq os => cell_regrown r18 dq os
 have yc : ∀ (dq : Nat) (os : Array Obj), (grow (redrawn w1 dq) os).cell? ⟨nb, nk * 3 + 2, none⟩ = some (.int .i64 (vk : Int)) := fun dq os => cell_regrown c2 dq os
 have cN : ∀ (dq : Nat) (os : Array Obj), Calls Tryz.prog 157 #[.agg (hdC h).toArray] (grow (redrawn w1 dq) os) fun e w'' => e = .returned (.int .i64 (aimI h)) /\ ∃ q : Regrown, w'' = grow (redrawn w1 q.d) q.os := fun dq os => Calls.regrown_of (qza1 h _)
 refine qz2i 13 (by kernel_rfl) (by kernel_rfl) ?_
 simp only [List.take_succ_cons, List.take_zero, List.drop_succ_cons, List.drop_zero]
 repeat (first | (refine qz16 rfl 56 (.tmp 5) rfl bh 0 rfl (hdC h) _ (fun w' hw' => by obtain ⟨⟨dq, os⟩, rfl⟩ := hw'; exact qz0 HB (below_regrown w1 dq os) (by omega)) Tryz.underlying56 rfl (qz4 h) ?_; simp only [Act.put, List.setIfInBounds_toArray, List.set_cons_succ, List.set_cons_zero]) | go_big_quiet_step (exact cN _ _))
 refine wpQuiet_nil ?_
 intro _ hw'
 obtain ⟨⟨dq, osq⟩, hw''⟩ := hw'
 subst hw''
 have S2 := S1.below (below_regrown w1 dq osq)
 clear y3 y4 y18 yc cN c2 r18 x3 x4 q5 f5 r0
 generalize grow (redrawn w1 dq) osq = wb at *
 obtain ⟨cv, cvf⟩ := qz23 S2.own.rr (vk * 5) (.int .i64 A.vers[vk].next) (by have := qzy (f := vrC) (sz := 5) (fun _ => rfl) A.vers vk hvl 0 (by omega); rw [Nat.add_zero] at this; rw [this]; rfl)
 go_upto_region 8 with fail
 have S3 : Stp base w (wb.setCell ⟨rb, vk * 5, none⟩ (.int .i64 (aimI h))) (Q6o + 1) (Q6o + 1 + 1) Q0a Q0m Q0b Q05 Q0a Q0m Q0b Q05 { A with vers := A.vers.set vk { A.vers[vk] with next := aimI h } } Q1x := S2.ver (Or.inl (Or.inr (Or.inr (Or.inr rfl)))) vk hvl 0 (by omega) { A.vers[vk] with next := aimI h } (.int .i64 (aimI h)) rfl
 generalize wb.setCell ⟨rb, vk * 5, none⟩ (.int .i64 (aimI h)) = w3 at *
 clear S2 cv cvf
 have q5 := S3.cell 5 rfl
 have f5 := S3.free 5 (by decide)
 go_upto_region 21 with fail
 have S4 : Stp base w _ (Q6o + 1) (Q6o + 1 + 1) Q0a Q0m Q0b Q05 Q0a Q0m Q0b Q05 { A with vers := A.vers.set vk { A.vers[vk] with next := aimI h } } (qza Q6w Q0a Q0m Q0b Q05 { h with at_ := 9 } d tk) := S3.put 5 (by simp [qza, hdC, ddC]) (.int .i64 9)
 go_wp2_with (first | (refine Q6z rfl 60 (.tmp 3) rfl (Q6o + 1) 0 ?cx82 (qza Q6w Q0a Q0m Q0b Q05 { h with at_ := 9 } d tk) _ ?cc82 Q71 rfl (qz7 _ _ _ _ _ _ _ _) ?_) | (refine Q6t rfl 60 (.tmp 4) _ rfl (Q6o + 1 + 1) 0 (qza Q6w Q0a Q0m Q0b Q05 { h with at_ := 9 } d tk).toArray ?dx82 ?dy82 ?dt82 (qzs _ _ _ _ _ _ _ _) Q0v ?_))
 try (case cx82 => rfl)
 try (case cc82 => exact S4.row)
 try (case dx82 => rfl)
 try (case dy82 => rfl)
 try (case dt82 => exact S4.to)
 refine bodyPost_ret (v := .agg (qza Q6w Q0a Q0m Q0b Q05 { h with at_ := 9 } d tk).toArray) ?_ rfl ⟨_, _, _, _, by rw [hd.out], by rw [hd.out]; exact S4.fin⟩
 exact qz3 Tryz.results148 _ _ (Q6o + 1 + 1) 0 rfl (qza Q6w Q0a Q0m Q0b Q05 { h with at_ := 9 } d tk) _ (S4.out rfl) Q71 rfl (qz7 _ _ _ _ _ _ _ _)
theorem qzds (z : Int) (A : Ar) (node v next : Int) (gone : Bool) (kind : Int) : Q3z.1.nodes.length = Q6q := by
 unfold qz14
 split
 ·rfl
 ·split
  ·rfl
  ·simp
theorem qz7h (base : Nat) (A : Ar) (h : Hd) (d : Dd) (tk : Bool) (s g n r : Value) (w : World) (hbase : base <= Q6o) (hA : A.size <= 1048576) (O : qz1t base w s g n r A) (x y z u : Int) (hOk : qz10 x y z u A = true) (hat : h.at_ = 12) (hp0 : 0 <= h.pred) (hp1 : h.pred < (Q6q : Int)) (hu1 : h.curr < (Q6q : Int)) (hc0 : 0 <= h.currVer) (hc1 : h.currVer < (Q6r : Int)) :
  Calls Tryz.prog 148 Q2n w fun e w' => ∃ s' g' n' r', e = .returned (.agg (Q3v).toArray) /\ qz29 base w w' s g n r s' g' n' r' (qzw x y z u A h).1 := by
 have hA' := hA
 unfold Ar.size at hA
 obtain ⟨hpb, hgl, hnl0, hvl0, hnl60, hvl400⟩ := qz2x hOk
 obtain ⟨sa, sc, rfl⟩ := qzf O.rs
 obtain ⟨gb, gc, rfl⟩ := qz12 O.rg (by omega)
 obtain ⟨nb, nc, rfl⟩ := qz12 O.rn (by omega)
 obtain ⟨rb, rc, rfl⟩ := qz12 O.rr (by omega)
 obtain ⟨S0, P0⟩ := qz1i base w Q0a Q0m Q0b Q05 A Q1x Q0i 60 25 x y z u O rfl rfl
 go_enter Tryz.func148, Tryz.ntmps148
 have tok : True := trivial
 go_wp2_with (clear tok; refine qz2j Q36 ?_)
 generalize hw0 : ((Q44).alloc Q6e).alloc (.cells Q01 60) = w0 at *
 clear hw0
 show wpList _ _ _ _ _ w0
 have hset : (Q5a).setCells Q73 0 (hdC h).toArray.toList = w0.alloc Q0p := qz1c w0 56 (hdC h) [] Q0l rfl
 have FA := qzg w0 Q00 56 22 (by decide)
 have KA := (Q6s Q73 w0).alloc (Q6v _) Q0p
 have S1 := S0.below KA
 have P1 := P0.under KA (by have := S0.hi; omega)
 have HB := qz6 w0 (hdC h) 56
 have hbh := S0.hi
 have hbl : Q73 < (w0.alloc Q0p).heap.size := by simp
 go_upto_region 2 with (first | (refine wpList_load_mid rfl 56 (.tmp 7) rfl (w.heap.size + 1) 5 ?ax1 (hdC h) _ ?ac1 Tryz.underlying56 rfl (qz4 h) ?_) | (refine wpList_store_mid rfl 56 (.tmp 5) (.tmp 8) rfl w0.heap.size 0 _ rfl rfl FA (qzc h) (qzk h) ?_; rw [hset]))
 try (case ax1 => rfl)
 try (case ac1 => exact (qzv S0.row).2.1)
 generalize hw1 : w0.alloc Q0p = w1 at *
 clear hw1 hset FA S0 P0 KA
 generalize Q73 = bh at *
 have r0 : w1.cell? ⟨bh, 0, none⟩ = some (.int .i64 h.at_) := by simpa using HB 0 _ rfl
 rw [hat] at r0
 have hb1 := Nat.lt_trans S1.lt S1.hi
 obtain ⟨p0, p1, p2, p3⟩ := id P1
 obtain ⟨ck, hck⟩ : ∃ k : Nat, h.currVer = k := ⟨h.currVer.toNat, by omega⟩
 have hcl : ck < Q6r := by omega
 have hck0 : (0 : Int) <= (ck : Int) := by omega
 have hck1 : (ck : Int) < (Q6r : Int) := by omega
 have r14 : w1.cell? ⟨bh, 14, none⟩ = some (.int .i64 h.pred) := by simpa using HB 14 _ rfl
 have r15 : w1.cell? ⟨bh, 15, none⟩ = some (.int .i64 h.predVer) := by simpa using HB 15 _ rfl
 have r16 : w1.cell? ⟨bh, 16, none⟩ = some (.int .i64 h.curr) := by simpa using HB 16 _ rfl
 have r17 : w1.cell? ⟨bh, 17, none⟩ = some (.int .i64 h.currVer) := by simpa using HB 17 _ rfl
 rw [hck] at r17
 have c0 := (qz23 S1.own.rr (ck * 5) (.int .i64 A.vers[ck].next) (by have := qzy (f := vrC) (sz := 5) (fun _ => rfl) A.vers ck hcl 0 (by omega); rw [Nat.add_zero] at this; rw [this]; rfl)).1
 have hd0 : Hid (qzw x y z u A h = (Q30.1, qz9 h 2 (ndOf Q30.1 (max h.curr 0)).value 0)) := by show _ = _; rw [qzw, if_neg (by omega), if_neg (by omega), if_neg (by omega), if_neg (by omega), if_neg (by omega), if_pos hat, hck, qz38 A ck hcl]
 have hcam := qz2m z A h.pred h.predVer A.vers[ck].next false 0
 have hlen := qzds z A h.pred h.predVer A.vers[ck].next false 0
 obtain ⟨mk, hmk⟩ : ∃ k : Nat, max h.curr 0 = k := ⟨(max h.curr 0).toNat, by omega⟩
 have hml : mk < Q6q := by omega
 clear hck hat
 have x0 := S1.cell 0 rfl
 have x1 := S1.cell 1 rfl
 have x2 := S1.cell 2 rfl
 have x3 := S1.cell 3 rfl
 have x4 := S1.cell 4 rfl
 go_upto_region 19 with fail
 refine qz59 15 (by kernel_rfl) (by kernel_rfl) _ _ _ _ rfl rfl rfl rfl 108 92 (some 109) (some 110) rfl rfl rfl rfl rfl rfl rfl rfl rfl rfl rfl (by decide) (fun _ _ _ _ h => h) (fun _ _ _ _ h => h) ?_
 simp only [List.take_succ_cons, List.take_zero, List.drop_succ_cons, List.drop_zero]
 repeat (quiet_step (fail))
 refine wpQuiet_nil ?_
 rintro _ ⟨nr, rfl⟩
 have S1' := S1.below (w' := w1.drewN nr) ⟨rfl, rfl, rfl, Q6v _, fun _ _ => rfl⟩
 have HB1 : (w1.drewN nr).rangeAt bh 0 (hdC h) := HB
 refine ⟨by simp, by simp, 38, #[.agg Q06, .agg #[.int .i64 Q6w, .slice sa Q74 sc, .slice (some ⟨gb, 0, none⟩) Q75 gc, .slice (some ⟨nb, 0, none⟩) Q6q nc, .slice (some ⟨rb, 0, none⟩) Q6r rc], .int .i64 h.pred, .int .i64 h.predVer, .int .i64 A.vers[ck].next, .bool false, .int .i64 0], by go_simp, ?_⟩
 refine (qz5r base A x y z u h.pred h.predVer A.vers[ck].next false 0 _ _ _ _ _ (Q77 hbase S1'.but.size) hA' S1'.own hp0 hp1).mono ?_
 rintro e w2 ⟨s2, g2, n2, r2, rfl, E⟩
 refine ⟨_, _, rfl, ?_⟩
 have S2 := S1'.swap E
 have hlow : ∀ q, OwnB Q0a Q0m Q0b Q05 q -> q < Q6o := fun q hq => O.lt q hq
 have hbhw : Q6o <= bh := by have := S1.lo; omega
 have HB2 := E.but.range HB1 hbl (fun hq => by have := hlow bh hq; omega)
 have hbl2 : bh < Q78 := Q72 hbl E.but.size
 clear x0 x1 x2 x3 x4 r0 r14 r15 r16 r17 c0 p0 p1 p2 p3 S1 S1' P1 E HB HB1 hlow
 generalize Q30 = sw at *
 obtain ⟨A2, nv⟩ := sw
 dsimp only at hd0 hcam hlen S2
 have hml2 : mk < A2.nodes.length := by omega
 obtain ⟨sa2, sc2, rfl⟩ := qzf S2.own.rs
 obtain ⟨ga2, gc2, rfl⟩ := qzf S2.own.rg
 obtain ⟨nb2, nc2, rfl⟩ := qz12 S2.own.rn (by omega)
 obtain ⟨ra2, rc2, rfl⟩ := qzf S2.own.rr
 have hd : Hid (qzw x y z u A h = (A2, (qz9 h 2 A2.nodes[mk].value 0))) := by show _ = _; rw [hd0.out, hmk, qz1l A2 mk hml2]
 have hmkH : Hid (max h.curr 0 = (mk : Int)) := hmk
 have hmk0 : (0 : Int) <= (mk : Int) := by omega
 have hmk1 : (mk : Int) < (A2.nodes.length : Int) := by omega
 clear hd0 hmk hlen hml
 have x0 := S2.cell 0 rfl
 have x1 := S2.cell 1 rfl
 have x2 := S2.cell 2 rfl
 have x3 := S2.cell 3 rfl
 have x4 := S2.cell 4 rfl
 have k0 := S2.free 0 (by decide)
 have k1 := S2.free 1 (by decide)
 have k2 := S2.free 2 (by decide)
 have k3 := S2.free 3 (by decide)
 have k4 := S2.free 4 (by decide)
 clear hcam
 go_upto_region 20 with fail
 have S3 : Stp base w Q27 (Q6o + 1) (Q6o + 1 + 1) Q0a Q0m Q0b Q05 Q13 Q12 Q2z Q16 A2 (qza Q6w Q13 Q12 Q2z Q16 h d tk) := S2.arena (cam' := Q6w)
 have HB3 : (Q27).rangeAt bh 0 (hdC h) := (But.of_only (S := fun q => q = Q6o + 1) (qze (Q6o + 1) [.int .i64 Q6w, .slice sa2 A2.slots.length sc2, .slice ga2 A2.guides.length gc2, .slice (some ⟨nb2, 0, none⟩) A2.nodes.length nc2, .slice ra2 A2.vers.length rc2] 0 w2) rfl).range HB2 hbl2 (by omega)
 have hbl3 : bh < (Q27).heap.size := by simpa using hbl2
 generalize ((((w2.setCell ⟨Q6o + 1, 0, none⟩ (.int .i64 Q6w)).setCell ⟨Q6o + 1, 1, none⟩ Q13).setCell ⟨Q6o + 1, 2, none⟩ Q12).setCell ⟨Q6o + 1, 3, none⟩ Q2z).setCell ⟨Q6o + 1, 4, none⟩ Q16 = w3 at *
 clear S2 x0 x1 x2 x3 x4 k0 k1 k2 k3 k4 HB2 hbl2
 have r16 : w3.cell? ⟨bh, 16, none⟩ = some (.int .i64 h.curr) := by simpa using HB3 16 _ rfl
 have x3 := S3.cell 3 rfl
 have cv := (qz23 S3.own.rn (mk * 3 + 1) (.int .i64 A2.nodes[mk].value) (by rw [qzy (sz := 3) (fun _ => rfl) A2.nodes mk hml2 1 (by omega)]; rfl)).1
 have y3 : ∀ (dq : Nat) (os : Array Obj), (grow (redrawn w3 dq) os).cell? ⟨Q6o + 1, 3, none⟩ = some Q2z := fun dq os => cell_regrown x3 dq os
 have y16 : ∀ (dq : Nat) (os : Array Obj), (grow (redrawn w3 dq) os).cell? ⟨bh, 16, none⟩ = some (.int .i64 h.curr) := fun dq os => cell_regrown r16 dq os
 have yc : ∀ (dq : Nat) (os : Array Obj), (grow (redrawn w3 dq) os).cell? ⟨nb2, mk * 3 + 1, none⟩ = some (.int .i64 A2.nodes[mk].value) := fun dq os => cell_regrown cv dq os
 have cN : ∀ (dq : Nat) (os : Array Obj), Calls Tryz.prog 138 #[.int .i64 h.curr, .int .i64 0] (grow (redrawn w3 dq) os) fun e w'' => e = .returned (.int .i64 (mk : Int)) /\ ∃ q : Regrown, w'' = grow (redrawn w3 q.d) q.os := fun dq os => Calls.regrown_of ((qz1e h.curr 0 _).mono (fun e w' h => ⟨by rw [h.1, hmkH.out], by rw [h.2]; exact Q6s _ _⟩))
 refine qz2i 10 (by kernel_rfl) (by kernel_rfl) ?_
 simp only [List.take_succ_cons, List.take_zero, List.drop_succ_cons, List.drop_zero]
 repeat (first | (refine qz16 rfl 56 (.tmp 5) rfl bh 0 rfl (hdC h) _ (fun w' hw' => by obtain ⟨⟨dq, os⟩, rfl⟩ := hw'; exact qz0 HB3 (below_regrown w3 dq os) hbl3) Tryz.underlying56 rfl (qz4 h) ?_; simp only [Act.put, List.setIfInBounds_toArray, List.set_cons_succ, List.set_cons_zero]) | go_big_quiet_step (exact cN _ _))
 refine wpQuiet_nil ?_
 intro _ hw'
 obtain ⟨⟨dq, osq⟩, hw''⟩ := hw'
 subst hw''
 have S4 := S3.below (below_regrown w3 dq osq)
 clear y3 y16 yc cN cv r16 x3 S3 HB3 hbl3
 generalize grow (redrawn w3 dq) osq = wb at *
 go_upto_region 21 with (first | (go_at_call 102; refine (qzt h 2 A2.nodes[mk].value 0 _).mono ?_; rintro e w5 ⟨rfl, b5⟩; have S5 := S4.below b5) | (refine Q6t rfl 56 (.tmp 123) _ rfl (Q6o + 1) 5 (hdC (qz9 h 2 A2.nodes[mk].value 0)).toArray ?bx121 ?by121 ?bt121 (qzc _) (qzk _) ?_))
 try (case bx121 => rfl)
 try (case by121 => rfl)
 try (case bt121 => have T := qz1d S5.th 5 22 (by omega); rw [Nat.zero_add] at T; exact T)
 have S6 := S5.hand (qz9 h 2 A2.nodes[mk].value 0)
 go_wp2_with (first | (refine Q6z rfl 60 (.tmp 3) rfl (Q6o + 1) 0 ?cx122 Q4t _ ?cc122 Q71 rfl (qz7 _ _ _ _ _ _ _ _) ?_) | (refine Q6t rfl 60 (.tmp 4) _ rfl (Q6o + 1 + 1) 0 (Q4t).toArray ?dx122 ?dy122 ?dt122 (qzs _ _ _ _ _ _ _ _) Q0v ?_))
 try (case cx122 => rfl)
 try (case cc122 => exact S6.row)
 try (case dx122 => rfl)
 try (case dy122 => rfl)
 try (case dt122 => exact S6.to)
 refine bodyPost_ret (v := .agg (Q4t).toArray) ?_ rfl ⟨_, _, _, _, by rw [hd.out], by rw [hd.out]; exact S6.fin⟩
 exact qz3 Tryz.results148 _ _ (Q6o + 1 + 1) 0 rfl Q4t _ (S6.out rfl) Q71 rfl (qz7 _ _ _ _ _ _ _ _)
theorem qz9c (base : Nat) (A : Ar) (h : Hd) (d : Dd) (tk : Bool) (s g n r : Value) (w : World) (hbase : base <= Q6o) (hA : A.size <= 1048576) (O : qz1t base w s g n r A) (x y z u : Int) (hOk : qz10 x y z u A = true) (h7 : 7 <= h.at_) (h12 : h.at_ <= 12) (hp0 : 0 <= h.pred) (hp1 : h.pred < (Q6q : Int)) (hu1 : h.curr < (Q6q : Int)) (hc0 : 0 <= h.currVer) (hc1 : h.currVer < (Q6r : Int)) (hn1 : h.new_ < (Q6q : Int)) :
  Calls Tryz.prog 148 Q2n w fun e w' => ∃ s' g' n' r', e = .returned (.agg (Q3v).toArray) /\ qz29 base w w' s g n r s' g' n' r' (qzw x y z u A h).1 := by
 rcases (show h.at_ = 7 ∨ h.at_ = 8 ∨ h.at_ = 9 ∨ h.at_ = 10 ∨ h.at_ = 11 ∨ h.at_ = 12 by omega) with e | e | e | e | e | e
 ·exact qz8c base A h d tk s g n r w hbase hA O x y z u hOk e
 ·exact qz9f base A h d tk s g n r w hbase hA O x y z u hOk e hn1
 ·exact qz8b base A h d tk s g n r w hbase hA O x y z u hOk e hp0 hp1
 ·exact qz7g base A h d tk s g n r w hbase hA O x y z u hOk e hn1
 ·exact qz91 base A h d tk s g n r w hbase hA O x y z u hOk e hu1 hc0 hc1
 ·exact qz7h base A h d tk s g n r w hbase hA O x y z u hOk e hp0 hp1 hu1 hc0 hc1
end
end Go.Proofs.YthjkdnlmopafkaaGreatDoor
