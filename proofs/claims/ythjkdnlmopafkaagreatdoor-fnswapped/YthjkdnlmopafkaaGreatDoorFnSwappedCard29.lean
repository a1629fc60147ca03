/-
  What the law's proof goes by, part 30.
-/
import Derived.Lib.QuietBelow
import Derived.BigQuiet
import Derived.Test.YthjkdnlmopafkaaGreatDoorFnSwappedCard00
import Derived.Test.YthjkdnlmopafkaaGreatDoorFnSwappedCard03
import Derived.Test.YthjkdnlmopafkaaGreatDoorFnSwappedCard07
import Derived.Test.YthjkdnlmopafkaaGreatDoorFnSwappedCard14
import Derived.Test.YthjkdnlmopafkaaGreatDoorFnSwappedCard26
import Derived.Test.YthjkdnlmopafkaaGreatDoorFnSwappedCard28
namespace Go.Proofs.YthjkdnlmopafkaaGreatDoor
open Go.ChangeShapes Go.WideShapes Go.ChangeAt Go.RowKit
set_option maxRecDepth 100000
set_option maxHeartbeats 16000000
set_option linter.unusedVariables false
set_option linter.unusedSimpArgs false
set_option linter.unnecessarySimpa false
set_option linter.unusedSectionVars false
section
open Go.ChangeShapes Go.WideShapes Go.ChangeAt Go.RowKit Go.Sort
attribute [local go_sem ↓] Go.wp_at_zero Go.wp_at_succ
structure ClP (x : Int) (c : Cl) : Prop where
 pr : inB c.proc 0 (x - 1) = true
 ft : qz47 c.code c.key c.value = true
 bg : inB c.begin 0 20000 = true
 en : inB c.end_ 0 20000 = true
 rp : inB c.reply 0 7 = true
 ot : inB c.out 0 1000000 = true
 sm : inB c.sum 0 1000000 = true
 hl : inB c.held 0 100 = true
structure WdP (x y z u : Int) (W : Wd) : Prop where
 ar : qz10 x y z u W.A = true
 hl : (Q76 : Int) = x
 cl : Q79 <= 4000
 dl : Q7c <= 400
 tl : (Q7a : Int) = W.A.camera
 nw : 0 <= W.now /\ W.now <= 20000
 hand : ∀ i (h : i < Q76), qz4a x y z u W.hands[i] = true /\ qz2k W.A W.hands[i] = true
 call : ∀ i (h : i < Q79), ClP x W.calls[i]
 deed : ∀ i (h : i < Q7c), qzgb W.deeds[i] = true
 tick : ∀ i (h : i < Q7a), inB W.ticks[i] 0 20000 = true
 tinc : ∀ i (h : i + 1 < Q7a), W.ticks[i] < W.ticks[i + 1]
theorem qzeg : (Tryz.prog.info? 163).map (fun i => i.size) = some 10 := by kernel_rfl
theorem qzch (d : Dd) (h : qzgb d = true) (w : World) : Calls Tryz.prog 108 #[.agg #[.int .i64 d.kind, .int .i64 d.key, .int .i64 d.value, .int .i64 d.stamp, .int .i64 d.clock]] w fun e w' => e = .returned (.bool true) /\ Below Q6o w w' := by
 have K0 := (Q6s Q6o w).alloc (Q6v _) (.cells #[.int .i64 d.kind, .int .i64 d.key, .int .i64 d.value, .int .i64 d.stamp, .int .i64 d.clock] 58)
 simp only [qzgb, Bool.and_eq_true] at h
 obtain ⟨⟨⟨⟨h1, h2⟩, h3⟩, h4⟩, h5⟩ := h
 go_enter Tryz.func108, Tryz.ntmps108
 go_wp2_with (first | (go_at_call 44; refine (qzd _ _ _ _).mono ?_; rintro e w' ⟨rfl, hw⟩; obtain rfl := hw.symm) | (go_at_call 68; refine (qzr _ _).mono ?_; rintro e w' ⟨rfl, hw⟩; obtain rfl := hw.symm) | (go_at_call 43; refine (qz1a _ _).mono ?_; rintro e w' ⟨rfl, hw⟩; obtain rfl := hw.symm) | (go_at_call 99; refine (qz1h _ _).mono ?_; rintro e w' ⟨rfl, hw⟩; obtain rfl := hw.symm))
 go_ret
 exact ⟨rfl, K0⟩
theorem qzc6 (x y z u : Int) (W : Wd) (a0 a1 a2 a3 a4 a5 a6 a7 : Option Addr) (c0 c1 c2 c3 c4 c5 c6 c7 : Nat) (c : Cl) (h : ClP x c) (hx : 1 <= x /\ x <= 8) (w : World) : Calls Tryz.prog 107 #[.agg Q0d, .agg Q2v] w fun e w' => e = .returned (.bool true) /\ Below Q6o w w' := by
 have K0 := ((Q6s Q6o w).alloc (Q6v _) (.cells Q0d 50)).alloc (by simp) (.cells Q2v 163)
 obtain ⟨h1, h2, h3, h4, h5, h6, h7, h8⟩ := h
 go_enter Tryz.func107, Tryz.ntmps107
 go_wp2_with (first | (go_at_call 44; refine (qzd _ _ _ _).mono ?_; rintro e w' ⟨rfl, hw⟩; obtain rfl := hw.symm) | (go_at_call 109; refine (qz1z _ _ _ _).mono ?_; rintro e w' ⟨rfl, hw⟩; obtain rfl := hw.symm) | (go_at_call 43; refine (qz1a _ _).mono ?_; rintro e w' ⟨rfl, hw⟩; obtain rfl := hw.symm) | (go_at_call 99; refine (qz1h _ _).mono ?_; rintro e w' ⟨rfl, hw⟩; obtain rfl := hw.symm))
 go_ret
 exact ⟨rfl, K0⟩
theorem qzc1 (B : Nat) (x y z u : Int) (W : Wd) (a0 a1 a2 a3 a4 a5 a6 a7 : Option Addr) (c0 c1 c2 c3 c4 c5 c6 c7 : Nat) (w : World) (hB : B <= Q6o) (hW : W.size <= 1000000) (I : WdIs B w Q4l Q4j Q4k Q4n Q6k Q66 Q65 Q63 W) (hP : WdP x y z u W) :
  Calls Tryz.prog 58 #[.agg Q0d] w fun e w' => e = .returned (.bool true) /\ Below Q6o w w' := by
 have hA : W.A.size <= 1048576 := by unfold Wd.size at hW; omega
 unfold Wd.size at hW
 have hpl := (qz2x hP.ar).1
 have hx := ((qz2n x y z u).1 hpl).1
 have X0 := qz6 w Q32 50
 have K0 := (Q6s Q6o w).alloc (Q6v _) (.cells Q0d 50)
 have I0 := I.below (K0.mono hB)
 have hz0 : (w.alloc (.cells Q0d 50)).heap.size = Q6o + 1 := by simp
 go_enter Tryz.func58, Tryz.ntmps58
 go_wp2_with fail
 generalize hw0 : w.alloc (.cells Q0d 50) = w0 at *
 clear hw0
 refine (qz35 B W.A x y z u a0 a1 a2 a3 c0 c1 c2 c3 w0 (by omega) hA I0.ar).mono ?_
 rintro e w1 ⟨rfl, b1⟩
 rw [hP.ar]
 have X1 := qz0 X0 b1 (by omega)
 have K1 := K0.trans (b1.mono (by omega))
 have I1 := I0.below (b1.mono (by omega))
 have hz1 := b1.size
 clear X0 K0 I0 b1 I
 obtain ⟨x0, x1, x2, x3, x4, x5, x6, x7, x8, x9, x10, x11, x12, x13⟩ := qzf9 X1
 have t1 : ((Q76 : Int) != x) = false := by simp [hP.hl]
 have t2 : ((Q7a : Int) != W.A.camera) = false := by simp [hP.tl]
 have t3 := hP.cl
 have t4 := hP.dl
 have t3' : ¬ ((4000 : Int) < (Q79 : Int)) := by omega
 have t4' : ¬ ((400 : Int) < (Q7c : Int)) := by omega
 have t5 : inB W.now 0 20000 = true := (qz13 _ _ _).2 hP.nw
 go_wp2_with (go_at_call 99; refine (qz1h _ _).mono ?_; rintro e w' ⟨rfl, hw⟩; obtain rfl := hw.symm)
 clear x0 x1 x2 x3 x4 x5 x6 x7 x8 x9 x10 x11 x12 x13 t1 t2 t3' t4' t5
 go_loopw [3] (fun i wr => ∃ k : Nat, k <= Q76 /\ i = .int .i64 k /\ Below Q6y w1 wr) (fun i _ => Q76 - (intOf i).toNat)
 case atStart => exact ⟨0, Nat.zero_le _, rfl, Q6s _ _⟩
 case round =>
  obtain ⟨k, hk, rfl, bel⟩ := hrel
  have Xr := qz0 X1 bel (by omega)
  obtain ⟨x0, x1, x2, x3, x4, x5, x6, x7, x8, x9, x10, x11, x12, x13⟩ := qzf9 Xr
  have KK := K1.trans (bel.mono (show Q6o <= Q6y by omega))
  by_cases hlt : k < Q76
  ·have hlt' : (k : Int) < (Q76 : Int) := by omega
   have hk0 : (0 : Int) <= (k : Int) := by omega
   obtain ⟨bb, off, rfl, hbb, Rh⟩ := qzu.at I1.h (by omega)
   have Eh := qz0 (qzi (f := hdC) (sz := 22) (fun _ => rfl) Rh k hlt) (bel.mono (by omega)) hbb
   clear Rh
   obtain ⟨hh1, hh2⟩ := hP.hand k hlt
   generalize hhd : W.hands[k] = h at *
   clear hhd
   go_upto_region 6 with fail
   have y0 : ∀ (dq : Nat) (os : Array Obj), (grow (redrawn wr dq) os).cell? ⟨Q6o, 0, none⟩ = some (.int .i64 x) := fun dq os => cell_regrown x0 dq os
   have y1 : ∀ (dq : Nat) (os : Array Obj), (grow (redrawn wr dq) os).cell? ⟨Q6o, 1, none⟩ = some (.int .i64 y) := fun dq os => cell_regrown x1 dq os
   have y2 : ∀ (dq : Nat) (os : Array Obj), (grow (redrawn wr dq) os).cell? ⟨Q6o, 2, none⟩ = some (.int .i64 z) := fun dq os => cell_regrown x2 dq os
   have y3 : ∀ (dq : Nat) (os : Array Obj), (grow (redrawn wr dq) os).cell? ⟨Q6o, 3, none⟩ = some (.int .i64 u) := fun dq os => cell_regrown x3 dq os
   have y4 : ∀ (dq : Nat) (os : Array Obj), (grow (redrawn wr dq) os).cell? ⟨Q6o, 4, none⟩ = some (.int .i64 W.A.camera) := fun dq os => cell_regrown x4 dq os
   have y5 : ∀ (dq : Nat) (os : Array Obj), (grow (redrawn wr dq) os).cell? ⟨Q6o, 5, none⟩ = some Q4l := fun dq os => cell_regrown x5 dq os
   have y6 : ∀ (dq : Nat) (os : Array Obj), (grow (redrawn wr dq) os).cell? ⟨Q6o, 6, none⟩ = some Q4j := fun dq os => cell_regrown x6 dq os
   have y7 : ∀ (dq : Nat) (os : Array Obj), (grow (redrawn wr dq) os).cell? ⟨Q6o, 7, none⟩ = some Q4k := fun dq os => cell_regrown x7 dq os
   have y8 : ∀ (dq : Nat) (os : Array Obj), (grow (redrawn wr dq) os).cell? ⟨Q6o, 8, none⟩ = some Q4n := fun dq os => cell_regrown x8 dq os
   have y9 : ∀ (dq : Nat) (os : Array Obj), (grow (redrawn wr dq) os).cell? ⟨Q6o, 9, none⟩ = some (.slice (some ⟨bb, off, none⟩) Q76 c4) := fun dq os => cell_regrown x9 dq os
   have hBr : B <= wr.heap.size := Q77 (by omega) bel.size
   have Ir := I1.ar.below (bel.mono (by omega))
   have cH : ∀ (dq : Nat) (os : Array Obj), Calls Tryz.prog 98 #[.agg Q06, .agg (hdC h).toArray] (grow (redrawn wr dq) os) fun e w'' => e = .returned (.bool true) /\ ∃ q : Regrown, w'' = grow (redrawn wr q.d) q.os := fun dq os => by
    have hcl := qz5q x y z u h (grow (redrawn wr dq) os)
    rw [hh1] at hcl
    exact Calls.regrown_of hcl
   have cK : ∀ (dq : Nat) (os : Array Obj), Calls Tryz.prog 100 #[.agg Q1f, .agg (hdC h).toArray] (grow (redrawn wr dq) os) fun e w'' => e = .returned (.bool true) /\ ∃ q : Regrown, w'' = grow (redrawn wr q.d) q.os := fun dq os => by
    have hbq := below_regrown wr dq os
    have hcl := qzby W.A h a0 a1 a2 a3 c0 c1 c2 c3 (grow (redrawn wr dq) os) hA
    rw [hh2] at hcl
    exact Calls.regrown_of hcl
   refine wp_region_quiet_below (by kernel_rfl) (by kernel_rfl) ?_
   repeat (first | (refine qz16 rfl 56 (.tmp 61) rfl bb (off + k * 22) rfl (hdC h) _ (fun w' hw' => by obtain ⟨⟨dq, os⟩, rfl⟩ := hw'; exact qz0 Eh (below_regrown wr dq os) (Nat.lt_of_lt_of_le hbb hBr)) Tryz.underlying56 rfl (qz4 h) ?_; simp only [Act.put, List.setIfInBounds_toArray, List.set_cons_succ, List.set_cons_zero]) | (refine qz4b rfl 56 (.tmp 71) rfl bb (off + k * 22) rfl (hdC h) _ (fun w' hw' => by obtain ⟨⟨dq, os⟩, rfl⟩ := hw'; exact qz0 Eh (below_regrown wr dq os) (Nat.lt_of_lt_of_le hbb hBr)) Tryz.underlying56 rfl (qz4 h) ?_; simp only [Act.put, List.setIfInBounds_toArray, List.set_cons_succ, List.set_cons_zero]) | go_big_quiet_step (first | exact cH _ _ | exact cK _ _))
   refine wpQuiet_nil ?_
   intro _ hw'
   obtain ⟨⟨dq, osq⟩, hw''⟩ := hw'
   subst hw''
   have bel2 := bel.trans ((below_regrown wr dq osq).mono bel.size)
   generalize grow (redrawn wr dq) osq = wb at *
   clear cH cK y0 y1 y2 y3 y4 y5 y6 y7 y8 y9 Eh hh1 hh2 Ir x0 x1 x2 x3 x4 x5 x6 x7 x8 x9 x10 x11 x12 x13 Xr
   go_wp2
   go_roundw
   case rel => exact ⟨k + 1, by omega, by go_num, bel2⟩
   case measure => simp [intOf]; omega
  ·have bel0 := bel
   clear bel
   obtain ⟨wo, rfl⟩ : ∃ wo : World, wo = wr := ⟨_, rfl⟩
   go_wp2
   clear x0 x1 x2 x3 x4 x5 x6 x7 x8 x9 x10 x11 x12 x13 KK hlt Xr
   go_loopw [4] (fun i wr => ∃ k : Nat, k <= Q79 /\ i = .int .i64 k /\ Below Q6y w1 wr) (fun i _ => Q79 - (intOf i).toNat)
   case atStart => exact ⟨0, Nat.zero_le _, rfl, bel0⟩
   case round =>
    obtain ⟨k, hk, rfl, bel⟩ := hrel
    have Xr := qz0 X1 bel (by omega)
    obtain ⟨x0, x1, x2, x3, x4, x5, x6, x7, x8, x9, x10, x11, x12, x13⟩ := qzf9 Xr
    have KK := K1.trans (bel.mono (show Q6o <= Q6y by omega))
    by_cases hlt : k < Q79
    ·have hlt' : (k : Int) < (Q79 : Int) := by omega
     have hk0 : (0 : Int) <= (k : Int) := by omega
     obtain ⟨bb, off, rfl, hbb, Rh⟩ := qzu.at I1.c (by omega)
     have Eh := qz0 (qzi (f := clC) (sz := 10) (fun _ => rfl) Rh k hlt) (bel.mono (by omega)) hbb
     clear Rh
     have hh1 := hP.call k hlt
     generalize hhd : W.calls[k] = c at *
     clear hhd
     go_upto_region 11 with fail
     have y10 : ∀ (dq : Nat) (os : Array Obj), (grow (redrawn wr dq) os).cell? ⟨Q6o, 10, none⟩ = some (.slice (some ⟨bb, off, none⟩) Q79 c5) := fun dq os => cell_regrown x10 dq os
     have hBr : B <= wr.heap.size := Q77 (by omega) bel.size
     have cC : ∀ (dq : Nat) (os : Array Obj), Calls Tryz.prog 107 #[.agg #[.int .i64 x, .int .i64 y, .int .i64 z, .int .i64 u, .int .i64 W.A.camera, .slice a0 W.A.slots.length c0, .slice a1 W.A.guides.length c1, .slice a2 W.A.nodes.length c2, .slice a3 W.A.vers.length c3, .slice a4 Q76 c4, .slice (some ⟨bb, off, none⟩) Q79 c5, .slice a6 Q7c c6, .slice a7 Q7a c7, .int .i64 W.now], .agg Q2v] (grow (redrawn wr dq) os) fun e w'' => e = .returned (.bool true) /\ ∃ q : Regrown, w'' = grow (redrawn wr q.d) q.os := fun dq os => Calls.regrown_of (qzc6 x y z u W a0 a1 a2 a3 a4 (some ⟨bb, off, none⟩) a6 a7 c0 c1 c2 c3 c4 c5 c6 c7 c hh1 hx _)
     refine wp_region_quiet_below (by kernel_rfl) (by kernel_rfl) ?_
     repeat (first | (refine qz16 rfl 50 (.tmp 1) rfl w.heap.size 0 rfl [.int .i64 x, .int .i64 y, .int .i64 z, .int .i64 u, .int .i64 W.A.camera, .slice a0 W.A.slots.length c0, .slice a1 W.A.guides.length c1, .slice a2 W.A.nodes.length c2, .slice a3 W.A.vers.length c3, .slice a4 W.hands.length c4, .slice (some ⟨bb, off, none⟩) W.calls.length c5, .slice a6 W.deeds.length c6, .slice a7 W.ticks.length c7, .int .i64 W.now] _ (fun w' hw' => by obtain ⟨⟨dq, os⟩, rfl⟩ := hw'; exact qz0 Xr (below_regrown wr dq os) (Nat.lt_of_lt_of_le (by omega) bel.size)) Tryz.underlying50 rfl qzn ?_; simp only [Act.put, List.setIfInBounds_toArray, List.set_cons_succ, List.set_cons_zero]) | (refine qz16 rfl 163 (.tmp 87) rfl bb (off + k * 10) rfl Q4v _ (fun w' hw' => by obtain ⟨⟨dq, os⟩, rfl⟩ := hw'; exact qz0 Eh (below_regrown wr dq os) (Nat.lt_of_lt_of_le hbb hBr)) Tryz.underlying163 rfl qzeg ?_; simp only [Act.put, List.setIfInBounds_toArray, List.set_cons_succ, List.set_cons_zero]) | go_big_quiet_step (exact cC _ _))
     refine wpQuiet_nil ?_
     intro _ hw'
     obtain ⟨⟨dq, osq⟩, hw''⟩ := hw'
     subst hw''
     have bel2 := bel.trans ((below_regrown wr dq osq).mono bel.size)
     generalize grow (redrawn wr dq) osq = wb at *
     clear cC y10 Eh hh1 x0 x1 x2 x3 x4 x5 x6 x7 x8 x9 x10 x11 x12 x13 Xr
     go_wp2
     go_roundw
     case rel => exact ⟨k + 1, by omega, by go_num, bel2⟩
     case measure => simp [intOf]; omega
    ·have bel0 := bel
     clear bel
     obtain ⟨wo, rfl⟩ : ∃ wo : World, wo = wr := ⟨_, rfl⟩
     go_wp2
     clear x0 x1 x2 x3 x4 x5 x6 x7 x8 x9 x10 x11 x12 x13 KK hlt Xr
     go_loopw [5] (fun i wr => ∃ k : Nat, k <= Q7c /\ i = .int .i64 k /\ Below Q6y w1 wr) (fun i _ => Q7c - (intOf i).toNat)
     case atStart => exact ⟨0, Nat.zero_le _, rfl, bel0⟩
     case round =>
      obtain ⟨k, hk, rfl, bel⟩ := hrel
      have Xr := qz0 X1 bel (by omega)
      obtain ⟨x0, x1, x2, x3, x4, x5, x6, x7, x8, x9, x10, x11, x12, x13⟩ := qzf9 Xr
      have KK := K1.trans (bel.mono (show Q6o <= Q6y by omega))
      by_cases hlt : k < Q7c
      ·have hlt' : (k : Int) < (Q7c : Int) := by omega
       have hk0 : (0 : Int) <= (k : Int) := by omega
       obtain ⟨bb, off, rfl, hbb, Rh⟩ := qzu.at I1.d (by omega)
       have Eh := qz0 (qzi (f := ddC) (sz := 5) (fun _ => rfl) Rh k hlt) (bel.mono (by omega)) hbb
       clear Rh
       have hh1 := hP.deed k hlt
       generalize hhd : W.deeds[k] = d at *
       clear hhd
       go_wp2_with (first | (refine Q6z rfl 58 (.tmp 101) rfl bb (off + k * 5) rfl [.int .i64 d.kind, .int .i64 d.key, .int .i64 d.value, .int .i64 d.stamp, .int .i64 d.clock] _ ?hd5 Tryz.underlying58 rfl (qz5u d) ?_))
       case hd5 => exact Eh
       refine (qzch d hh1 _).mono ?_
       rintro e wb ⟨rfl, bq⟩
       have bel2 := bel.trans (bq.mono bel.size)
       clear bq Eh hh1 x0 x1 x2 x3 x4 x5 x6 x7 x8 x9 x10 x11 x12 x13 Xr
       go_wp2
       go_roundw
       case rel => exact ⟨k + 1, by omega, by go_num, bel2⟩
       case measure => simp [intOf]; omega
      ·have bel0 := bel
       clear bel
       obtain ⟨wo, rfl⟩ : ∃ wo : World, wo = wr := ⟨_, rfl⟩
       go_wp2
       clear x0 x1 x2 x3 x4 x5 x6 x7 x8 x9 x10 x11 x12 x13 KK hlt Xr
       go_loopw [6] (fun i wr => ∃ k : Nat, k <= Q7a /\ i = .int .i64 k /\ Below Q6y w1 wr) (fun i _ => Q7a - (intOf i).toNat)
       case atStart => exact ⟨0, Nat.zero_le _, rfl, bel0⟩
       case round =>
        obtain ⟨k, hk, rfl, bel⟩ := hrel
        have Xr := qz0 X1 bel (by omega)
        obtain ⟨x0, x1, x2, x3, x4, x5, x6, x7, x8, x9, x10, x11, x12, x13⟩ := qzf9 Xr
        have KK := K1.trans (bel.mono (show Q6o <= Q6y by omega))
        by_cases hlt : k < Q7a
        ·have hlt' : (k : Int) < (Q7a : Int) := by omega
         have hk0 : (0 : Int) <= (k : Int) := by omega
         obtain ⟨bb, off, rfl, hbb, Rh⟩ := qzu.at I1.t (by omega)
         have Rr := qz0 Rh (bel.mono (by omega)) hbb
         clear Rh
         have hh1 := hP.tick k hlt
         have g1 : wr.cell? ⟨bb, off + k, none⟩ = some (.int .i64 W.ticks[k]) := Rr k (.int .i64 W.ticks[k]) (by have := qzy (f := intC) (sz := 1) (fun _ => rfl) W.ticks k hlt 0 (by omega); simpa [intC] using this)
         have hBr : B <= wr.heap.size := Q77 (by omega) bel.size
         rcases Nat.eq_zero_or_pos k with hk1 | hk1
         ·subst hk1
          generalize hhd : W.ticks[0] = tk at *
          clear hhd Rr
          go_upto_region 21 with fail
          have y12 : ∀ (dq : Nat) (os : Array Obj), (grow (redrawn wr dq) os).cell? ⟨Q6o, 12, none⟩ = some (.slice (some ⟨bb, off, none⟩) Q7a c7) := fun dq os => cell_regrown x12 dq os
          have ya : ∀ (dq : Nat) (os : Array Obj), (grow (redrawn wr dq) os).cell? ⟨bb, off + 0, none⟩ = some (.int .i64 tk) := fun dq os => cell_regrown g1 dq os
          have ya' : ∀ (dq : Nat) (os : Array Obj), (grow (redrawn wr dq) os).cell? ⟨bb, off, none⟩ = some (.int .i64 tk) := fun dq os => by simpa using ya dq os
          have cT : ∀ (dq : Nat) (os : Array Obj), Calls Tryz.prog 99 #[.int .i64 tk] (grow (redrawn wr dq) os) fun e w'' => e = .returned (.bool true) /\ ∃ q : Regrown, w'' = grow (redrawn wr q.d) q.os := fun dq os => by
           have hcl := (qz1h tk (grow (redrawn wr dq) os)).mono (fun e w' h => (⟨h.1, by rw [h.2]; exact Q6s _ _⟩ : e = .returned (.bool (inB tk 0 20000)) /\ Below (grow (redrawn wr dq) os).heap.size (grow (redrawn wr dq) os) w'))
           rw [hh1] at hcl
           exact Calls.regrown_of hcl
          refine wp_region_quiet_below (by kernel_rfl) (by kernel_rfl) ?_
          repeat (go_big_quiet_step (exact cT _ _))
          refine wpQuiet_nil ?_
          intro _ hw'
          obtain ⟨⟨dq, osq⟩, hw''⟩ := hw'
          subst hw''
          have bel2 := bel.trans ((below_regrown wr dq osq).mono bel.size)
          generalize grow (redrawn wr dq) osq = wb at *
          clear cT y12 ya ya' g1 hh1 x0 x1 x2 x3 x4 x5 x6 x7 x8 x9 x10 x11 x12 x13 Xr
          go_wp2
          go_roundw
          case rel => exact ⟨1, by omega, by go_num, bel2⟩
          case measure => simp [intOf]; omega
         ·obtain ⟨j, rfl⟩ : ∃ j, k = j + 1 := ⟨k - 1, by omega⟩
          have hinc := hP.tinc j hlt
          have g0 : wr.cell? ⟨bb, off + j, none⟩ = some (.int .i64 W.ticks[j]) := Rr j (.int .i64 W.ticks[j]) (by have := qzy (f := intC) (sz := 1) (fun _ => rfl) W.ticks j (by omega) 0 (by omega); simpa [intC] using this)
          clear Rr
          generalize hhd : W.ticks[j + 1] = tk at *
          generalize hhe : W.ticks[j] = tj at *
          clear hhd hhe
          have hpos : (0 : Int) < ((j + 1 : Nat) : Int) := by omega
          have hj1 : ((j + 1 : Nat) : Int) - 1 = (j : Int) := by omega
          have hj0 : (0 : Int) <= (j : Int) := by omega
          have hjl : (j : Int) < (Q7a : Int) := by omega
          have hle : ¬ (tk <= tj) := by omega
          go_upto_region 21 with fail
          have y12 : ∀ (dq : Nat) (os : Array Obj), (grow (redrawn wr dq) os).cell? ⟨Q6o, 12, none⟩ = some (.slice (some ⟨bb, off, none⟩) Q7a c7) := fun dq os => cell_regrown x12 dq os
          have ya : ∀ (dq : Nat) (os : Array Obj), (grow (redrawn wr dq) os).cell? ⟨bb, off + (j + 1), none⟩ = some (.int .i64 tk) := fun dq os => cell_regrown g1 dq os
          have yb : ∀ (dq : Nat) (os : Array Obj), (grow (redrawn wr dq) os).cell? ⟨bb, off + j, none⟩ = some (.int .i64 tj) := fun dq os => cell_regrown g0 dq os
          have cT : ∀ (dq : Nat) (os : Array Obj), Calls Tryz.prog 99 #[.int .i64 tk] (grow (redrawn wr dq) os) fun e w'' => e = .returned (.bool true) /\ ∃ q : Regrown, w'' = grow (redrawn wr q.d) q.os := fun dq os => by
           have hcl := (qz1h tk (grow (redrawn wr dq) os)).mono (fun e w' h => (⟨h.1, by rw [h.2]; exact Q6s _ _⟩ : e = .returned (.bool (inB tk 0 20000)) /\ Below (grow (redrawn wr dq) os).heap.size (grow (redrawn wr dq) os) w'))
           rw [hh1] at hcl
           exact Calls.regrown_of hcl
          refine wp_region_quiet_below (by kernel_rfl) (by kernel_rfl) ?_
          repeat (go_big_quiet_step (exact cT _ _))
          refine wpQuiet_nil ?_
          intro _ hw'
          obtain ⟨⟨dq, osq⟩, hw''⟩ := hw'
          subst hw''
          have bel2 := bel.trans ((below_regrown wr dq osq).mono bel.size)
          generalize grow (redrawn wr dq) osq = wb at *
          clear cT y12 ya yb g1 g0 hh1 x0 x1 x2 x3 x4 x5 x6 x7 x8 x9 x10 x11 x12 x13 Xr
          go_wp2
          go_roundw
          case rel => exact ⟨j + 1 + 1, by omega, by go_num, bel2⟩
          case measure => simp [intOf]; omega
        ·have bel0 := bel
         clear bel
         obtain ⟨wo, rfl⟩ : ∃ wo : World, wo = wr := ⟨_, rfl⟩
         go_wp2
         clear x0 x1 x2 x3 x4 x5 x6 x7 x8 x9 x10 x11 x12 x13 KK hlt Xr
         go_wp2
         go_ret
         exact ⟨rfl, K1.trans (bel0.mono (by omega))⟩
end
section
def qzca (ops : Array Oper) (k : Nat) : Bool := (List.range k).all fun i => match ops[i]? with | some o => o.after.all fun e => !Region.binds .any e || decide (e.on < i) | none => true
theorem qzbm {ops : Array Oper} {k : Nat} (h : qzca ops k = true) (i : Nat) (hik : i < k) (o : Oper) (ho : ops[i]? = some o) : ∀ e ∈ o.after, Region.binds .any e = true -> e.on < i := by
 intro e he hbd
 have h1 := (List.all_eq_true.1 h) i (List.mem_range.2 hik)
 simp only [ho] at h1
 have h2 := Array.all_eq_true_iff_forall_mem.1 h1 e he
 rw [hbd] at h2
 exact of_decide_eq_true (by simpa using h2)
end
end Go.Proofs.YthjkdnlmopafkaaGreatDoor
