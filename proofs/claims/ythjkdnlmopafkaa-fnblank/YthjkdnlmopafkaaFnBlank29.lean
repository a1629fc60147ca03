/-
  What the law's proof goes by, part 30.
-/
import Derived.Lib.QuietBelow
import Derived.BigQuiet
import Derived.Test.YthjkdnlmopafkaaFnBlank00
import Derived.Test.YthjkdnlmopafkaaFnBlank03
import Derived.Test.YthjkdnlmopafkaaFnBlank07
import Derived.Test.YthjkdnlmopafkaaFnBlank14
import Derived.Test.YthjkdnlmopafkaaFnBlank26
import Derived.Test.YthjkdnlmopafkaaFnBlank28
namespace Go.Proofs.Ythjkdnlmopafkaa
open Go.ChangeShapes Go.WideShapes Go.ChangeAt Go.RowKit
set_option maxRecDepth 100000
set_option maxHeartbeats 16000000
set_option linter.unusedVariables false
set_option linter.unusedSimpArgs false
set_option linter.unnecessarySimpa false
set_option linter.unusedSectionVars false
section
open Go.ChangeShapes Go.WideShapes Go.ChangeAt Go.RowKit Go.Sort
attribute [local go_sem ↓] Go.wp_at_zero Go.wp_at_succ
structure ClP (x : Int) (c : Cl) : Prop where
 pr : inB c.proc 0 (x - 1) = true
 ft : qz3y c.code c.key c.value = true
 bg : inB c.begin 0 20000 = true
 en : inB c.end_ 0 20000 = true
 rp : inB c.reply 0 7 = true
 ot : inB c.out 0 1000000 = true
 sm : inB c.sum 0 1000000 = true
 hl : inB c.held 0 100 = true
structure WdP (x y z u : Int) (W : Wd) : Prop where
 ar : qz17 x y z u W.A = true
 hl : (Q6m : Int) = x
 cl : Q6q <= 4000
 dl : Q6t <= 400
 tl : (Q6r : Int) = W.A.camera
 nw : 0 <= W.now /\ W.now <= 20000
 hand : ∀ i (h : i < Q6m), qz3z x y z u W.hands[i] = true /\ qz2i W.A W.hands[i] = true
 call : ∀ i (h : i < Q6q), ClP x W.calls[i]
 deed : ∀ i (h : i < Q6t), qzdy W.deeds[i] = true
 tick : ∀ i (h : i < Q6r), inB W.ticks[i] 0 20000 = true
 tinc : ∀ i (h : i + 1 < Q6r), W.ticks[i] < W.ticks[i + 1]
theorem qzci : (Try.prog.info? 135).map (fun i => i.size) = some 10 := by kernel_rfl
theorem qzae (d : Dd) (h : qzdy d = true) (w : World) : Calls Try.prog 96 #[.agg #[.int .i64 d.kind, .int .i64 d.key, .int .i64 d.value, .int .i64 d.stamp, .int .i64 d.clock]] w fun e w' => e = .returned (.bool true) /\ Below Q67 w w' := by
 have K0 := (Q6c Q67 w).alloc (Q6f _) (.cells #[.int .i64 d.kind, .int .i64 d.key, .int .i64 d.value, .int .i64 d.stamp, .int .i64 d.clock] 138)
 simp only [qzdy, Bool.and_eq_true] at h
 obtain ⟨⟨⟨⟨h1, h2⟩, h3⟩, h4⟩, h5⟩ := h
 go_enter Try.func96, Try.ntmps96
 go_wp2_with (first | (go_at_call 46; refine (qzd _ _ _ _).mono ?_; rintro e w' ⟨rfl, hw⟩; obtain rfl := hw.symm) | (go_at_call 76; refine (qzo _ _).mono ?_; rintro e w' ⟨rfl, hw⟩; obtain rfl := hw.symm) | (go_at_call 45; refine (qz11 _ _).mono ?_; rintro e w' ⟨rfl, hw⟩; obtain rfl := hw.symm) | (go_at_call 65; refine (qz1c _ _).mono ?_; rintro e w' ⟨rfl, hw⟩; obtain rfl := hw.symm))
 go_ret
 exact ⟨rfl, K0⟩
theorem qzax (x y z u : Int) (W : Wd) (a0 a1 a2 a3 a4 a5 a6 a7 : Option Addr) (c0 c1 c2 c3 c4 c5 c6 c7 : Nat) (c : Cl) (h : ClP x c) (hx : 1 <= x /\ x <= 8) (w : World) : Calls Try.prog 95 #[.agg Q0c, .agg Q2v] w fun e w' => e = .returned (.bool true) /\ Below Q67 w w' := by
 have K0 := ((Q6c Q67 w).alloc (Q6f _) (.cells Q0c 35)).alloc (by simp) (.cells Q2v 135)
 obtain ⟨h1, h2, h3, h4, h5, h6, h7, h8⟩ := h
 go_enter Try.func95, Try.ntmps95
 go_wp2_with (first | (go_at_call 46; refine (qzd _ _ _ _).mono ?_; rintro e w' ⟨rfl, hw⟩; obtain rfl := hw.symm) | (go_at_call 97; refine (qz1t _ _ _ _).mono ?_; rintro e w' ⟨rfl, hw⟩; obtain rfl := hw.symm) | (go_at_call 45; refine (qz11 _ _).mono ?_; rintro e w' ⟨rfl, hw⟩; obtain rfl := hw.symm) | (go_at_call 65; refine (qz1c _ _).mono ?_; rintro e w' ⟨rfl, hw⟩; obtain rfl := hw.symm))
 go_ret
 exact ⟨rfl, K0⟩
theorem qzaj (B : Nat) (x y z u : Int) (W : Wd) (a0 a1 a2 a3 a4 a5 a6 a7 : Option Addr) (c0 c1 c2 c3 c4 c5 c6 c7 : Nat) (w : World) (hB : B <= Q67) (hW : W.size <= 1000000) (I : WdIs B w Q4f Q4b Q4e Q4h Q62 Q5p Q5o Q5n W) (hP : WdP x y z u W) :
  Calls Try.prog 78 #[.agg Q0c] w fun e w' => e = .returned (.bool true) /\ Below Q67 w w' := by
 have hA : W.A.size <= 1048576 := by unfold Wd.size at hW; omega
 unfold Wd.size at hW
 have hpl := (qz2t hP.ar).1
 have hx := ((qz1r x y z u).1 hpl).1
 have X0 := qz7 w Q32 35
 have K0 := (Q6c Q67 w).alloc (Q6f _) (.cells Q0c 35)
 have I0 := I.below (K0.mono hB)
 have hz0 : (w.alloc (.cells Q0c 35)).heap.size = Q67 + 1 := by simp
 go_enter Try.func78, Try.ntmps78
 go_wp2_with fail
 generalize hw0 : w.alloc (.cells Q0c 35) = w0 at *
 clear hw0
 refine (qz4w B W.A x y z u a0 a1 a2 a3 c0 c1 c2 c3 w0 (by omega) hA I0.ar).mono ?_
 rintro e w1 ⟨rfl, b1⟩
 rw [hP.ar]
 have X1 := qz0 X0 b1 (by omega)
 have K1 := K0.trans (b1.mono (by omega))
 have I1 := I0.below (b1.mono (by omega))
 have hz1 := b1.size
 clear X0 K0 I0 b1 I
 obtain ⟨x0, x1, x2, x3, x4, x5, x6, x7, x8, x9, x10, x11, x12, x13⟩ := qzd3 X1
 have t1 : ((Q6m : Int) != x) = false := by simp [hP.hl]
 have t2 : ((Q6r : Int) != W.A.camera) = false := by simp [hP.tl]
 have t3 := hP.cl
 have t4 := hP.dl
 have t3' : ¬ ((4000 : Int) < (Q6q : Int)) := by omega
 have t4' : ¬ ((400 : Int) < (Q6t : Int)) := by omega
 have t5 : inB W.now 0 20000 = true := (qz1b _ _ _).2 hP.nw
 go_wp2_with (go_at_call 65; refine (qz1c _ _).mono ?_; rintro e w' ⟨rfl, hw⟩; obtain rfl := hw.symm)
 clear x0 x1 x2 x3 x4 x5 x6 x7 x8 x9 x10 x11 x12 x13 t1 t2 t3' t4' t5
 go_loopw [3] (fun i wr => ∃ k : Nat, k <= Q6m /\ i = .int .i64 k /\ Below Q6j w1 wr) (fun i _ => Q6m - (intOf i).toNat)
 case atStart => exact ⟨0, Nat.zero_le _, rfl, Q6c _ _⟩
 case round =>
  obtain ⟨k, hk, rfl, bel⟩ := hrel
  have Xr := qz0 X1 bel (by omega)
  obtain ⟨x0, x1, x2, x3, x4, x5, x6, x7, x8, x9, x10, x11, x12, x13⟩ := qzd3 Xr
  have KK := K1.trans (bel.mono (show Q67 <= Q6j by omega))
  by_cases hlt : k < Q6m
  ·have hlt' : (k : Int) < (Q6m : Int) := by omega
   have hk0 : (0 : Int) <= (k : Int) := by omega
   obtain ⟨bb, off, rfl, hbb, Rh⟩ := qzs.at I1.h (by omega)
   have Eh := qz0 (qzi (f := hdC) (sz := 22) (fun _ => rfl) Rh k hlt) (bel.mono (by omega)) hbb
   clear Rh
   obtain ⟨hh1, hh2⟩ := hP.hand k hlt
   generalize hhd : W.hands[k] = h at *
   clear hhd
   go_upto_region 6 with fail
   have y0 : ∀ (dq : Nat) (os : Array Obj), (grow (redrawn wr dq) os).cell? ⟨Q67, 0, none⟩ = some (.int .i64 x) := fun dq os => cell_regrown x0 dq os
   have y1 : ∀ (dq : Nat) (os : Array Obj), (grow (redrawn wr dq) os).cell? ⟨Q67, 1, none⟩ = some (.int .i64 y) := fun dq os => cell_regrown x1 dq os
   have y2 : ∀ (dq : Nat) (os : Array Obj), (grow (redrawn wr dq) os).cell? ⟨Q67, 2, none⟩ = some (.int .i64 z) := fun dq os => cell_regrown x2 dq os
   have y3 : ∀ (dq : Nat) (os : Array Obj), (grow (redrawn wr dq) os).cell? ⟨Q67, 3, none⟩ = some (.int .i64 u) := fun dq os => cell_regrown x3 dq os
   have y4 : ∀ (dq : Nat) (os : Array Obj), (grow (redrawn wr dq) os).cell? ⟨Q67, 4, none⟩ = some (.int .i64 W.A.camera) := fun dq os => cell_regrown x4 dq os
   have y5 : ∀ (dq : Nat) (os : Array Obj), (grow (redrawn wr dq) os).cell? ⟨Q67, 5, none⟩ = some Q4f := fun dq os => cell_regrown x5 dq os
   have y6 : ∀ (dq : Nat) (os : Array Obj), (grow (redrawn wr dq) os).cell? ⟨Q67, 6, none⟩ = some Q4b := fun dq os => cell_regrown x6 dq os
   have y7 : ∀ (dq : Nat) (os : Array Obj), (grow (redrawn wr dq) os).cell? ⟨Q67, 7, none⟩ = some Q4e := fun dq os => cell_regrown x7 dq os
   have y8 : ∀ (dq : Nat) (os : Array Obj), (grow (redrawn wr dq) os).cell? ⟨Q67, 8, none⟩ = some Q4h := fun dq os => cell_regrown x8 dq os
   have y9 : ∀ (dq : Nat) (os : Array Obj), (grow (redrawn wr dq) os).cell? ⟨Q67, 9, none⟩ = some (.slice (some ⟨bb, off, none⟩) Q6m c4) := fun dq os => cell_regrown x9 dq os
   have hBr : B <= wr.heap.size := Q6s (by omega) bel.size
   have Ir := I1.ar.below (bel.mono (by omega))
   have cH : ∀ (dq : Nat) (os : Array Obj), Calls Try.prog 29 #[.agg Q08, .agg (hdC h).toArray] (grow (redrawn wr dq) os) fun e w'' => e = .returned (.bool true) /\ ∃ q : Regrown, w'' = grow (redrawn wr q.d) q.os := fun dq os => by
    have hcl := qz5h x y z u h (grow (redrawn wr dq) os)
    rw [hh1] at hcl
    exact Calls.regrown_of hcl
   have cK : ∀ (dq : Nat) (os : Array Obj), Calls Try.prog 94 #[.agg Q1h, .agg (hdC h).toArray] (grow (redrawn wr dq) os) fun e w'' => e = .returned (.bool true) /\ ∃ q : Regrown, w'' = grow (redrawn wr q.d) q.os := fun dq os => by
    have hbq := below_regrown wr dq os
    have hcl := qzac W.A h a0 a1 a2 a3 c0 c1 c2 c3 (grow (redrawn wr dq) os) hA
    rw [hh2] at hcl
    exact Calls.regrown_of hcl
   refine wp_region_quiet_below (by kernel_rfl) (by kernel_rfl) ?_
   repeat (first | (refine qzz rfl 56 (.tmp 61) rfl bb (off + k * 22) rfl (hdC h) _ (fun w' hw' => by obtain ⟨⟨dq, os⟩, rfl⟩ := hw'; exact qz0 Eh (below_regrown wr dq os) (Nat.lt_of_lt_of_le hbb hBr)) Try.underlying56 rfl (qz4 h) ?_; simp only [Act.put, List.setIfInBounds_toArray, List.set_cons_succ, List.set_cons_zero]) | (refine qz1u rfl 56 (.tmp 71) rfl bb (off + k * 22) rfl (hdC h) _ (fun w' hw' => by obtain ⟨⟨dq, os⟩, rfl⟩ := hw'; exact qz0 Eh (below_regrown wr dq os) (Nat.lt_of_lt_of_le hbb hBr)) Try.underlying56 rfl (qz4 h) ?_; simp only [Act.put, List.setIfInBounds_toArray, List.set_cons_succ, List.set_cons_zero]) | go_big_quiet_step (first | exact cH _ _ | exact cK _ _))
   refine wpQuiet_nil ?_
   intro _ hw'
   obtain ⟨⟨dq, osq⟩, hw''⟩ := hw'
   subst hw''
   have bel2 := bel.trans ((below_regrown wr dq osq).mono bel.size)
   generalize grow (redrawn wr dq) osq = wb at *
   clear cH cK y0 y1 y2 y3 y4 y5 y6 y7 y8 y9 Eh hh1 hh2 Ir x0 x1 x2 x3 x4 x5 x6 x7 x8 x9 x10 x11 x12 x13 Xr
   go_wp2
   go_roundw
   case rel => exact ⟨k + 1, by omega, by go_num, bel2⟩
   case measure => simp [intOf]; omega
  ·have bel0 := bel
   clear bel
   obtain ⟨wo, rfl⟩ : ∃ wo : World, wo = wr := ⟨_, rfl⟩
   go_wp2
   clear x0 x1 x2 x3 x4 x5 x6 x7 x8 x9 x10 x11 x12 x13 KK hlt Xr
   go_loopw [4] (fun i wr => ∃ k : Nat, k <= Q6q /\ i = .int .i64 k /\ Below Q6j w1 wr) (fun i _ => Q6q - (intOf i).toNat)
   case atStart => exact ⟨0, Nat.zero_le _, rfl, bel0⟩
   case round =>
    obtain ⟨k, hk, rfl, bel⟩ := hrel
    have Xr := qz0 X1 bel (by omega)
    obtain ⟨x0, x1, x2, x3, x4, x5, x6, x7, x8, x9, x10, x11, x12, x13⟩ := qzd3 Xr
    have KK := K1.trans (bel.mono (show Q67 <= Q6j by omega))
    by_cases hlt : k < Q6q
    ·have hlt' : (k : Int) < (Q6q : Int) := by omega
     have hk0 : (0 : Int) <= (k : Int) := by omega
     obtain ⟨bb, off, rfl, hbb, Rh⟩ := qzs.at I1.c (by omega)
     have Eh := qz0 (qzi (f := clC) (sz := 10) (fun _ => rfl) Rh k hlt) (bel.mono (by omega)) hbb
     clear Rh
     have hh1 := hP.call k hlt
     generalize hhd : W.calls[k] = c at *
     clear hhd
     go_upto_region 11 with fail
     have y10 : ∀ (dq : Nat) (os : Array Obj), (grow (redrawn wr dq) os).cell? ⟨Q67, 10, none⟩ = some (.slice (some ⟨bb, off, none⟩) Q6q c5) := fun dq os => cell_regrown x10 dq os
     have hBr : B <= wr.heap.size := Q6s (by omega) bel.size
     have cC : ∀ (dq : Nat) (os : Array Obj), Calls Try.prog 95 #[.agg #[.int .i64 x, .int .i64 y, .int .i64 z, .int .i64 u, .int .i64 W.A.camera, .slice a0 W.A.slots.length c0, .slice a1 W.A.guides.length c1, .slice a2 W.A.nodes.length c2, .slice a3 W.A.vers.length c3, .slice a4 Q6m c4, .slice (some ⟨bb, off, none⟩) Q6q c5, .slice a6 Q6t c6, .slice a7 Q6r c7, .int .i64 W.now], .agg Q2v] (grow (redrawn wr dq) os) fun e w'' => e = .returned (.bool true) /\ ∃ q : Regrown, w'' = grow (redrawn wr q.d) q.os := fun dq os => Calls.regrown_of (qzax x y z u W a0 a1 a2 a3 a4 (some ⟨bb, off, none⟩) a6 a7 c0 c1 c2 c3 c4 c5 c6 c7 c hh1 hx _)
     refine wp_region_quiet_below (by kernel_rfl) (by kernel_rfl) ?_
     repeat (first | (refine qzz rfl 35 (.tmp 1) rfl w.heap.size 0 rfl [.int .i64 x, .int .i64 y, .int .i64 z, .int .i64 u, .int .i64 W.A.camera, .slice a0 W.A.slots.length c0, .slice a1 W.A.guides.length c1, .slice a2 W.A.nodes.length c2, .slice a3 W.A.vers.length c3, .slice a4 W.hands.length c4, .slice (some ⟨bb, off, none⟩) W.calls.length c5, .slice a6 W.deeds.length c6, .slice a7 W.ticks.length c7, .int .i64 W.now] _ (fun w' hw' => by obtain ⟨⟨dq, os⟩, rfl⟩ := hw'; exact qz0 Xr (below_regrown wr dq os) (Nat.lt_of_lt_of_le (by omega) bel.size)) Try.underlying35 rfl qzk ?_; simp only [Act.put, List.setIfInBounds_toArray, List.set_cons_succ, List.set_cons_zero]) | (refine qzz rfl 135 (.tmp 87) rfl bb (off + k * 10) rfl Q4q _ (fun w' hw' => by obtain ⟨⟨dq, os⟩, rfl⟩ := hw'; exact qz0 Eh (below_regrown wr dq os) (Nat.lt_of_lt_of_le hbb hBr)) Try.underlying135 rfl qzci ?_; simp only [Act.put, List.setIfInBounds_toArray, List.set_cons_succ, List.set_cons_zero]) | go_big_quiet_step (exact cC _ _))
     refine wpQuiet_nil ?_
     intro _ hw'
     obtain ⟨⟨dq, osq⟩, hw''⟩ := hw'
     subst hw''
     have bel2 := bel.trans ((below_regrown wr dq osq).mono bel.size)
     generalize grow (redrawn wr dq) osq = wb at *
     clear cC y10 Eh hh1 x0 x1 x2 x3 x4 x5 x6 x7 x8 x9 x10 x11 x12 x13 Xr
     go_wp2
     go_roundw
     case rel => exact ⟨k + 1, by omega, by go_num, bel2⟩
     case measure => simp [intOf]; omega
    ·have bel0 := bel
     clear bel
     obtain ⟨wo, rfl⟩ : ∃ wo : World, wo = wr := ⟨_, rfl⟩
     go_wp2
     clear x0 x1 x2 x3 x4 x5 x6 x7 x8 x9 x10 x11 x12 x13 KK hlt Xr
     go_loopw [5] (fun i wr => ∃ k : Nat, k <= Q6t /\ i = .int .i64 k /\ Below Q6j w1 wr) (fun i _ => Q6t - (intOf i).toNat)
     case atStart => exact ⟨0, Nat.zero_le _, rfl, bel0⟩
     case round =>
      obtain ⟨k, hk, rfl, bel⟩ := hrel
      have Xr := qz0 X1 bel (by omega)
      obtain ⟨x0, x1, x2, x3, x4, x5, x6, x7, x8, x9, x10, x11, x12, x13⟩ := qzd3 Xr
      have KK := K1.trans (bel.mono (show Q67 <= Q6j by omega))
      by_cases hlt : k < Q6t
      ·have hlt' : (k : Int) < (Q6t : Int) := by omega
       have hk0 : (0 : Int) <= (k : Int) := by omega
       obtain ⟨bb, off, rfl, hbb, Rh⟩ := qzs.at I1.d (by omega)
       have Eh := qz0 (qzi (f := ddC) (sz := 5) (fun _ => rfl) Rh k hlt) (bel.mono (by omega)) hbb
       clear Rh
       have hh1 := hP.deed k hlt
       generalize hhd : W.deeds[k] = d at *
       clear hhd
       go_wp2_with (first | (refine Q6h rfl 138 (.tmp 101) rfl bb (off + k * 5) rfl [.int .i64 d.kind, .int .i64 d.key, .int .i64 d.value, .int .i64 d.stamp, .int .i64 d.clock] _ ?hd5 Try.underlying138 rfl (qz5f d) ?_))
       case hd5 => exact Eh
       refine (qzae d hh1 _).mono ?_
       rintro e wb ⟨rfl, bq⟩
       have bel2 := bel.trans (bq.mono bel.size)
       clear bq Eh hh1 x0 x1 x2 x3 x4 x5 x6 x7 x8 x9 x10 x11 x12 x13 Xr
       go_wp2
       go_roundw
       case rel => exact ⟨k + 1, by omega, by go_num, bel2⟩
       case measure => simp [intOf]; omega
      ·have bel0 := bel
       clear bel
       obtain ⟨wo, rfl⟩ : ∃ wo : World, wo = wr := ⟨_, rfl⟩
       go_wp2
       clear x0 x1 x2 x3 x4 x5 x6 x7 x8 x9 x10 x11 x12 x13 KK hlt Xr
       go_loopw [6] (fun i wr => ∃ k : Nat, k <= Q6r /\ i = .int .i64 k /\ Below Q6j w1 wr) (fun i _ => Q6r - (intOf i).toNat)
       case atStart => exact ⟨0, Nat.zero_le _, rfl, bel0⟩
       case round =>
        obtain ⟨k, hk, rfl, bel⟩ := hrel
        have Xr := qz0 X1 bel (by omega)
        obtain ⟨x0, x1, x2, x3, x4, x5, x6, x7, x8, x9, x10, x11, x12, x13⟩ := qzd3 Xr
        have KK := K1.trans (bel.mono (show Q67 <= Q6j by omega))
        by_cases hlt : k < Q6r
        ·have hlt' : (k : Int) < (Q6r : Int) := by omega
         have hk0 : (0 : Int) <= (k : Int) := by omega
         obtain ⟨bb, off, rfl, hbb, Rh⟩ := qzs.at I1.t (by omega)
         have Rr := qz0 Rh (bel.mono (by omega)) hbb
         clear Rh
         have hh1 := hP.tick k hlt
         have g1 : wr.cell? ⟨bb, off + k, none⟩ = some (.int .i64 W.ticks[k]) := Rr k (.int .i64 W.ticks[k]) (by have := qzv (f := intC) (sz := 1) (fun _ => rfl) W.ticks k hlt 0 (by omega); simpa [intC] using this)
         have hBr : B <= wr.heap.size := Q6s (by omega) bel.size
         rcases Nat.eq_zero_or_pos k with hk1 | hk1
         ·subst hk1
          generalize hhd : W.ticks[0] = tk at *
          clear hhd Rr
          go_upto_region 21 with fail
          have y12 : ∀ (dq : Nat) (os : Array Obj), (grow (redrawn wr dq) os).cell? ⟨Q67, 12, none⟩ = some (.slice (some ⟨bb, off, none⟩) Q6r c7) := fun dq os => cell_regrown x12 dq os
          have ya : ∀ (dq : Nat) (os : Array Obj), (grow (redrawn wr dq) os).cell? ⟨bb, off + 0, none⟩ = some (.int .i64 tk) := fun dq os => cell_regrown g1 dq os
          have ya' : ∀ (dq : Nat) (os : Array Obj), (grow (redrawn wr dq) os).cell? ⟨bb, off, none⟩ = some (.int .i64 tk) := fun dq os => by simpa using ya dq os
          have cT : ∀ (dq : Nat) (os : Array Obj), Calls Try.prog 65 #[.int .i64 tk] (grow (redrawn wr dq) os) fun e w'' => e = .returned (.bool true) /\ ∃ q : Regrown, w'' = grow (redrawn wr q.d) q.os := fun dq os => by
           have hcl := (qz1c tk (grow (redrawn wr dq) os)).mono (fun e w' h => (⟨h.1, by rw [h.2]; exact Q6c _ _⟩ : e = .returned (.bool (inB tk 0 20000)) /\ Below (grow (redrawn wr dq) os).heap.size (grow (redrawn wr dq) os) w'))
           rw [hh1] at hcl
           exact Calls.regrown_of hcl
          refine wp_region_quiet_below (by kernel_rfl) (by kernel_rfl) ?_
          repeat (go_big_quiet_step (exact cT _ _))
          refine wpQuiet_nil ?_
          intro _ hw'
          obtain ⟨⟨dq, osq⟩, hw''⟩ := hw'
          subst hw''
          have bel2 := bel.trans ((below_regrown wr dq osq).mono bel.size)
          generalize grow (redrawn wr dq) osq = wb at *
          clear cT y12 ya ya' g1 hh1 x0 x1 x2 x3 x4 x5 x6 x7 x8 x9 x10 x11 x12 x13 Xr
          go_wp2
          go_roundw
          case rel => exact ⟨1, by omega, by go_num, bel2⟩
          case measure => simp [intOf]; omega
         ·obtain ⟨j, rfl⟩ : ∃ j, k = j + 1 := ⟨k - 1, by omega⟩
          have hinc := hP.tinc j hlt
          have g0 : wr.cell? ⟨bb, off + j, none⟩ = some (.int .i64 W.ticks[j]) := Rr j (.int .i64 W.ticks[j]) (by have := qzv (f := intC) (sz := 1) (fun _ => rfl) W.ticks j (by omega) 0 (by omega); simpa [intC] using this)
          clear Rr
          generalize hhd : W.ticks[j + 1] = tk at *
          generalize hhe : W.ticks[j] = tj at *
          clear hhd hhe
          have hpos : (0 : Int) < ((j + 1 : Nat) : Int) := by omega
          have hj1 : ((j + 1 : Nat) : Int) - 1 = (j : Int) := by omega
          have hj0 : (0 : Int) <= (j : Int) := by omega
          have hjl : (j : Int) < (Q6r : Int) := by omega
          have hle : ¬ (tk <= tj) := by omega
          go_upto_region 21 with fail
          have y12 : ∀ (dq : Nat) (os : Array Obj), (grow (redrawn wr dq) os).cell? ⟨Q67, 12, none⟩ = some (.slice (some ⟨bb, off, none⟩) Q6r c7) := fun dq os => cell_regrown x12 dq os
          have ya : ∀ (dq : Nat) (os : Array Obj), (grow (redrawn wr dq) os).cell? ⟨bb, off + (j + 1), none⟩ = some (.int .i64 tk) := fun dq os => cell_regrown g1 dq os
          have yb : ∀ (dq : Nat) (os : Array Obj), (grow (redrawn wr dq) os).cell? ⟨bb, off + j, none⟩ = some (.int .i64 tj) := fun dq os => cell_regrown g0 dq os
          have cT : ∀ (dq : Nat) (os : Array Obj), Calls Try.prog 65 #[.int .i64 tk] (grow (redrawn wr dq) os) fun e w'' => e = .returned (.bool true) /\ ∃ q : Regrown, w'' = grow (redrawn wr q.d) q.os := fun dq os => by
           have hcl := (qz1c tk (grow (redrawn wr dq) os)).mono (fun e w' h => (⟨h.1, by rw [h.2]; exact Q6c _ _⟩ : e = .returned (.bool (inB tk 0 20000)) /\ Below (grow (redrawn wr dq) os).heap.size (grow (redrawn wr dq) os) w'))
           rw [hh1] at hcl
           exact Calls.regrown_of hcl
          refine wp_region_quiet_below (by kernel_rfl) (by kernel_rfl) ?_
          repeat (go_big_quiet_step (exact cT _ _))
          refine wpQuiet_nil ?_
          intro _ hw'
          obtain ⟨⟨dq, osq⟩, hw''⟩ := hw'
          subst hw''
          have bel2 := bel.trans ((below_regrown wr dq osq).mono bel.size)
          generalize grow (redrawn wr dq) osq = wb at *
          clear cT y12 ya yb g1 g0 hh1 x0 x1 x2 x3 x4 x5 x6 x7 x8 x9 x10 x11 x12 x13 Xr
          go_wp2
          go_roundw
          case rel => exact ⟨j + 1 + 1, by omega, by go_num, bel2⟩
          case measure => simp [intOf]; omega
        ·have bel0 := bel
         clear bel
         obtain ⟨wo, rfl⟩ : ∃ wo : World, wo = wr := ⟨_, rfl⟩
         go_wp2
         clear x0 x1 x2 x3 x4 x5 x6 x7 x8 x9 x10 x11 x12 x13 KK hlt Xr
         go_wp2
         go_ret
         exact ⟨rfl, K1.trans (bel0.mono (by omega))⟩
end
section
def qzaf (ops : Array Oper) (k : Nat) : Bool := (List.range k).all fun i => match ops[i]? with | some o => o.after.all fun e => !Region.binds .any e || decide (e.on < i) | none => true
theorem qz9r {ops : Array Oper} {k : Nat} (h : qzaf ops k = true) (i : Nat) (hik : i < k) (o : Oper) (ho : ops[i]? = some o) : ∀ e ∈ o.after, Region.binds .any e = true -> e.on < i := by
 intro e he hbd
 have h1 := (List.all_eq_true.1 h) i (List.mem_range.2 hik)
 simp only [ho] at h1
 have h2 := Array.all_eq_true_iff_forall_mem.1 h1 e he
 rw [hbd] at h2
 exact of_decide_eq_true (by simpa using h2)
end
end Go.Proofs.Ythjkdnlmopafkaa
