/-
  What the law's proof goes by, part 51.
-/
import Derived.Laws.StructEq
import Derived.Test.YtclkglkhhnapiaaGreatFnWent00
import Derived.Test.YtclkglkhhnapiaaGreatFnWent05
import Derived.Test.YtclkglkhhnapiaaGreatFnWent40
import Derived.Test.YtclkglkhhnapiaaGreatFnWent43
import Derived.Test.YtclkglkhhnapiaaGreatFnWent49
namespace Go.Proofs.YtclkglkhhnapiaaGreat
open Go.ChangeShapes Go.WideShapes Go.ChangeAt Go.RowKit
set_option maxRecDepth 100000
set_option maxHeartbeats 16000000
set_option linter.unusedVariables false
set_option linter.unusedSimpArgs false
set_option linter.unnecessarySimpa false
set_option linter.unusedSectionVars false
section
attribute [local go_sem ↓] Go.wp_at_zero Go.wp_at_succ
theorem qz9k (B : Nat) (A : Ar) (x y z u : Int) (h : Hd) (n : Int) (a0 a1 a2 a3 : Option Addr) (c0 c1 c2 c3 : Nat) (w : World) (hB : B <= w.heap.size) (hA : A.size <= 1048576) (I : qzr B w Q0u Q0s Q0w Q14 A) :
  Calls Tryz.prog 11 #[.agg Q05, .agg Q01, .agg (hdC h).toArray, .int .i64 n] w fun e w' => e = .returned (.tuple #[.agg (hdC (qz2a x y z u A h n)).toArray, .bool (qz1n x y z u A h n)]) /\ Below w.heap.size w w' := by
 have hA' := hA
 unfold Ar.size at hA
 have P0 := World.rangeAt_alloc (World.rangeAt_alloc (World.rangeAt_alloc (qz6 w Q0n 25) (.cells Q01 30)) Q0f) (.cells Q00 32)
 have X0 := World.rangeAt_alloc (World.rangeAt_alloc (qz6 Q3a Q0j 30) Q0f) (.cells Q00 32)
 have H0 := World.rangeAt_alloc (qz6 Q2e (hdC h) 32) (.cells Q00 32)
 have F0 := qz8 ((Q2e).alloc Q0f) Q00 32 22 (by decide)
 have K0 := ((((Below.refl w.heap.size w).alloc (Nat.le_refl _) (.cells Q05 25)).alloc (by simp) (.cells Q01 30)).alloc (by simp; omega) Q0f).alloc (by simp; omega) (.cells Q00 32)
 have hz0 : w.heap.size + 1 + 1 + 1 < (((Q2e).alloc Q0f).alloc (.cells Q00 32)).heap.size := by simp
 simp only [World.size_alloc] at X0 H0 F0
 have I0 := I.below (K0.mono hB)
 go_enter Tryz.func11, Tryz.ntmps11
 go_wp2_with (refine wpList_load_mid rfl 32 (.tmp 6) rfl (w.heap.size + 1 + 1) 0 ?l1 (hdC h) _ ?l2 Tryz.underlying32 rfl (qz1 h) ?_)
 try (case l1 => rfl)
 try (case l2 => exact H0)
 change Calls Tryz.prog _ _ (((Q2e).alloc Q0f).alloc (.cells Q00 32)) _
 generalize hw0 : ((Q2e).alloc Q0f).alloc (.cells Q00 32) = w0 at *
 clear hw0 I
 have hB0 : B <= w0.heap.size := Nat.le_trans hB K0.size
 refine (qzdq B A x y z u 0 h 0 a0 a1 a2 a3 c0 c1 c2 c3 _ hB0 hA' I0).mono ?_
 rintro e w1 ⟨rfl, b0⟩
 have X1 := qz0 X0 b0 (by omega)
 have H1 := qz0 H0 b0 (by omega)
 have F1 := qz2 F0 b0 (by omega)
 have K1 := K0.trans (b0.mono (by omega))
 have I1 := I0.below (b0.mono hB0)
 have hz1 := Nat.lt_of_lt_of_le hz0 b0.size
 have hB1 := Nat.le_trans hB0 b0.size
 clear X0 H0 F0 K0 I0 hz0 hB0 b0
 obtain ⟨x0, x1, x2, x3, x4⟩ := row5 X1
 cases ef : fitB x y z u A 0 h 0
 case false =>
  have hb : qz1n x y z u A h n = false := by simp [qz1n, ef]
  have hq : Hid (qz2a x y z u A h n = qz37 /\ qz1n x y z u A h n = false) := ⟨by rw [qz2a, hb]; rfl, hb⟩
  clear hb
  go_wp2_with (first | (refine wpList_store_mid rfl 32 (.tmp 8) (.tmp 24) rfl Q15 0 (hdC qz37).toArray ?hxn106 ?hyn106 ?htn106 (qz7 qz37) (qzb qz37) ?_))
  try (case hxn106 => rfl)
  try (case hyn106 => rfl)
  case htn106 => exact F1
  refine bodyPost_ret (v := .tuple #[.agg (hdC qz37).toArray, .bool false]) ?_ rfl ⟨by rw [hq.out.1, hq.out.2], ?_⟩
  ·exact qzf Tryz.results11 _ _ Q15 0 rfl (hdC qz37) _ (World.rangeAt_setCells_same _ _ _ _ F1) Tryz.underlying32 rfl (qz1 qz37)
  ·exact Below.setCells (by omega) _ _ _ K1
 have FI := qzdo ef
 cases en : inB n (-1) ((A.nodes.length : Int) - 1)
 case false =>
  have hb : qz1n x y z u A h n = false := by simp [qz1n, ef, en]
  have hq : Hid (qz2a x y z u A h n = qz37 /\ qz1n x y z u A h n = false) := ⟨by rw [qz2a, hb]; rfl, hb⟩
  clear hb
  go_wp2_with (first | (go_at_call 41; refine (qzk _ _ _ _).mono ?_; rintro e w' ⟨rfl, hw⟩; obtain rfl := hw.symm) | (refine wpList_store_mid rfl 32 (.tmp 8) (.tmp 24) rfl Q15 0 (hdC qz37).toArray ?hxn107 ?hyn107 ?htn107 (qz7 qz37) (qzb qz37) ?_))
  try (case hxn107 => rfl)
  try (case hyn107 => rfl)
  case htn107 => exact F1
  refine bodyPost_ret (v := .tuple #[.agg (hdC qz37).toArray, .bool false]) ?_ rfl ⟨by rw [hq.out.1, hq.out.2], ?_⟩
  ·exact qzf Tryz.results11 _ _ Q15 0 rfl (hdC qz37) _ (World.rangeAt_setCells_same _ _ _ _ F1) Tryz.underlying32 rfl (qz1 qz37)
  ·exact Below.setCells (by omega) _ _ _ K1
 have hb : qz1n x y z u A h n = true := by simp [qz1n, ef, en]
 have hq : Hid (qz2a x y z u A h n = qz2s A h n /\ qz1n x y z u A h n = true) := ⟨by rw [qz2a, hb]; rfl, hb⟩
 clear hb
 go_wp2_with (first | (go_at_call 41; refine (qzk _ _ _ _).mono ?_; rintro e w' ⟨rfl, hw⟩; obtain rfl := hw.symm) | (refine wpList_load_mid rfl 32 (.tmp 6) rfl (w.heap.size + 1 + 1) 0 ?hxln108 (hdC h) _ ?hcn108 Tryz.underlying32 rfl (qz1 h) ?_))
 try (case hxln108 => rfl)
 case hcn108 => exact H1
 refine (qz4x B A h n a0 a1 a2 a3 c0 c1 c2 c3 _ hB1 hA' I1 FI.n0).mono ?_
 rintro e w9 ⟨rfl, b9⟩
 have F9 := qz2 F1 b9 (by omega)
 have K9 := K1.trans (b9.mono (by omega))
 go_wp2_with (refine wpList_store_mid rfl 32 (.tmp 8) (.tmp 28) rfl Q15 0 (hdC (qz2s A h n)).toArray ?hxn108 ?hyn108 ?htn108 (qz7 _) (qzb _) ?_)
 try (case hxn108 => rfl)
 try (case hyn108 => rfl)
 case htn108 => exact F9
 refine bodyPost_ret (v := .tuple #[.agg (hdC (qz2s A h n)).toArray, .bool true]) ?_ rfl ⟨by rw [hq.out.1, hq.out.2], ?_⟩
 ·exact qzf Tryz.results11 _ _ Q15 0 rfl (hdC (qz2s A h n)) _ (World.rangeAt_setCells_same _ _ _ _ F9) Tryz.underlying32 rfl (qz1 _)
 ·exact Below.setCells (by omega) _ _ _ K9
theorem qzc9 (B : Nat) (A : Ar) (x y z u : Int) (h : Hd) (a0 a1 a2 a3 : Option Addr) (c0 c1 c2 c3 : Nat) (w : World) (hB : B <= w.heap.size) (hA : A.size <= 1048576) (I : qzr B w Q0u Q0s Q0w Q14 A) :
  Calls Tryz.prog 8 #[.agg Q05, .agg Q01, .agg (hdC h).toArray] w fun e w' => e = .returned (.tuple #[.agg (hdC (qz3v x y z u A h)).toArray, .bool (qz30 x y z u A h)]) /\ Below w.heap.size w w' := by
 have hA' := hA
 unfold Ar.size at hA
 have P0 := World.rangeAt_alloc (World.rangeAt_alloc (World.rangeAt_alloc (qz6 w Q0n 25) (.cells Q01 30)) Q0f) (.cells Q00 32)
 have X0 := World.rangeAt_alloc (World.rangeAt_alloc (qz6 Q3a Q0j 30) Q0f) (.cells Q00 32)
 have H0 := World.rangeAt_alloc (qz6 Q2e (hdC h) 32) (.cells Q00 32)
 have F0 := qz8 ((Q2e).alloc Q0f) Q00 32 22 (by decide)
 have K0 := ((((Below.refl w.heap.size w).alloc (Nat.le_refl _) (.cells Q05 25)).alloc (by simp) (.cells Q01 30)).alloc (by simp; omega) Q0f).alloc (by simp; omega) (.cells Q00 32)
 have hz0 : w.heap.size + 1 + 1 + 1 < (((Q2e).alloc Q0f).alloc (.cells Q00 32)).heap.size := by simp
 simp only [World.size_alloc] at X0 H0 F0
 have I0 := I.below (K0.mono hB)
 go_enter Tryz.func8, Tryz.ntmps8
 go_wp2_with (refine wpList_load_mid rfl 32 (.tmp 5) rfl (w.heap.size + 1 + 1) 0 ?l1 (hdC h) _ ?l2 Tryz.underlying32 rfl (qz1 h) ?_)
 try (case l1 => rfl)
 try (case l2 => exact H0)
 change Calls Tryz.prog _ _ (((Q2e).alloc Q0f).alloc (.cells Q00 32)) _
 generalize hw0 : ((Q2e).alloc Q0f).alloc (.cells Q00 32) = w0 at *
 clear hw0 I
 have hB0 : B <= w0.heap.size := Nat.le_trans hB K0.size
 refine (qzdq B A x y z u 0 h 0 a0 a1 a2 a3 c0 c1 c2 c3 _ hB0 hA' I0).mono ?_
 rintro e w1 ⟨rfl, b0⟩
 have X1 := qz0 X0 b0 (by omega)
 have H1 := qz0 H0 b0 (by omega)
 have F1 := qz2 F0 b0 (by omega)
 have K1 := K0.trans (b0.mono (by omega))
 have I1 := I0.below (b0.mono hB0)
 have hz1 := Nat.lt_of_lt_of_le hz0 b0.size
 have hB1 := Nat.le_trans hB0 b0.size
 clear X0 H0 F0 K0 I0 hz0 hB0 b0
 obtain ⟨x0, x1, x2, x3, x4⟩ := row5 X1
 have q11 : w1.cell? ⟨w.heap.size + 1 + 1, 11, none⟩ = some (.int .i64 h.ver) := by simpa using H1 11 (.int .i64 h.ver) rfl
 cases ef : fitB x y z u A 0 h 0
 case false =>
  have hb : qz30 x y z u A h = false := by simp [qz30, ef]
  have hq : Hid (qz3v x y z u A h = qz37 /\ qz30 x y z u A h = false) := ⟨by rw [qz3v, hb]; rfl, hb⟩
  clear hb
  go_wp2_with (first | (refine wpList_store_mid rfl 32 (.tmp 6) (.tmp 20) rfl Q15 0 (hdC qz37).toArray ?hxn109 ?hyn109 ?htn109 (qz7 qz37) (qzb qz37) ?_))
  try (case hxn109 => rfl)
  try (case hyn109 => rfl)
  case htn109 => exact F1
  refine bodyPost_ret (v := .tuple #[.agg (hdC qz37).toArray, .bool false]) ?_ rfl ⟨by rw [hq.out.1, hq.out.2], ?_⟩
  ·exact qzf Tryz.results8 _ _ Q15 0 rfl (hdC qz37) _ (World.rangeAt_setCells_same _ _ _ _ F1) Tryz.underlying32 rfl (qz1 qz37)
  ·exact Below.setCells (by omega) _ _ _ K1
 have FI := qzdo ef
 go_wp2_with fail
 refine (qzam B A h.ver a0 a1 a2 a3 c0 c1 c2 c3 _ hB1 hA' I1).mono ?_
 clear x0 x1 x2 x3 x4 q11
 rintro e w2 ⟨rfl, b1⟩
 have X2 := qz0 X1 b1 (by omega)
 have H2 := qz0 H1 b1 (by omega)
 have F2 := qz2 F1 b1 (by omega)
 have K2 := K1.trans (b1.mono (by omega))
 have I2 := I1.below (b1.mono hB1)
 have hz2 := Nat.lt_of_lt_of_le hz1 b1.size
 have hB2 := Nat.le_trans hB1 b1.size
 clear X1 H1 F1 K1 I1 hz1 hB1 b1
 obtain ⟨x0, x1, x2, x3, x4⟩ := row5 X2
 cases es : qz24 A h.ver
 case false =>
  have hb : qz30 x y z u A h = false := by simp [qz30, ef, es]
  have hq : Hid (qz3v x y z u A h = qz37 /\ qz30 x y z u A h = false) := ⟨by rw [qz3v, hb]; rfl, hb⟩
  clear hb
  go_wp2_with (first | (refine wpList_store_mid rfl 32 (.tmp 6) (.tmp 20) rfl Q15 0 (hdC qz37).toArray ?hxn110 ?hyn110 ?htn110 (qz7 qz37) (qzb qz37) ?_))
  try (case hxn110 => rfl)
  try (case hyn110 => rfl)
  case htn110 => exact F2
  refine bodyPost_ret (v := .tuple #[.agg (hdC qz37).toArray, .bool false]) ?_ rfl ⟨by rw [hq.out.1, hq.out.2], ?_⟩
  ·exact qzf Tryz.results8 _ _ Q15 0 rfl (hdC qz37) _ (World.rangeAt_setCells_same _ _ _ _ F2) Tryz.underlying32 rfl (qz1 qz37)
  ·exact Below.setCells (by omega) _ _ _ K2
 have hb : qz30 x y z u A h = true := by simp [qz30, ef, es]
 have hq : Hid (qz3v x y z u A h = onH A h /\ qz30 x y z u A h = true) := ⟨by rw [qz3v, hb]; rfl, hb⟩
 clear hb
 go_wp2_with (first | (refine wpList_load_mid rfl 32 (.tmp 5) rfl (w.heap.size + 1 + 1) 0 ?hxln111 (hdC h) _ ?hcn111 Tryz.underlying32 rfl (qz1 h) ?_))
 try (case hxln111 => rfl)
 case hcn111 => exact H2
 refine (qzbp B A h a0 a1 a2 a3 c0 c1 c2 c3 _ hB2 hA' I2 x y z u FI.ok FI.v0 FI.v1 FI.x0 FI.x1 FI.c0 FI.c1 FI.n0 FI.o0 FI.o1 FI.s0 FI.s1 FI.t0 FI.t1).mono ?_
 rintro e w9 ⟨rfl, b9⟩
 have F9 := qz2 F2 b9 (by omega)
 have K9 := K2.trans (b9.mono (by omega))
 go_wp2_with (refine wpList_store_mid rfl 32 (.tmp 6) (.tmp 23) rfl Q15 0 (hdC (onH A h)).toArray ?hxn111 ?hyn111 ?htn111 (qz7 _) (qzb _) ?_)
 try (case hxn111 => rfl)
 try (case hyn111 => rfl)
 case htn111 => exact F9
 refine bodyPost_ret (v := .tuple #[.agg (hdC (onH A h)).toArray, .bool true]) ?_ rfl ⟨by rw [hq.out.1, hq.out.2], ?_⟩
 ·exact qzf Tryz.results8 _ _ Q15 0 rfl (hdC (onH A h)) _ (World.rangeAt_setCells_same _ _ _ _ F9) Tryz.underlying32 rfl (qz1 _)
 ·exact Below.setCells (by omega) _ _ _ K9
end
section
theorem qzao (g : Hd) (w : World) : (Op.equalIn 10000 32 (.agg (hdC g).toArray) (.agg (hdC g).toArray)).run Tryz.prog w = .ok true w := by
 have hS : Tryz.prog.underlying 32 = some (.struct (Tryz.prog.fieldsOf 32)) := by kernel_rfl
 have hp : Tryz.prog.stoodInHeld 32 = false := by kernel_rfl
 rw [show (10000 : Nat) = 9999 + 1 from rfl, run_equalIn_agg w 9999 32 _ _ hS hp]
 simp only [Program.fieldsOf, Tryz.underlying32, hdC]
 go_simp
end
end Go.Proofs.YtclkglkhhnapiaaGreat
