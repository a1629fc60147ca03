/-
  What the law's proof goes by, part 41.
-/
import Derived.BigQuiet
import Derived.Test.YtclkglkhhnapiaaGreatFnWent00
import Derived.Test.YtclkglkhhnapiaaGreatFnWent15
import Derived.Test.YtclkglkhhnapiaaGreatFnWent17
import Derived.Test.YtclkglkhhnapiaaGreatFnWent24
namespace Go.Proofs.YtclkglkhhnapiaaGreat
open Go.ChangeShapes Go.WideShapes Go.ChangeAt Go.RowKit
set_option maxRecDepth 100000
set_option maxHeartbeats 16000000
set_option linter.unusedVariables false
set_option linter.unusedSimpArgs false
set_option linter.unnecessarySimpa false
set_option linter.unusedSectionVars false
section
open Go.ChangeShapes Go.WideShapes Go.ChangeAt Go.RowKit Go.Sort
attribute [local go_sem ↓] Go.wp_at_zero Go.wp_at_succ
def fitB (x y z u : Int) (A : Ar) (me : Int) (h : Hd) (clk : Int) : Bool := qz18 x y z u A && qz3g x y z u h && inB me 0 (x - 1) && inB clk 0 20000 && qz25 A h
theorem qz91 {x y z u : Int} {h : Hd} (e : qz3g x y z u h = true) : 1 <= x /\ x <= 8 := by
 unfold qz3g at e
 simp only [Bool.and_eq_true] at e
 have := (qz29 x y z u).1 e.1.1
 omega
theorem qz40 {P : Program} {ops : Array Oper} {C : World -> Prop} {Q : Act -> Prop} {a : Act} {o : Oper} {rest : List Oper} (hwn : Region.wanted o (yielded ops a.tmps) = true) (v : Value) (hv : ∀ w, C w -> (execOp a.eval o).run P w = .ok (.value v) w)
  (h : wpQuiet P ops C Q rest (a.put o.dst v)) : wpQuiet P ops C Q (o :: rest) a := by
 refine wpQuiet_step fun K hK => ?_
 rw [if_pos hwn]
 refine ⟨v, fun w hw => ?_, hK _ h⟩
 unfold Oper.quietAt
 rw [hv w hw]
 exact ⟨rfl, rfl⟩
theorem qz7h (B : Nat) (A : Ar) (x y z u me : Int) (h : Hd) (clk : Int) (a0 a1 a2 a3 : Option Addr) (c0 c1 c2 c3 : Nat) (w : World) (hB : B <= w.heap.size) (hA : A.size <= 1048576) (I : qzr B w Q0u Q0s Q0w Q14 A) :
  Calls Tryz.prog 18 #[.agg Q05, .agg Q01, .int .i64 me, .agg (hdC h).toArray, .int .i64 clk] w fun e w' => e = .returned (.bool (fitB x y z u A me h clk)) /\ Below w.heap.size w w' := by
 have hA' := hA
 unfold Ar.size at hA
 have P0 := World.rangeAt_alloc (World.rangeAt_alloc (qz6 w Q0n 25) (.cells Q01 30)) Q0f
 have X0 := World.rangeAt_alloc (qz6 Q3a Q0j 30) Q0f
 have H0 := qz6 Q2e (hdC h) 32
 have K0 := (((Below.refl w.heap.size w).alloc (Nat.le_refl _) (.cells Q05 25)).alloc (by simp) (.cells Q01 30)).alloc (by simp; omega) Q0f
 have hz0 : w.heap.size + 1 + 1 < ((Q2e).alloc Q0f).heap.size := by simp
 simp only [World.size_alloc] at X0 H0
 have I0 := I.below (K0.mono hB)
 go_enter Tryz.func18, Tryz.ntmps18
 go_wp2_with fail
 generalize hw0 : (Q2e).alloc Q0f = w0 at *
 clear hw0 I
 have hB0 : B <= w0.heap.size := Nat.le_trans hB K0.size
 refine (qz54 B A x y z u a0 a1 a2 a3 c0 c1 c2 c3 _ hB0 hA' I0).mono ?_
 rintro e w1 ⟨rfl, b0⟩
 have P1 := qz0 P0 b0 (by omega)
 have X1 := qz0 X0 b0 (by omega)
 have H1 := qz0 H0 b0 (by omega)
 have K1 := K0.trans (b0.mono (by omega))
 have I1 := I0.below (b0.mono hB0)
 have hz1 := Nat.lt_of_lt_of_le hz0 b0.size
 have hB1 := Nat.le_trans hB0 b0.size
 clear P0 X0 H0 K0 I0 hz0 hB0 b0
 have p0 : w1.cell? ⟨w.heap.size, 0, none⟩ = some (.int .i64 x) := by simpa using P1 0 (.int .i64 x) rfl
 have p1 : w1.cell? ⟨w.heap.size, 1, none⟩ = some (.int .i64 y) := by simpa using P1 1 (.int .i64 y) rfl
 have p2 : w1.cell? ⟨w.heap.size, 2, none⟩ = some (.int .i64 z) := by simpa using P1 2 (.int .i64 z) rfl
 have p3 : w1.cell? ⟨w.heap.size, 3, none⟩ = some (.int .i64 u) := by simpa using P1 3 (.int .i64 u) rfl
 obtain ⟨x0, x1, x2, x3, x4⟩ := row5 X1
 cases e1 : qz18 x y z u A
 case false =>
  have hv : Hid (fitB x y z u A me h clk = false) := by show _ = _; simp [fitB, e1]
  go_wp2_with (first | (go_at_call 61; refine (qze _ _ _ _).mono ?_; rintro e w' ⟨rfl, hw⟩; obtain rfl := hw.symm) | (go_at_call 62; refine (qz11 _ _).mono ?_; rintro e w' ⟨rfl, hw⟩; obtain rfl := hw.symm))
  go_ret
  exact ⟨by rw [hv.out]; rfl, K1⟩
 go_wp2_with (refine qz12 ?hw1 32 (.tmp 8) rfl (w.heap.size + 1 + 1) 0 ?hx1 (hdC h) _ ?hc1 Tryz.underlying32 rfl (qz1 h) ?_)
 try (case hw1 => first | rfl | kernel_rfl)
 try (case hx1 => rfl)
 try (case hc1 => exact H1)
 refine (qz4s x y z u h _).mono ?_
 clear p0 p1 p2 p3 x0 x1 x2 x3 x4
 rintro e w2 ⟨rfl, b1⟩
 have P2 := qz0 P1 b1 (by omega)
 have X2 := qz0 X1 b1 (by omega)
 have H2 := qz0 H1 b1 (by omega)
 have K2 := K1.trans (b1.mono (by omega))
 have I2 := I1.below (b1.mono hB1)
 have hz2 := Nat.lt_of_lt_of_le hz1 b1.size
 have hB2 := Nat.le_trans hB1 b1.size
 clear P1 X1 H1 K1 I1 hz1 hB1 b1
 have p0 : w2.cell? ⟨w.heap.size, 0, none⟩ = some (.int .i64 x) := by simpa using P2 0 (.int .i64 x) rfl
 have p1 : w2.cell? ⟨w.heap.size, 1, none⟩ = some (.int .i64 y) := by simpa using P2 1 (.int .i64 y) rfl
 have p2 : w2.cell? ⟨w.heap.size, 2, none⟩ = some (.int .i64 z) := by simpa using P2 2 (.int .i64 z) rfl
 have p3 : w2.cell? ⟨w.heap.size, 3, none⟩ = some (.int .i64 u) := by simpa using P2 3 (.int .i64 u) rfl
 obtain ⟨x0, x1, x2, x3, x4⟩ := row5 X2
 cases e2 : qz3g x y z u h
 case false =>
  have hv : Hid (fitB x y z u A me h clk = false) := by show _ = _; simp [fitB, e1, e2]
  go_wp2_with (first | (go_at_call 61; refine (qze _ _ _ _).mono ?_; rintro e w' ⟨rfl, hw⟩; obtain rfl := hw.symm) | (go_at_call 62; refine (qz11 _ _).mono ?_; rintro e w' ⟨rfl, hw⟩; obtain rfl := hw.symm))
  go_ret
  exact ⟨by rw [hv.out]; rfl, K2⟩
 have hpl := qz91 e2
 cases e3 : inB me 0 (x - 1)
 case false =>
  have hv : Hid (fitB x y z u A me h clk = false) := by show _ = _; simp [fitB, e1, e2, e3]
  go_wp2_with (first | (go_at_call 61; refine (qze _ _ _ _).mono ?_; rintro e w' ⟨rfl, hw⟩; obtain rfl := hw.symm) | (go_at_call 62; refine (qz11 _ _).mono ?_; rintro e w' ⟨rfl, hw⟩; obtain rfl := hw.symm))
  go_ret
  exact ⟨by rw [hv.out]; rfl, K2⟩
 cases e4 : inB clk 0 20000
 case false =>
  have hv : Hid (fitB x y z u A me h clk = false) := by show _ = _; simp [fitB, e1, e2, e3, e4]
  go_wp2_with (first | (go_at_call 61; refine (qze _ _ _ _).mono ?_; rintro e w' ⟨rfl, hw⟩; obtain rfl := hw.symm) | (go_at_call 62; refine (qz11 _ _).mono ?_; rintro e w' ⟨rfl, hw⟩; obtain rfl := hw.symm))
  go_ret
  exact ⟨by rw [hv.out]; rfl, K2⟩
 go_wp2_with (first | (go_at_call 61; refine (qze _ _ _ _).mono ?_; rintro e w' ⟨rfl, hw⟩; obtain rfl := hw.symm) | (go_at_call 62; refine (qz11 _ _).mono ?_; rintro e w' ⟨rfl, hw⟩; obtain rfl := hw.symm) | (refine qz12 ?hw2 32 (.tmp 8) rfl (w.heap.size + 1 + 1) 0 ?hx2 (hdC h) _ ?hc2 Tryz.underlying32 rfl (qz1 h) ?_))
 try (case hw2 => first | rfl | kernel_rfl)
 try (case hx2 => rfl)
 try (case hc2 => exact H2)
 refine (qz7l A h a0 a1 a2 a3 c0 c1 c2 c3 _ hA').mono ?_
 clear p0 p1 p2 p3 x0 x1 x2 x3 x4
 rintro e w3 ⟨rfl, b2⟩
 have P3 := qz0 P2 b2 (by omega)
 have X3 := qz0 X2 b2 (by omega)
 have H3 := qz0 H2 b2 (by omega)
 have K3 := K2.trans (b2.mono (by omega))
 have I3 := I2.below (b2.mono hB2)
 have hz3 := Nat.lt_of_lt_of_le hz2 b2.size
 have hB3 := Nat.le_trans hB2 b2.size
 clear P2 X2 H2 K2 I2 hz2 hB2 b2
 have hv : Hid (fitB x y z u A me h clk = qz25 A h) := by show _ = _; simp [fitB, e1, e2, e3, e4]
 go_wp2_with fail
 go_ret
 exact ⟨by rw [hv.out]; rfl, K3⟩
end
section
attribute [local go_sem ↓] Go.wp_at_zero Go.wp_at_succ
def qz1n (x y z u : Int) (A : Ar) (h : Hd) (n : Int) : Bool := fitB x y z u A 0 h 0 && inB n (-1) ((A.nodes.length : Int) - 1)
def qz2a (x y z u : Int) (A : Ar) (h : Hd) (n : Int) : Hd := if qz1n x y z u A h n then qz2s A h n else qz37
def qz30 (x y z u : Int) (A : Ar) (h : Hd) : Bool := fitB x y z u A 0 h 0 && qz24 A h.ver
def qz3v (x y z u : Int) (A : Ar) (h : Hd) : Hd := if qz30 x y z u A h then onH A h else qz37
structure qzfv (x y z u : Int) (A : Ar) (h : Hd) : Prop where
 ok : qz18 x y z u A = true
 ho : qz3g x y z u h = true
 x0 : 0 <= h.x_
 x1 : h.x_ < (A.nodes.length : Int)
 c0 : -1 <= h.curr
 c1 : h.curr < (A.nodes.length : Int)
 n0 : -1 <= h.new_
 v0 : 0 <= h.ver
 v1 : h.ver < (A.vers.length : Int)
 o0 : 0 <= h.out
 o1 : h.out <= 1000000
 s0 : 0 <= h.sum
 s1 : h.sum <= 1000000
 t0 : 0 <= h.then_
 t1 : h.then_ <= 7
 m0 : 0 <= h.cam
theorem qzdo {x y z u : Int} {A : Ar} {me : Int} {h : Hd} {clk : Int} (e : fitB x y z u A me h clk = true) : qzfv x y z u A h := by
 unfold fitB at e
 simp only [Bool.and_eq_true] at e
 obtain ⟨⟨⟨⟨e1, e2⟩, _⟩, _⟩, e5⟩ := e
 have e2' := e2
 unfold qz25 qz4t qz6x at e5
 unfold qz3g qz4e at e2'
 simp only [Bool.and_eq_true, Bool.or_eq_true, beq_iff_eq, qz1a] at e5 e2'
 refine ⟨e1, e2, ?_, ?_, ?_, ?_, ?_, ?_, ?_, ?_, ?_, ?_, ?_, ?_, ?_, ?_⟩ <;> omega
end
section
attribute [local go_sem ↓] Go.wp_at_zero Go.wp_at_succ
theorem qz6m (B : Nat) (A : Ar) (x y z u : Int) (h : Hd) (n : Int) (a0 a1 a2 a3 : Option Addr) (c0 c1 c2 c3 : Nat) (w : World) (hB : B <= w.heap.size) (hA : A.size <= 1048576) (I : qzr B w Q0u Q0s Q0w Q14 A) :
  Calls Tryz.prog 12 #[.agg Q05, .agg Q01, .agg (hdC h).toArray, .int .i64 n] w fun e w' => e = .returned (.tuple #[.agg (hdC (qz2a x y z u A h n)).toArray, .bool (qz1n x y z u A h n)]) /\ Below w.heap.size w w' := by
 have hA' := hA
 unfold Ar.size at hA
 have P0 := World.rangeAt_alloc (World.rangeAt_alloc (World.rangeAt_alloc (qz6 w Q0n 25) (.cells Q01 30)) Q0f) (.cells Q00 32)
 have X0 := World.rangeAt_alloc (World.rangeAt_alloc (qz6 Q3a Q0j 30) Q0f) (.cells Q00 32)
 have H0 := World.rangeAt_alloc (qz6 Q2e (hdC h) 32) (.cells Q00 32)
 have F0 := qz8 ((Q2e).alloc Q0f) Q00 32 22 (by decide)
 have K0 := ((((Below.refl w.heap.size w).alloc (Nat.le_refl _) (.cells Q05 25)).alloc (by simp) (.cells Q01 30)).alloc (by simp; omega) Q0f).alloc (by simp; omega) (.cells Q00 32)
 have hz0 : w.heap.size + 1 + 1 + 1 < (((Q2e).alloc Q0f).alloc (.cells Q00 32)).heap.size := by simp
 simp only [World.size_alloc] at X0 H0 F0
 have I0 := I.below (K0.mono hB)
 go_enter Tryz.func12, Tryz.ntmps12
 go_wp2_with (refine wpList_load_mid rfl 32 (.tmp 6) rfl (w.heap.size + 1 + 1) 0 ?l1 (hdC h) _ ?l2 Tryz.underlying32 rfl (qz1 h) ?_)
 try (case l1 => rfl)
 try (case l2 => exact H0)
 change Calls Tryz.prog _ _ (((Q2e).alloc Q0f).alloc (.cells Q00 32)) _
 generalize hw0 : ((Q2e).alloc Q0f).alloc (.cells Q00 32) = w0 at *
 clear hw0 I
 have hB0 : B <= w0.heap.size := Nat.le_trans hB K0.size
 refine (qz7h B A x y z u 0 h 0 a0 a1 a2 a3 c0 c1 c2 c3 _ hB0 hA' I0).mono ?_
 rintro e w1 ⟨rfl, b0⟩
 have X1 := qz0 X0 b0 (by omega)
 have H1 := qz0 H0 b0 (by omega)
 have F1 := qz2 F0 b0 (by omega)
 have K1 := K0.trans (b0.mono (by omega))
 have I1 := I0.below (b0.mono hB0)
 have hz1 := Nat.lt_of_lt_of_le hz0 b0.size
 have hB1 := Nat.le_trans hB0 b0.size
 clear X0 H0 F0 K0 I0 hz0 hB0 b0
 obtain ⟨x0, x1, x2, x3, x4⟩ := row5 X1
 cases ef : fitB x y z u A 0 h 0
 case false =>
  have hb : qz1n x y z u A h n = false := by simp [qz1n, ef]
  have hq : Hid (qz2a x y z u A h n = qz37 /\ qz1n x y z u A h n = false) := ⟨by rw [qz2a, hb]; rfl, hb⟩
  clear hb
  go_wp2_with (first | (refine wpList_store_mid rfl 32 (.tmp 8) (.tmp 25) rfl Q15 0 (hdC qz37).toArray ?hxn99 ?hyn99 ?htn99 (qz7 qz37) (qzb qz37) ?_))
  try (case hxn99 => rfl)
  try (case hyn99 => rfl)
  case htn99 => exact F1
  refine bodyPost_ret (v := .tuple #[.agg (hdC qz37).toArray, .bool false]) ?_ rfl ⟨by rw [hq.out.1, hq.out.2], ?_⟩
  ·exact qzf Tryz.results12 _ _ Q15 0 rfl (hdC qz37) _ (World.rangeAt_setCells_same _ _ _ _ F1) Tryz.underlying32 rfl (qz1 qz37)
  ·exact Below.setCells (by omega) _ _ _ K1
 have FI := qzdo ef
 by_cases e1 : n = -1
 case pos =>
  have bn : (n != -1) = false := by simp [e1]
  have en : inB n (-1) ((A.nodes.length : Int) - 1) = true := qz52 (by omega) (by have := FI.x0; have := FI.x1; omega)
  have e1H : Hid (n = -1) := e1
  clear e1
  have hb : qz1n x y z u A h n = true := by simp [qz1n, ef, en]
  have hq : Hid (qz2a x y z u A h n = qz2s A h n /\ qz1n x y z u A h n = true) := ⟨by rw [qz2a, hb]; rfl, hb⟩
  clear hb
  go_wp2_with (first | (refine wpList_load_mid rfl 32 (.tmp 6) rfl (w.heap.size + 1 + 1) 0 ?hxln100 (hdC h) _ ?hcn100 Tryz.underlying32 rfl (qz1 h) ?_))
  try (case hxln100 => rfl)
  case hcn100 => exact H1
  refine (qz4b B A h n a0 a1 a2 a3 c0 c1 c2 c3 _ hB1 hA' I1).mono ?_
  rintro e w9 ⟨rfl, b9⟩
  have F9 := qz2 F1 b9 (by omega)
  have K9 := K1.trans (b9.mono (by omega))
  go_wp2_with (refine wpList_store_mid rfl 32 (.tmp 8) (.tmp 29) rfl Q15 0 (hdC (qz2s A h n)).toArray ?hxn100 ?hyn100 ?htn100 (qz7 _) (qzb _) ?_)
  try (case hxn100 => rfl)
  try (case hyn100 => rfl)
  case htn100 => exact F9
  refine bodyPost_ret (v := .tuple #[.agg (hdC (qz2s A h n)).toArray, .bool true]) ?_ rfl ⟨by rw [hq.out.1, hq.out.2], ?_⟩
  ·exact qzf Tryz.results12 _ _ Q15 0 rfl (hdC (qz2s A h n)) _ (World.rangeAt_setCells_same _ _ _ _ F9) Tryz.underlying32 rfl (qz1 _)
  ·exact Below.setCells (by omega) _ _ _ K9
 have bn : (n != -1) = true := by simp [e1]
 go_wp2_with fail
 refine (qz3r _ _ _ _ _ _ _ _ _ (by omega)).mono ?_
 clear x0 x1 x2 x3 x4
 rintro e w2 ⟨rfl, b1⟩
 have X2 := qz0 X1 b1 (by omega)
 have H2 := qz0 H1 b1 (by omega)
 have F2 := qz2 F1 b1 (by omega)
 have K2 := K1.trans (b1.mono (by omega))
 have I2 := I1.below (b1.mono hB1)
 have hz2 := Nat.lt_of_lt_of_le hz1 b1.size
 have hB2 := Nat.le_trans hB1 b1.size
 clear X1 H1 F1 K1 I1 hz1 hB1 b1
 obtain ⟨x0, x1, x2, x3, x4⟩ := row5 X2
 have em : inB n (-1) ((A.nodes.length : Int) - 1) = inB n 0 ((A.nodes.length : Int) - 1) := by
  cases q : inB n 0 ((A.nodes.length : Int) - 1)
  ·have : ¬ (0 <= n /\ n <= (A.nodes.length : Int) - 1) := fun h => by rw [qz52 h.1 h.2] at q; cases q
   exact qz9f (by omega)
  ·obtain ⟨q1, q2⟩ := (qz1a _ _ _).1 q
   exact qz52 (by omega) q2
 cases en : inB n 0 ((A.nodes.length : Int) - 1)
 case false =>
  have hb : qz1n x y z u A h n = false := by simp [qz1n, ef, em, en]
  have hq : Hid (qz2a x y z u A h n = qz37 /\ qz1n x y z u A h n = false) := ⟨by rw [qz2a, hb]; rfl, hb⟩
  clear hb
  go_wp2_with (first | (refine wpList_store_mid rfl 32 (.tmp 8) (.tmp 25) rfl Q15 0 (hdC qz37).toArray ?hxn101 ?hyn101 ?htn101 (qz7 qz37) (qzb qz37) ?_))
  try (case hxn101 => rfl)
  try (case hyn101 => rfl)
  case htn101 => exact F2
  refine bodyPost_ret (v := .tuple #[.agg (hdC qz37).toArray, .bool false]) ?_ rfl ⟨by rw [hq.out.1, hq.out.2], ?_⟩
  ·exact qzf Tryz.results12 _ _ Q15 0 rfl (hdC qz37) _ (World.rangeAt_setCells_same _ _ _ _ F2) Tryz.underlying32 rfl (qz1 qz37)
  ·exact Below.setCells (by omega) _ _ _ K2
 have hb : qz1n x y z u A h n = true := by simp [qz1n, ef, em, en]
 have hq : Hid (qz2a x y z u A h n = qz2s A h n /\ qz1n x y z u A h n = true) := ⟨by rw [qz2a, hb]; rfl, hb⟩
 clear hb
 go_wp2_with (first | (refine wpList_load_mid rfl 32 (.tmp 6) rfl (w.heap.size + 1 + 1) 0 ?hxln102 (hdC h) _ ?hcn102 Tryz.underlying32 rfl (qz1 h) ?_))
 try (case hxln102 => rfl)
 case hcn102 => exact H2
 refine (qz4b B A h n a0 a1 a2 a3 c0 c1 c2 c3 _ hB2 hA' I2).mono ?_
 rintro e w9 ⟨rfl, b9⟩
 have F9 := qz2 F2 b9 (by omega)
 have K9 := K2.trans (b9.mono (by omega))
 go_wp2_with (refine wpList_store_mid rfl 32 (.tmp 8) (.tmp 29) rfl Q15 0 (hdC (qz2s A h n)).toArray ?hxn102 ?hyn102 ?htn102 (qz7 _) (qzb _) ?_)
 try (case hxn102 => rfl)
 try (case hyn102 => rfl)
 case htn102 => exact F9
 refine bodyPost_ret (v := .tuple #[.agg (hdC (qz2s A h n)).toArray, .bool true]) ?_ rfl ⟨by rw [hq.out.1, hq.out.2], ?_⟩
 ·exact qzf Tryz.results12 _ _ Q15 0 rfl (hdC (qz2s A h n)) _ (World.rangeAt_setCells_same _ _ _ _ F9) Tryz.underlying32 rfl (qz1 _)
 ·exact Below.setCells (by omega) _ _ _ K9
theorem qz88 (B : Nat) (A : Ar) (x y z u : Int) (h : Hd) (a0 a1 a2 a3 : Option Addr) (c0 c1 c2 c3 : Nat) (w : World) (hB : B <= w.heap.size) (hA : A.size <= 1048576) (I : qzr B w Q0u Q0s Q0w Q14 A) :
  Calls Tryz.prog 9 #[.agg Q05, .agg Q01, .agg (hdC h).toArray] w fun e w' => e = .returned (.tuple #[.agg (hdC (qz3v x y z u A h)).toArray, .bool (qz30 x y z u A h)]) /\ Below w.heap.size w w' := by
 have hA' := hA
 unfold Ar.size at hA
 have P0 := World.rangeAt_alloc (World.rangeAt_alloc (World.rangeAt_alloc (qz6 w Q0n 25) (.cells Q01 30)) Q0f) (.cells Q00 32)
 have X0 := World.rangeAt_alloc (World.rangeAt_alloc (qz6 Q3a Q0j 30) Q0f) (.cells Q00 32)
 have H0 := World.rangeAt_alloc (qz6 Q2e (hdC h) 32) (.cells Q00 32)
 have F0 := qz8 ((Q2e).alloc Q0f) Q00 32 22 (by decide)
 have K0 := ((((Below.refl w.heap.size w).alloc (Nat.le_refl _) (.cells Q05 25)).alloc (by simp) (.cells Q01 30)).alloc (by simp; omega) Q0f).alloc (by simp; omega) (.cells Q00 32)
 have hz0 : w.heap.size + 1 + 1 + 1 < (((Q2e).alloc Q0f).alloc (.cells Q00 32)).heap.size := by simp
 simp only [World.size_alloc] at X0 H0 F0
 have I0 := I.below (K0.mono hB)
 go_enter Tryz.func9, Tryz.ntmps9
 go_wp2_with (refine wpList_load_mid rfl 32 (.tmp 5) rfl (w.heap.size + 1 + 1) 0 ?l1 (hdC h) _ ?l2 Tryz.underlying32 rfl (qz1 h) ?_)
 try (case l1 => rfl)
 try (case l2 => exact H0)
 change Calls Tryz.prog _ _ (((Q2e).alloc Q0f).alloc (.cells Q00 32)) _
 generalize hw0 : ((Q2e).alloc Q0f).alloc (.cells Q00 32) = w0 at *
 clear hw0 I
 have hB0 : B <= w0.heap.size := Nat.le_trans hB K0.size
 refine (qz7h B A x y z u 0 h 0 a0 a1 a2 a3 c0 c1 c2 c3 _ hB0 hA' I0).mono ?_
 rintro e w1 ⟨rfl, b0⟩
 have X1 := qz0 X0 b0 (by omega)
 have H1 := qz0 H0 b0 (by omega)
 have F1 := qz2 F0 b0 (by omega)
 have K1 := K0.trans (b0.mono (by omega))
 have I1 := I0.below (b0.mono hB0)
 have hz1 := Nat.lt_of_lt_of_le hz0 b0.size
 have hB1 := Nat.le_trans hB0 b0.size
 clear X0 H0 F0 K0 I0 hz0 hB0 b0
 obtain ⟨x0, x1, x2, x3, x4⟩ := row5 X1
 have q11 : w1.cell? ⟨w.heap.size + 1 + 1, 11, none⟩ = some (.int .i64 h.ver) := by simpa using H1 11 (.int .i64 h.ver) rfl
 cases ef : fitB x y z u A 0 h 0
 case false =>
  have hb : qz30 x y z u A h = false := by simp [qz30, ef]
  have hq : Hid (qz3v x y z u A h = qz37 /\ qz30 x y z u A h = false) := ⟨by rw [qz3v, hb]; rfl, hb⟩
  clear hb
  go_wp2_with (first | (refine wpList_store_mid rfl 32 (.tmp 6) (.tmp 20) rfl Q15 0 (hdC qz37).toArray ?hxn103 ?hyn103 ?htn103 (qz7 qz37) (qzb qz37) ?_))
  try (case hxn103 => rfl)
  try (case hyn103 => rfl)
  case htn103 => exact F1
  refine bodyPost_ret (v := .tuple #[.agg (hdC qz37).toArray, .bool false]) ?_ rfl ⟨by rw [hq.out.1, hq.out.2], ?_⟩
  ·exact qzf Tryz.results9 _ _ Q15 0 rfl (hdC qz37) _ (World.rangeAt_setCells_same _ _ _ _ F1) Tryz.underlying32 rfl (qz1 qz37)
  ·exact Below.setCells (by omega) _ _ _ K1
 have FI := qzdo ef
 go_wp2_with fail
 refine (qz1o B A h.ver a0 a1 a2 a3 c0 c1 c2 c3 _ hB1 hA' I1).mono ?_
 clear x0 x1 x2 x3 x4 q11
 rintro e w2 ⟨rfl, b1⟩
 have X2 := qz0 X1 b1 (by omega)
 have H2 := qz0 H1 b1 (by omega)
 have F2 := qz2 F1 b1 (by omega)
 have K2 := K1.trans (b1.mono (by omega))
 have I2 := I1.below (b1.mono hB1)
 have hz2 := Nat.lt_of_lt_of_le hz1 b1.size
 have hB2 := Nat.le_trans hB1 b1.size
 clear X1 H1 F1 K1 I1 hz1 hB1 b1
 obtain ⟨x0, x1, x2, x3, x4⟩ := row5 X2
 cases es : qz24 A h.ver
 case false =>
  have hb : qz30 x y z u A h = false := by simp [qz30, ef, es]
  have hq : Hid (qz3v x y z u A h = qz37 /\ qz30 x y z u A h = false) := ⟨by rw [qz3v, hb]; rfl, hb⟩
  clear hb
  go_wp2_with (first | (refine wpList_store_mid rfl 32 (.tmp 6) (.tmp 20) rfl Q15 0 (hdC qz37).toArray ?hxn104 ?hyn104 ?htn104 (qz7 qz37) (qzb qz37) ?_))
  try (case hxn104 => rfl)
  try (case hyn104 => rfl)
  case htn104 => exact F2
  refine bodyPost_ret (v := .tuple #[.agg (hdC qz37).toArray, .bool false]) ?_ rfl ⟨by rw [hq.out.1, hq.out.2], ?_⟩
  ·exact qzf Tryz.results9 _ _ Q15 0 rfl (hdC qz37) _ (World.rangeAt_setCells_same _ _ _ _ F2) Tryz.underlying32 rfl (qz1 qz37)
  ·exact Below.setCells (by omega) _ _ _ K2
 have hb : qz30 x y z u A h = true := by simp [qz30, ef, es]
 have hq : Hid (qz3v x y z u A h = onH A h /\ qz30 x y z u A h = true) := ⟨by rw [qz3v, hb]; rfl, hb⟩
 clear hb
 go_wp2_with (first | (refine wpList_load_mid rfl 32 (.tmp 5) rfl (w.heap.size + 1 + 1) 0 ?hxln105 (hdC h) _ ?hcn105 Tryz.underlying32 rfl (qz1 h) ?_))
 try (case hxln105 => rfl)
 case hcn105 => exact H2
 refine (qz7p B A h a0 a1 a2 a3 c0 c1 c2 c3 _ hB2 hA' I2 x y z u FI.ok FI.v0 FI.v1 FI.x0 FI.x1 FI.c1 FI.o0 FI.o1 FI.s0 FI.s1).mono ?_
 rintro e w9 ⟨rfl, b9⟩
 have F9 := qz2 F2 b9 (by omega)
 have K9 := K2.trans (b9.mono (by omega))
 go_wp2_with (refine wpList_store_mid rfl 32 (.tmp 6) (.tmp 23) rfl Q15 0 (hdC (onH A h)).toArray ?hxn105 ?hyn105 ?htn105 (qz7 _) (qzb _) ?_)
 try (case hxn105 => rfl)
 try (case hyn105 => rfl)
 case htn105 => exact F9
 refine bodyPost_ret (v := .tuple #[.agg (hdC (onH A h)).toArray, .bool true]) ?_ rfl ⟨by rw [hq.out.1, hq.out.2], ?_⟩
 ·exact qzf Tryz.results9 _ _ Q15 0 rfl (hdC (onH A h)) _ (World.rangeAt_setCells_same _ _ _ _ F9) Tryz.underlying32 rfl (qz1 _)
 ·exact Below.setCells (by omega) _ _ _ K9
end
end Go.Proofs.YtclkglkhhnapiaaGreat
