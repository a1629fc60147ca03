/-
  What the law's proof goes by, part 49.
-/
import Derived.Deep.Cut
import Derived.Laws.StructEq
import Derived.BigQuiet
import Derived.Lib.QuietBelow
import Derived.Test.YthjkdnlmopafkaaGreatDoorFnSwappedCard00
import Derived.Test.YthjkdnlmopafkaaGreatDoorFnSwappedCard02
import Derived.Test.YthjkdnlmopafkaaGreatDoorFnSwappedCard04
import Derived.Test.YthjkdnlmopafkaaGreatDoorFnSwappedCard07
import Derived.Test.YthjkdnlmopafkaaGreatDoorFnSwappedCard11
import Derived.Test.YthjkdnlmopafkaaGreatDoorFnSwappedCard16
import Derived.Test.YthjkdnlmopafkaaGreatDoorFnSwappedCard25
import Derived.Test.YthjkdnlmopafkaaGreatDoorFnSwappedCard42
import Derived.Test.YthjkdnlmopafkaaGreatDoorFnSwappedCard43
namespace Go.Proofs.YthjkdnlmopafkaaGreatDoor
open Go.ChangeShapes Go.WideShapes Go.ChangeAt Go.RowKit
set_option maxRecDepth 100000
set_option maxHeartbeats 16000000
set_option linter.unusedVariables false
set_option linter.unusedSimpArgs false
set_option linter.unnecessarySimpa false
set_option linter.unusedSectionVars false
section
attribute [local go_sem ↓] Go.wp_at_zero Go.wp_at_succ
def qzdu (x y z u : Int) (A : Ar) : Int := if qz10 x y z u A = true then y - Q6q else -1
def qzcn (x y z u : Int) (A : Ar) : Int := if qz10 x y z u A = true then z - Q6r else -1
theorem qza4 {x y z u : Int} {A : Ar} (h : qz10 x y z u A = true) : 1 <= y /\ y <= 60 /\ 1 <= z /\ z <= 400 := by
 obtain ⟨h1, -⟩ := qz1r h
 simp only [qz6r, qz3w, Bool.and_eq_true, qz13, beq_iff_eq] at h1
 omega
theorem qz8o (B : Nat) (A : Ar) (x y z u : Int) (a0 a1 a2 a3 : Option Addr) (c0 c1 c2 c3 : Nat) (w : World) (hB : B <= Q6o) (hA : A.size <= 1048576) (I : qz1j B w Q0x Q0w Q0t Q11 A) :
  Calls Tryz.prog 11 #[.agg Q06, .agg Q02] w fun e w' => e = .returned (.tuple #[.int .i64 (qzdu x y z u A), .int .i64 (qzcn x y z u A)]) /\ Below Q6o w w' := by
 have hA' := hA
 unfold Ar.size at hA
 have P0 := Q7b (qz6 w Q0n 25) (.cells Q02 30)
 have X0 := qz6 Q44 Q0j 30
 have K0 := ((Q6s Q6o w).alloc (Q6v _) (.cells Q06 25)).alloc (by simp) (.cells Q02 30)
 have hz0 : Q6o + 1 < (Q1s).heap.size := by simp
 simp only [World.size_alloc] at X0
 have I0 := I.below (K0.mono hB)
 go_enter Tryz.func11, Tryz.ntmps11
 go_upto_region 1 with fail
 generalize hw0 : (Q44).alloc (.cells Q02 30) = w0 at *
 clear hw0 I
 obtain ⟨x0, x1, x2, x3, x4⟩ := row5 X0
 obtain ⟨p0, p1, p2, p3⟩ : w0.cell? ⟨Q6o, 0, none⟩ = some (.int .i64 x) /\ w0.cell? ⟨Q6o, 1, none⟩ = some (.int .i64 y) /\ w0.cell? ⟨Q6o, 2, none⟩ = some (.int .i64 z) /\ w0.cell? ⟨Q6o, 3, none⟩ = some (.int .i64 u) := ⟨by simpa using P0 0 _ rfl, by simpa using P0 1 _ rfl, by simpa using P0 2 _ rfl, by simpa using P0 3 _ rfl⟩
 go_wp2_with fail
 refine (qz35 B A x y z u a0 a1 a2 a3 c0 c1 c2 c3 w0 (Q77 hB K0.size) hA' I0).mono ?_
 rintro e w1 ⟨rfl, b1⟩
 have P1 := qz0 P0 b1 (by omega)
 have X1 := qz0 X0 b1 (by omega)
 have K1 := K0.trans (b1.mono (by omega))
 clear x0 x1 x2 x3 x4 p0 p1 p2 p3 P0 X0 K0 I0 b1
 cases ea : qz10 x y z u A
 case false =>
  have hq : Hid (qzdu x y z u A = -1 /\ qzcn x y z u A = -1) := ⟨by rw [qzdu, if_neg (by rw [ea]; decide)], by rw [qzcn, if_neg (by rw [ea]; decide)]⟩
  go_wp2
  go_ret2
  exact ⟨by rw [hq.out.1, hq.out.2]; rfl, K1⟩
 case true =>
  have hq : Hid (qzdu x y z u A = y - Q6q /\ qzcn x y z u A = z - Q6r) := ⟨by rw [qzdu, if_pos ea], by rw [qzcn, if_pos ea]⟩
  obtain ⟨s0, s1, s2, s3⟩ := qza4 ea
  have wr1 : IntKind.i64.wrap (y - (Q6q : Int)) = y - (Q6q : Int) := IntWalk.i64_in _ (by omega)
  have wr2 : IntKind.i64.wrap (z - (Q6r : Int)) = z - (Q6r : Int) := IntWalk.i64_in _ (by omega)
  obtain ⟨x0, x1, x2, x3, x4⟩ := row5 X1
  obtain ⟨p0, p1, p2, p3⟩ : w1.cell? ⟨Q6o, 0, none⟩ = some (.int .i64 x) /\ w1.cell? ⟨Q6o, 1, none⟩ = some (.int .i64 y) /\ w1.cell? ⟨Q6o, 2, none⟩ = some (.int .i64 z) /\ w1.cell? ⟨Q6o, 3, none⟩ = some (.int .i64 u) := ⟨by simpa using P1 0 _ rfl, by simpa using P1 1 _ rfl, by simpa using P1 2 _ rfl, by simpa using P1 3 _ rfl⟩
  clear ea
  go_wp2_with fail
  go_quiet (fail)
  have K2 : Below Q6o w (w1.drewN nq) := ⟨K1.os, K1.tape, K1.output, K1.size, K1.block⟩
  go_wp2
  go_ret2
  exact ⟨by rw [hq.out.1, hq.out.2]; rfl, K2⟩
theorem qzdk (B : Nat) (A : Ar) (x y z u : Int) (a0 a1 a2 a3 : Option Addr) (c0 c1 c2 c3 : Nat) (w : World) (hB : B <= Q6o) (hA : A.size <= 1048576) (I : qz1j B w Q0x Q0w Q0t Q11 A) :
  Calls Tryz.prog 10 #[.agg Q06, .agg Q02] w fun e w' => e = .returned (.tuple #[.int .i64 (qzdu x y z u A), .int .i64 (qzcn x y z u A)]) /\ Below Q6o w w' := by
 have hA' := hA
 unfold Ar.size at hA
 have P0 := Q7b (qz6 w Q0n 25) (.cells Q02 30)
 have X0 := qz6 Q44 Q0j 30
 have K0 := ((Q6s Q6o w).alloc (Q6v _) (.cells Q06 25)).alloc (by simp) (.cells Q02 30)
 have hz0 : Q6o + 1 < (Q1s).heap.size := by simp
 simp only [World.size_alloc] at X0
 have I0 := I.below (K0.mono hB)
 go_enter Tryz.func10, Tryz.ntmps10
 go_upto_region 1 with fail
 generalize hw0 : (Q44).alloc (.cells Q02 30) = w0 at *
 clear hw0 I
 obtain ⟨x0, x1, x2, x3, x4⟩ := row5 X0
 obtain ⟨p0, p1, p2, p3⟩ : w0.cell? ⟨Q6o, 0, none⟩ = some (.int .i64 x) /\ w0.cell? ⟨Q6o, 1, none⟩ = some (.int .i64 y) /\ w0.cell? ⟨Q6o, 2, none⟩ = some (.int .i64 z) /\ w0.cell? ⟨Q6o, 3, none⟩ = some (.int .i64 u) := ⟨by simpa using P0 0 _ rfl, by simpa using P0 1 _ rfl, by simpa using P0 2 _ rfl, by simpa using P0 3 _ rfl⟩
 go_wp2_with fail
 refine (qz7w B A x y z u a0 a1 a2 a3 c0 c1 c2 c3 w0 (Q77 hB K0.size) hA' I0).mono ?_
 rintro e w1 ⟨rfl, b1⟩
 have P1 := qz0 P0 b1 (by omega)
 have X1 := qz0 X0 b1 (by omega)
 have K1 := K0.trans (b1.mono (by omega))
 clear x0 x1 x2 x3 x4 p0 p1 p2 p3 P0 X0 K0 I0 b1
 cases ea : qz10 x y z u A
 case false =>
  have hq : Hid (qzdu x y z u A = -1 /\ qzcn x y z u A = -1) := ⟨by rw [qzdu, if_neg (by rw [ea]; decide)], by rw [qzcn, if_neg (by rw [ea]; decide)]⟩
  go_wp2
  go_ret2
  exact ⟨by rw [hq.out.1, hq.out.2]; rfl, K1⟩
 case true =>
  have hq : Hid (qzdu x y z u A = y - Q6q /\ qzcn x y z u A = z - Q6r) := ⟨by rw [qzdu, if_pos ea], by rw [qzcn, if_pos ea]⟩
  obtain ⟨s0, s1, s2, s3⟩ := qza4 ea
  have wr1 : IntKind.i64.wrap (y - (Q6q : Int)) = y - (Q6q : Int) := IntWalk.i64_in _ (by omega)
  have wr2 : IntKind.i64.wrap (z - (Q6r : Int)) = z - (Q6r : Int) := IntWalk.i64_in _ (by omega)
  obtain ⟨x0, x1, x2, x3, x4⟩ := row5 X1
  obtain ⟨p0, p1, p2, p3⟩ : w1.cell? ⟨Q6o, 0, none⟩ = some (.int .i64 x) /\ w1.cell? ⟨Q6o, 1, none⟩ = some (.int .i64 y) /\ w1.cell? ⟨Q6o, 2, none⟩ = some (.int .i64 z) /\ w1.cell? ⟨Q6o, 3, none⟩ = some (.int .i64 u) := ⟨by simpa using P1 0 _ rfl, by simpa using P1 1 _ rfl, by simpa using P1 2 _ rfl, by simpa using P1 3 _ rfl⟩
  clear ea
  go_wp2_with fail
  go_quiet (fail)
  have K2 : Below Q6o w (w1.drewN nq) := ⟨K1.os, K1.tape, K1.output, K1.size, K1.block⟩
  go_wp2
  go_ret2
  exact ⟨by rw [hq.out.1, hq.out.2]; rfl, K2⟩
end
section
theorem qzfl (g : Nd) (w : World) : (Op.equalIn 10000 42 (.agg (ndC g).toArray) (.agg (ndC g).toArray)).run Tryz.prog w = .ok true w := by
 have hS : Tryz.prog.underlying 42 = some (.struct (Tryz.prog.fieldsOf 42)) := by kernel_rfl
 have hp : Tryz.prog.stoodInHeld 42 = false := by kernel_rfl
 rw [show (10000 : Nat) = 9999 + 1 from rfl, run_equalIn_agg w 9999 42 _ _ hS hp]
 simp only [Program.fieldsOf, Tryz.underlying42, ndC]
 go_simp
theorem qzb5 (ev : Operand -> Value) (o : Oper) (x y : Operand) (t' : TypeId) (ho : o.op = .binOp .neq 42 x y t') (g : Nd) (hx : ev x = .agg (ndC g).toArray) (hy : ev y = .agg (ndC g).toArray) (w : World) : (execOp ev o).run Tryz.prog w = .ok (.value (.bool false)) w := by
 have hm : Tryz.prog.eqGuardType Tryz.prog.depth 42 = false := by kernel_rfl
 have h1 := qzfl g w
 simp [execOp, ho, hx, hy, run_eqGuard_agg w .neq 42 x y _ _ hm, run_neq_struct, h1, Result.andThen]
theorem qzgf (g : Vr) (w : World) : (Op.equalIn 10000 40 (.agg (vrC g).toArray) (.agg (vrC g).toArray)).run Tryz.prog w = .ok true w := by
 have hS : Tryz.prog.underlying 40 = some (.struct (Tryz.prog.fieldsOf 40)) := by kernel_rfl
 have hp : Tryz.prog.stoodInHeld 40 = false := by kernel_rfl
 rw [show (10000 : Nat) = 9999 + 1 from rfl, run_equalIn_agg w 9999 40 _ _ hS hp]
 simp only [Program.fieldsOf, Tryz.underlying40, vrC]
 go_simp
theorem qzcp (ev : Operand -> Value) (o : Oper) (x y : Operand) (t' : TypeId) (ho : o.op = .binOp .neq 40 x y t') (g : Vr) (hx : ev x = .agg (vrC g).toArray) (hy : ev y = .agg (vrC g).toArray) (w : World) : (execOp ev o).run Tryz.prog w = .ok (.value (.bool false)) w := by
 have hm : Tryz.prog.eqGuardType Tryz.prog.depth 40 = false := by kernel_rfl
 have h1 := qzgf g w
 simp [execOp, ho, hx, hy, run_eqGuard_agg w .neq 40 x y _ _ hm, run_neq_struct, h1, Result.andThen]
end
section
open Go.ChangeShapes Go.WideShapes Go.ChangeAt Go.RowKit Go.Sort
attribute [local go_sem ↓] Go.wp_at_zero Go.wp_at_succ
theorem qz44 {P : Program} {ops : Array Oper} {C : World -> Prop} {Q : Act -> Prop} {a : Act} {o : Oper} {rest : List Oper} (hwn : Region.wanted o (yielded ops a.tmps) = true) (v : Value) (hv : ∀ w, C w -> (execOp a.eval o).run P w = .ok (.value v) w)
  (h : wpQuiet P ops C Q rest (a.put o.dst v)) : wpQuiet P ops C Q (o :: rest) a := by
 refine wpQuiet_step fun K hK => ?_
 rw [if_pos hwn]
 refine ⟨v, fun w hw => ?_, hK _ h⟩
 unfold Oper.quietAt
 rw [hv w hw]
 exact ⟨rfl, rfl⟩
end
section
open Go.ChangeShapes Go.WideShapes Go.ChangeAt Go.RowKit Go.Sort
attribute [local go_sem ↓] Go.wp_at_zero Go.wp_at_succ
theorem qz6v (B : Nat) (v1 v2 : Value) (l : List Int) (w : World) (hB : B <= Q6o) (hl : l.length <= 1048576) (S1 : qzu B w v1 l.length (qz8 intC l)) (S2 : qzu B w v2 l.length (qz8 intC l)) :
  Calls Tryz.prog 40 #[v1, v2] w fun e w' => e = .returned (.bool true) /\ Below Q6o w w' := by
 obtain ⟨a1, cap1, rfl, h1⟩ := S1
 obtain ⟨a2, cap2, rfl, h2⟩ := S2
 go_enter Tryz.func40, Tryz.ntmps40
 go_wp2
 go_loopw [5] (fun i wr => ∃ k : Nat, k <= l.length /\ i = .int .i64 k /\ Below Q6o w wr) (fun i _ => l.length - (intOf i).toNat)
 case atStart => exact ⟨0, Nat.zero_le _, rfl, Q6s _ _⟩
 case round =>
  obtain ⟨k, hk, rfl, bel⟩ := hrel
  by_cases hlt : k < l.length
  ·rcases h1 with h0 | ⟨b1, o1, rfl, hb1, R1⟩
   ·omega
   rcases h2 with h0 | ⟨b2, o2, rfl, hb2, R2⟩
   ·omega
   have hc1 := (qz0 R1 (bel.mono hB) hb1) k (.int .i64 l[k]) (by have := qzy (f := intC) (sz := 1) (fun _ => rfl) l k hlt 0 (by omega); simpa [intC] using this)
   have hc2 := (qz0 R2 (bel.mono hB) hb2) k (.int .i64 l[k]) (by have := qzy (f := intC) (sz := 1) (fun _ => rfl) l k hlt 0 (by omega); simpa [intC] using this)
   clear R1 R2
   generalize l[k] = x at *
   have hlt' : (k : Int) < (l.length : Int) := by omega
   go_wp2
   go_quiet (fail)
   go_wp2
   go_roundw
   case rel => exact ⟨k + 1, by omega, by go_num, qz41 bel _⟩
   case measure => simp [intOf]; omega
  ·go_wp2
   go_ret
   exact ⟨rfl, bel⟩
theorem qz4y (B : Nat) (A : Ar) (s1 g1 n1 r1 s2 g2 n2 r2 : Value) (w : World) (hB : B <= Q6o) (hA : A.size <= 1048576) (I1 : qz1j B w s1 g1 n1 r1 A) (I2 : qz1j B w s2 g2 n2 r2 A) :
  Calls Tryz.prog 9 #[.agg #[.int .i64 Q6w, s1, g1, n1, r1], .agg #[.int .i64 Q6w, s2, g2, n2, r2]] w fun e w' => e = .returned (.bool true) /\ Below Q6o w w' := by
 unfold Ar.size at hA
 have X0 := Q7b (qz6 w [.int .i64 Q6w, s1, g1, n1, r1] 30) Q5q
 have Y0 : World.rangeAt ((w.alloc Q5r).alloc Q5q) (Q6o + 1) 0 [.int .i64 Q6w, s2, g2, n2, r2] := by
  have h := qz6 (w.alloc Q5r) [.int .i64 Q6w, s2, g2, n2, r2] 30
  simp only [World.size_alloc] at h
  exact h
 have K0 := ((Q6s Q6o w).alloc (Q6v _) Q5r).alloc (by simp) Q5q
 have hz0 : Q6o + 1 < ((w.alloc Q5r).alloc Q5q).heap.size := by simp
 have J0 := I1.below (K0.mono hB)
 have L0 := I2.below (K0.mono hB)
 clear I1 I2
 go_enter Tryz.func9, Tryz.ntmps9
 go_wp2_with fail
 refine (qz6v B s1 s2 A.slots _ (by have := hz0; omega) (by omega) J0.s L0.s).mono ?_
 rintro e w1 ⟨rfl, b1⟩
 have K1 := K0.trans (b1.mono (by have := hz0; omega))
 have X1 := qz0 X0 b1 (by have := hz0; omega)
 have Y1 := qz0 Y0 b1 (by have := hz0; omega)
 have J1 := J0.below (b1.mono (by have := hz0; omega))
 have L1 := L0.below (b1.mono (by have := hz0; omega))
 have hz1 := Q72 hz0 b1.size
 have c1 := X1 2 g1 rfl
 have c2 := Y1 2 g2 rfl
 simp only [Nat.zero_add] at c1 c2
 clear X0 Y0 J0 L0 K0 b1
 go_wp2_with fail
 clear c1 c2
 refine (qz6v B g1 g2 A.guides _ (by have := hz1; omega) (by omega) J1.g L1.g).mono ?_
 rintro e w2 ⟨rfl, b2⟩
 have K2 := K1.trans (b2.mono (by have := hz1; omega))
 have X2 := qz0 X1 b2 (by have := hz1; omega)
 have Y2 := qz0 Y1 b2 (by have := hz1; omega)
 have J2 := J1.below (b2.mono (by have := hz1; omega))
 have L2 := L1.below (b2.mono (by have := hz1; omega))
 have hz2 := Q72 hz1 b2.size
 clear X1 Y1 J1 L1 K1 b2
 obtain ⟨an1, cn1, rfl, N1⟩ := id J2.n
 obtain ⟨an2, cn2, rfl, N2⟩ := id L2.n
 obtain ⟨ar1, cr1, rfl, R1⟩ := id J2.r
 obtain ⟨ar2, cr2, rfl, R2⟩ := id L2.r
 have c3 := X2 3 _ rfl
 have d3 := Y2 3 _ rfl
 have c4 := X2 4 _ rfl
 have d4 := Y2 4 _ rfl
 simp only [Nat.zero_add] at c3 c4 d3 d4
 go_wp2_with fail
 clear c3 c4 d3 d4
 have hz3 := K2.size
 go_loopw [5] (fun q wr => ∃ k : Nat, k <= Q6q /\ q = .int .i64 k /\ Below Q78 w2 wr) (fun q _ => Q6q - (intOf q).toNat)
 case atStart => exact ⟨0, Nat.zero_le _, rfl, Q6s _ _⟩
 case round =>
  obtain ⟨k, hk, rfl, bel2⟩ := hrel
  have hsz2 := bel2.size
  have XW := qz0 X2 bel2 (by omega)
  have YW := qz0 Y2 bel2 (by omega)
  have KW : Below Q78 w2 wr := bel2
  have c3 : wr.cell? ⟨Q6o, 3, none⟩ = some (.slice an1 Q6q cn1) := by simpa using XW 3 _ rfl
  by_cases hlt : k < Q6q
  ·rcases N1 with h0 | ⟨b1, o1, rfl, hb1, R1⟩
   ·omega
   rcases N2 with h0 | ⟨b2, o2, rfl, hb2, R2⟩
   ·omega
   have E1 := qzi (f := ndC) (sz := 3) (fun _ => rfl) (qz0 R1 KW (by omega)) k hlt
   have E2 := qzi (f := ndC) (sz := 3) (fun _ => rfl) (qz0 R2 KW (by omega)) k hlt
   have hlt' : (k : Int) < (Q6q : Int) := by omega
   have hk0 : (0 : Int) <= (k : Int) := by omega
   have y3 : ∀ (dq : Nat) (os : Array Obj), (grow (redrawn wr dq) os).cell? ⟨Q6o, 3, none⟩ = some (.slice (some ⟨b1, o1, none⟩) Q6q cn1) := fun dq os => cell_regrown (by simpa using XW 3 _ rfl) dq os
   have z3 : ∀ (dq : Nat) (os : Array Obj), (grow (redrawn wr dq) os).cell? ⟨Q6o + 1, 3, none⟩ = some (.slice (some ⟨b2, o2, none⟩) Q6q cn2) := fun dq os => cell_regrown (by simpa using YW 3 _ rfl) dq os
   generalize A.nodes[k] = x at *
   have hb1' : b1 < wr.heap.size := by omega
   have hb2' : b2 < wr.heap.size := by omega
   clear R1 R2 XW YW
   go_wp2
   refine wp_region_quiet_below (by kernel_rfl) (by kernel_rfl) ?_
   iterate 4 (go_big_quiet_step (fail))
   refine qz16 rfl 42 (.tmp 56) rfl b1 (o1 + k * 3) rfl (ndC x) _ (fun w' hw' => by obtain ⟨⟨dq, os⟩, rfl⟩ := hw'; exact qz0 E1 (below_regrown wr dq os) (by omega)) Tryz.underlying42 rfl ?g2a ?_
   case g2a => rfl
   simp only [Act.put, List.setIfInBounds_toArray, List.set_cons_succ, List.set_cons_zero]
   iterate 4 (go_big_quiet_step (fail))
   refine qz16 rfl 42 (.tmp 61) rfl b2 (o2 + k * 3) rfl (ndC x) _ (fun w' hw' => by obtain ⟨⟨dq, os⟩, rfl⟩ := hw'; exact qz0 E2 (below_regrown wr dq os) (by omega)) Tryz.underlying42 rfl ?g2b ?_
   case g2b => rfl
   refine qz44 (by first | rfl | kernel_rfl) (.bool false) (fun w' _ => qzb5 _ _ (.tmp 57) (.tmp 62) _ rfl x rfl rfl w') ?_
   simp only [Act.put, List.setIfInBounds_toArray, List.set_cons_succ, List.set_cons_zero]
   refine wpQuiet_nil ?_
   intro _ hw'
   obtain ⟨⟨dq, osq⟩, hw''⟩ := hw'
   subst hw''
   have bq := below_regrown wr dq osq
   go_wp2
   go_roundw
   case rel => exact ⟨k + 1, by omega, by go_num, bel2.trans (bq.mono hsz2)⟩
   case measure => simp [intOf]; omega
  ·have c4 : wr.cell? ⟨Q6o, 4, none⟩ = some (.slice ar1 Q6r cr1) := by simpa using XW 4 _ rfl
   have X3 := XW
   have Y3 := YW
   clear KW XW YW
   obtain ⟨w3, hw3⟩ : ∃ v, v = wr := ⟨_, rfl⟩
   subst hw3
   go_wp2
   go_loopw [6] (fun q wr => ∃ k : Nat, k <= Q6r /\ q = .int .i64 k /\ Below w3.heap.size w3 wr) (fun q _ => Q6r - (intOf q).toNat)
   case atStart => exact ⟨0, Nat.zero_le _, rfl, Q6s _ _⟩
   case round =>
    obtain ⟨k, hk, rfl, bel3⟩ := hrel
    have hsz3 := bel3.size
    have XW := qz0 X3 bel3 (by omega)
    have YW := qz0 Y3 bel3 (by omega)
    have KW : Below Q78 w2 wr := bel2.trans (bel3.mono hsz2)
    have c3 : wr.cell? ⟨Q6o, 4, none⟩ = some (.slice ar1 Q6r cr1) := by simpa using XW 4 _ rfl
    by_cases hlt : k < Q6r
    ·rcases R1 with h0 | ⟨b1, o1, rfl, hb1, R1⟩
     ·omega
     rcases R2 with h0 | ⟨b2, o2, rfl, hb2, R2⟩
     ·omega
     have E1 := qzi (f := vrC) (sz := 5) (fun _ => rfl) (qz0 R1 KW (by omega)) k hlt
     have E2 := qzi (f := vrC) (sz := 5) (fun _ => rfl) (qz0 R2 KW (by omega)) k hlt
     have hlt' : (k : Int) < (Q6r : Int) := by omega
     have hk0 : (0 : Int) <= (k : Int) := by omega
     have y3 : ∀ (dq : Nat) (os : Array Obj), (grow (redrawn wr dq) os).cell? ⟨Q6o, 4, none⟩ = some (.slice (some ⟨b1, o1, none⟩) Q6r cr1) := fun dq os => cell_regrown (by simpa using XW 4 _ rfl) dq os
     have z3 : ∀ (dq : Nat) (os : Array Obj), (grow (redrawn wr dq) os).cell? ⟨Q6o + 1, 4, none⟩ = some (.slice (some ⟨b2, o2, none⟩) Q6r cr2) := fun dq os => cell_regrown (by simpa using YW 4 _ rfl) dq os
     generalize A.vers[k] = x at *
     have hb1' : b1 < wr.heap.size := by omega
     have hb2' : b2 < wr.heap.size := by omega
     clear R1 R2 XW YW
     go_wp2
     refine wp_region_quiet_below (by kernel_rfl) (by kernel_rfl) ?_
     iterate 4 (go_big_quiet_step (fail))
     refine qz16 rfl 40 (.tmp 74) rfl b1 (o1 + k * 5) rfl (vrC x) _ (fun w' hw' => by obtain ⟨⟨dq, os⟩, rfl⟩ := hw'; exact qz0 E1 (below_regrown wr dq os) (by omega)) Tryz.underlying40 rfl ?g3a ?_
     case g3a => rfl
     simp only [Act.put, List.setIfInBounds_toArray, List.set_cons_succ, List.set_cons_zero]
     iterate 4 (go_big_quiet_step (fail))
     refine qz16 rfl 40 (.tmp 79) rfl b2 (o2 + k * 5) rfl (vrC x) _ (fun w' hw' => by obtain ⟨⟨dq, os⟩, rfl⟩ := hw'; exact qz0 E2 (below_regrown wr dq os) (by omega)) Tryz.underlying40 rfl ?g3b ?_
     case g3b => rfl
     refine qz44 (by first | rfl | kernel_rfl) (.bool false) (fun w' _ => qzcp _ _ (.tmp 75) (.tmp 80) _ rfl x rfl rfl w') ?_
     simp only [Act.put, List.setIfInBounds_toArray, List.set_cons_succ, List.set_cons_zero]
     refine wpQuiet_nil ?_
     intro _ hw'
     obtain ⟨⟨dq, osq⟩, hw''⟩ := hw'
     subst hw''
     have bq := below_regrown wr dq osq
     go_wp2
     go_roundw
     case rel => exact ⟨k + 1, by omega, by go_num, bel3.trans (bq.mono hsz3)⟩
     case measure => simp [intOf]; omega
    ·go_wp2
     go_ret
     exact ⟨rfl, K2.trans (KW.mono (by omega))⟩
end
end Go.Proofs.YthjkdnlmopafkaaGreatDoor
