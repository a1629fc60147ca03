/-
  What the law's proof goes by, part 55.
-/
import Derived.Lib.QuietBelow
import Derived.BigQuiet
import Derived.Deep.Cut
import Derived.Test.YthjkdnlmopafkaaGreatFnSealed00
import Derived.Test.YthjkdnlmopafkaaGreatFnSealed02
import Derived.Test.YthjkdnlmopafkaaGreatFnSealed05
import Derived.Test.YthjkdnlmopafkaaGreatFnSealed11
import Derived.Test.YthjkdnlmopafkaaGreatFnSealed19
import Derived.Test.YthjkdnlmopafkaaGreatFnSealed41
import Derived.Test.YthjkdnlmopafkaaGreatFnSealed50
import Derived.Test.YthjkdnlmopafkaaGreatFnSealed53
namespace Go.Proofs.YthjkdnlmopafkaaGreat
open Go.ChangeShapes Go.WideShapes Go.ChangeAt Go.RowKit
set_option maxRecDepth 100000
set_option maxHeartbeats 16000000
set_option linter.unusedVariables false
set_option linter.unusedSimpArgs false
set_option linter.unnecessarySimpa false
set_option linter.unusedSectionVars false
section
theorem qzg4 (g : Nd) (w : World) : (Op.equalIn 10000 99 (.agg (ndC g).toArray) (.agg (ndC g).toArray)).run Tryz.prog w = .ok true w := by
 have hS : Tryz.prog.underlying 99 = some (.struct (Tryz.prog.fieldsOf 99)) := by kernel_rfl
 have hp : Tryz.prog.stoodInHeld 99 = false := by kernel_rfl
 rw [show (10000 : Nat) = 9999 + 1 from rfl, run_equalIn_agg w 9999 99 _ _ hS hp]
 simp only [Program.fieldsOf, Tryz.underlying99, ndC]
 go_simp
theorem qzba (ev : Operand -> Value) (o : Oper) (x y : Operand) (t' : TypeId) (ho : o.op = .binOp .neq 99 x y t') (g : Nd) (hx : ev x = .agg (ndC g).toArray) (hy : ev y = .agg (ndC g).toArray) (w : World) : (execOp ev o).run Tryz.prog w = .ok (.value (.bool false)) w := by
 have hm : Tryz.prog.eqGuardType Tryz.prog.depth 99 = false := by kernel_rfl
 have h1 := qzg4 g w
 simp [execOp, ho, hx, hy, run_eqGuard_agg w .neq 99 x y _ _ hm, run_neq_struct, h1, Result.andThen]
theorem qzgp (g : Vr) (w : World) : (Op.equalIn 10000 65 (.agg (vrC g).toArray) (.agg (vrC g).toArray)).run Tryz.prog w = .ok true w := by
 have hS : Tryz.prog.underlying 65 = some (.struct (Tryz.prog.fieldsOf 65)) := by kernel_rfl
 have hp : Tryz.prog.stoodInHeld 65 = false := by kernel_rfl
 rw [show (10000 : Nat) = 9999 + 1 from rfl, run_equalIn_agg w 9999 65 _ _ hS hp]
 simp only [Program.fieldsOf, Tryz.underlying65, vrC]
 go_simp
theorem qz6i (ev : Operand -> Value) (o : Oper) (x y : Operand) (t' : TypeId) (ho : o.op = .binOp .neq 65 x y t') (g : Vr) (hx : ev x = .agg (vrC g).toArray) (hy : ev y = .agg (vrC g).toArray) (w : World) : (execOp ev o).run Tryz.prog w = .ok (.value (.bool false)) w := by
 have hm : Tryz.prog.eqGuardType Tryz.prog.depth 65 = false := by kernel_rfl
 have h1 := qzgp g w
 simp [execOp, ho, hx, hy, run_eqGuard_agg w .neq 65 x y _ _ hm, run_neq_struct, h1, Result.andThen]
theorem qzfw (g : Dd) (w : World) : (Op.equalIn 10000 57 (.agg (ddC g).toArray) (.agg (ddC g).toArray)).run Tryz.prog w = .ok true w := by
 have hS : Tryz.prog.underlying 57 = some (.struct (Tryz.prog.fieldsOf 57)) := by kernel_rfl
 have hp : Tryz.prog.stoodInHeld 57 = false := by kernel_rfl
 rw [show (10000 : Nat) = 9999 + 1 from rfl, run_equalIn_agg w 9999 57 _ _ hS hp]
 simp only [Program.fieldsOf, Tryz.underlying57, ddC]
 go_simp
theorem qz8k (ev : Operand -> Value) (o : Oper) (x y : Operand) (t' : TypeId) (ho : o.op = .binOp .eql 57 x y t') (g : Dd) (hx : ev x = .agg (ddC g).toArray) (hy : ev y = .agg (ddC g).toArray) (w : World) : (execOp ev o).run Tryz.prog w = .ok (.value (.bool true)) w := by
 have hm : Tryz.prog.eqGuardType Tryz.prog.depth 57 = false := by kernel_rfl
 have h1 := qzfw g w
 simp [execOp, ho, hx, hy, run_eqGuard_agg w .eql 57 x y _ _ hm, run_eql_struct, h1, Result.andThen]
end
section
open Go.ChangeShapes Go.WideShapes Go.ChangeAt Go.RowKit Go.Sort
attribute [local go_sem ↓] Go.wp_at_zero Go.wp_at_succ
theorem qz77 (B : Nat) (v1 v2 : Value) (l : List Int) (w : World) (hB : B <= Q7b) (hl : l.length <= 1048576) (S1 : qzq B w v1 l.length (qzf intC l)) (S2 : qzq B w v2 l.length (qzf intC l)) :
  Calls Tryz.prog 13 #[v1, v2] w fun e w' => e = .returned (.bool true) /\ Below Q7b w w' := by
 obtain ⟨a1, cap1, rfl, h1⟩ := S1
 obtain ⟨a2, cap2, rfl, h2⟩ := S2
 go_enter Tryz.func13, Tryz.ntmps13
 go_wp2
 go_loopw [5] (fun i wr => ∃ k : Nat, k <= l.length /\ i = .int .i64 k /\ Below Q7b w wr) (fun i _ => l.length - (intOf i).toNat)
 case atStart => exact ⟨0, Nat.zero_le _, rfl, Q7g _ _⟩
 case round =>
  obtain ⟨k, hk, rfl, bel⟩ := hrel
  by_cases hlt : k < l.length
  ·rcases h1 with h0 | ⟨b1, o1, rfl, hb1, R1⟩
   ·omega
   rcases h2 with h0 | ⟨b2, o2, rfl, hb2, R2⟩
   ·omega
   have hc1 := (qz0 R1 (bel.mono hB) hb1) k (.int .i64 l[k]) (by have := qz1h (f := intC) (sz := 1) (fun _ => rfl) l k hlt 0 (by omega); simpa [intC] using this)
   have hc2 := (qz0 R2 (bel.mono hB) hb2) k (.int .i64 l[k]) (by have := qz1h (f := intC) (sz := 1) (fun _ => rfl) l k hlt 0 (by omega); simpa [intC] using this)
   clear R1 R2
   generalize l[k] = x at *
   have hlt' : (k : Int) < (l.length : Int) := by omega
   go_wp2
   go_quiet (fail)
   go_wp2
   go_roundw
   case rel => exact ⟨k + 1, by omega, by go_num, qz49 bel _⟩
   case measure => simp [intOf]; omega
  ·go_wp2
   go_ret
   exact ⟨rfl, bel⟩
theorem qzae (B : Nat) (A : Ar) (s1 g1 n1 r1 s2 g2 n2 r2 : Value) (w : World) (hB : B <= Q7b) (hA : A.size <= 1048576) (I1 : qzv B w s1 g1 n1 r1 A) (I2 : qzv B w s2 g2 n2 r2 A) :
  Calls Tryz.prog 55 #[.agg #[.int .i64 Q7m, s1, g1, n1, r1], .agg #[.int .i64 Q7m, s2, g2, n2, r2]] w fun e w' => e = .returned (.bool true) /\ Below Q7b w w' := by
 unfold Ar.size at hA
 have X0 := Q7n (qz6 w [.int .i64 Q7m, s1, g1, n1, r1] 33) Q6b
 have Y0 : World.rangeAt ((w.alloc Q6c).alloc Q6b) (Q7b + 1) 0 [.int .i64 Q7m, s2, g2, n2, r2] := by
  have h := qz6 (w.alloc Q6c) [.int .i64 Q7m, s2, g2, n2, r2] 33
  simp only [World.size_alloc] at h
  exact h
 have K0 := ((Q7g Q7b w).alloc (Q7l _) Q6c).alloc (by simp) Q6b
 have hz0 : Q7b + 1 < ((w.alloc Q6c).alloc Q6b).heap.size := by simp
 have J0 := I1.below (K0.mono hB)
 have L0 := I2.below (K0.mono hB)
 clear I1 I2
 go_enter Tryz.func55, Tryz.ntmps55
 go_wp2_with fail
 refine (qz77 B s1 s2 A.slots _ (by have := hz0; omega) (by omega) J0.s L0.s).mono ?_
 rintro e w1 ⟨rfl, b1⟩
 have K1 := K0.trans (b1.mono (by have := hz0; omega))
 have X1 := qz0 X0 b1 (by have := hz0; omega)
 have Y1 := qz0 Y0 b1 (by have := hz0; omega)
 have J1 := J0.below (b1.mono (by have := hz0; omega))
 have L1 := L0.below (b1.mono (by have := hz0; omega))
 have hz1 := Q7o hz0 b1.size
 have c1 := X1 2 g1 rfl
 have c2 := Y1 2 g2 rfl
 simp only [Nat.zero_add] at c1 c2
 clear X0 Y0 J0 L0 K0 b1
 go_wp2_with fail
 clear c1 c2
 refine (qz77 B g1 g2 A.guides _ (by have := hz1; omega) (by omega) J1.g L1.g).mono ?_
 rintro e w2 ⟨rfl, b2⟩
 have K2 := K1.trans (b2.mono (by have := hz1; omega))
 have X2 := qz0 X1 b2 (by have := hz1; omega)
 have Y2 := qz0 Y1 b2 (by have := hz1; omega)
 have J2 := J1.below (b2.mono (by have := hz1; omega))
 have L2 := L1.below (b2.mono (by have := hz1; omega))
 have hz2 := Q7o hz1 b2.size
 clear X1 Y1 J1 L1 K1 b2
 obtain ⟨an1, cn1, rfl, N1⟩ := id J2.n
 obtain ⟨an2, cn2, rfl, N2⟩ := id L2.n
 obtain ⟨ar1, cr1, rfl, R1⟩ := id J2.r
 obtain ⟨ar2, cr2, rfl, R2⟩ := id L2.r
 have c3 := X2 3 _ rfl
 have d3 := Y2 3 _ rfl
 have c4 := X2 4 _ rfl
 have d4 := Y2 4 _ rfl
 simp only [Nat.zero_add] at c3 c4 d3 d4
 go_wp2_with fail
 clear c3 c4 d3 d4
 have hz3 := K2.size
 go_loopw [5] (fun q wr => ∃ k : Nat, k <= Q7f /\ q = .int .i64 k /\ Below Q7x w2 wr) (fun q _ => Q7f - (intOf q).toNat)
 case atStart => exact ⟨0, Nat.zero_le _, rfl, Q7g _ _⟩
 case round =>
  obtain ⟨k, hk, rfl, bel2⟩ := hrel
  have hsz2 := bel2.size
  have XW := qz0 X2 bel2 (by omega)
  have YW := qz0 Y2 bel2 (by omega)
  have KW : Below Q7x w2 wr := bel2
  have c3 : wr.cell? ⟨Q7b, 3, none⟩ = some (.slice an1 Q7f cn1) := by simpa using XW 3 _ rfl
  by_cases hlt : k < Q7f
  ·rcases N1 with h0 | ⟨b1, o1, rfl, hb1, R1⟩
   ·omega
   rcases N2 with h0 | ⟨b2, o2, rfl, hb2, R2⟩
   ·omega
   have E1 := qze (f := ndC) (sz := 3) (fun _ => rfl) (qz0 R1 KW (by omega)) k hlt
   have E2 := qze (f := ndC) (sz := 3) (fun _ => rfl) (qz0 R2 KW (by omega)) k hlt
   have hlt' : (k : Int) < (Q7f : Int) := by omega
   have hk0 : (0 : Int) <= (k : Int) := by omega
   have y3 : ∀ (dq : Nat) (os : Array Obj), (grow (redrawn wr dq) os).cell? ⟨Q7b, 3, none⟩ = some (.slice (some ⟨b1, o1, none⟩) Q7f cn1) := fun dq os => cell_regrown (by simpa using XW 3 _ rfl) dq os
   have z3 : ∀ (dq : Nat) (os : Array Obj), (grow (redrawn wr dq) os).cell? ⟨Q7b + 1, 3, none⟩ = some (.slice (some ⟨b2, o2, none⟩) Q7f cn2) := fun dq os => cell_regrown (by simpa using YW 3 _ rfl) dq os
   generalize A.nodes[k] = x at *
   have hb1' : b1 < wr.heap.size := by omega
   have hb2' : b2 < wr.heap.size := by omega
   clear R1 R2 XW YW
   go_wp2
   refine wp_region_quiet_below (by kernel_rfl) (by kernel_rfl) ?_
   iterate 4 (go_big_quiet_step (fail))
   refine qzw rfl 99 (.tmp 56) rfl b1 (o1 + k * 3) rfl (ndC x) _ (fun w' hw' => by obtain ⟨⟨dq, os⟩, rfl⟩ := hw'; exact qz0 E1 (below_regrown wr dq os) (by omega)) Tryz.underlying99 rfl ?g2a ?_
   case g2a => rfl
   simp only [Act.put, List.setIfInBounds_toArray, List.set_cons_succ, List.set_cons_zero]
   iterate 4 (go_big_quiet_step (fail))
   refine qzw rfl 99 (.tmp 61) rfl b2 (o2 + k * 3) rfl (ndC x) _ (fun w' hw' => by obtain ⟨⟨dq, os⟩, rfl⟩ := hw'; exact qz0 E2 (below_regrown wr dq os) (by omega)) Tryz.underlying99 rfl ?g2b ?_
   case g2b => rfl
   refine qz1j (by first | rfl | kernel_rfl) (.bool false) (fun w' _ => qzba _ _ (.tmp 57) (.tmp 62) _ rfl x rfl rfl w') ?_
   simp only [Act.put, List.setIfInBounds_toArray, List.set_cons_succ, List.set_cons_zero]
   refine wpQuiet_nil ?_
   intro _ hw'
   obtain ⟨⟨dq, osq⟩, hw''⟩ := hw'
   subst hw''
   have bq := below_regrown wr dq osq
   go_wp2
   go_roundw
   case rel => exact ⟨k + 1, by omega, by go_num, bel2.trans (bq.mono hsz2)⟩
   case measure => simp [intOf]; omega
  ·have c4 : wr.cell? ⟨Q7b, 4, none⟩ = some (.slice ar1 Q7h cr1) := by simpa using XW 4 _ rfl
   have X3 := XW
   have Y3 := YW
   clear KW XW YW
   obtain ⟨w3, hw3⟩ : ∃ v, v = wr := ⟨_, rfl⟩
   subst hw3
   go_wp2
   go_loopw [6] (fun q wr => ∃ k : Nat, k <= Q7h /\ q = .int .i64 k /\ Below w3.heap.size w3 wr) (fun q _ => Q7h - (intOf q).toNat)
   case atStart => exact ⟨0, Nat.zero_le _, rfl, Q7g _ _⟩
   case round =>
    obtain ⟨k, hk, rfl, bel3⟩ := hrel
    have hsz3 := bel3.size
    have XW := qz0 X3 bel3 (by omega)
    have YW := qz0 Y3 bel3 (by omega)
    have KW : Below Q7x w2 wr := bel2.trans (bel3.mono hsz2)
    have c3 : wr.cell? ⟨Q7b, 4, none⟩ = some (.slice ar1 Q7h cr1) := by simpa using XW 4 _ rfl
    by_cases hlt : k < Q7h
    ·rcases R1 with h0 | ⟨b1, o1, rfl, hb1, R1⟩
     ·omega
     rcases R2 with h0 | ⟨b2, o2, rfl, hb2, R2⟩
     ·omega
     have E1 := qze (f := vrC) (sz := 5) (fun _ => rfl) (qz0 R1 KW (by omega)) k hlt
     have E2 := qze (f := vrC) (sz := 5) (fun _ => rfl) (qz0 R2 KW (by omega)) k hlt
     have hlt' : (k : Int) < (Q7h : Int) := by omega
     have hk0 : (0 : Int) <= (k : Int) := by omega
     have y3 : ∀ (dq : Nat) (os : Array Obj), (grow (redrawn wr dq) os).cell? ⟨Q7b, 4, none⟩ = some (.slice (some ⟨b1, o1, none⟩) Q7h cr1) := fun dq os => cell_regrown (by simpa using XW 4 _ rfl) dq os
     have z3 : ∀ (dq : Nat) (os : Array Obj), (grow (redrawn wr dq) os).cell? ⟨Q7b + 1, 4, none⟩ = some (.slice (some ⟨b2, o2, none⟩) Q7h cr2) := fun dq os => cell_regrown (by simpa using YW 4 _ rfl) dq os
     generalize A.vers[k] = x at *
     have hb1' : b1 < wr.heap.size := by omega
     have hb2' : b2 < wr.heap.size := by omega
     clear R1 R2 XW YW
     go_wp2
     refine wp_region_quiet_below (by kernel_rfl) (by kernel_rfl) ?_
     iterate 4 (go_big_quiet_step (fail))
     refine qzw rfl 65 (.tmp 74) rfl b1 (o1 + k * 5) rfl (vrC x) _ (fun w' hw' => by obtain ⟨⟨dq, os⟩, rfl⟩ := hw'; exact qz0 E1 (below_regrown wr dq os) (by omega)) Tryz.underlying65 rfl ?g3a ?_
     case g3a => rfl
     simp only [Act.put, List.setIfInBounds_toArray, List.set_cons_succ, List.set_cons_zero]
     iterate 4 (go_big_quiet_step (fail))
     refine qzw rfl 65 (.tmp 79) rfl b2 (o2 + k * 5) rfl (vrC x) _ (fun w' hw' => by obtain ⟨⟨dq, os⟩, rfl⟩ := hw'; exact qz0 E2 (below_regrown wr dq os) (by omega)) Tryz.underlying65 rfl ?g3b ?_
     case g3b => rfl
     refine qz1j (by first | rfl | kernel_rfl) (.bool false) (fun w' _ => qz6i _ _ (.tmp 75) (.tmp 80) _ rfl x rfl rfl w') ?_
     simp only [Act.put, List.setIfInBounds_toArray, List.set_cons_succ, List.set_cons_zero]
     refine wpQuiet_nil ?_
     intro _ hw'
     obtain ⟨⟨dq, osq⟩, hw''⟩ := hw'
     subst hw''
     have bq := below_regrown wr dq osq
     go_wp2
     go_roundw
     case rel => exact ⟨k + 1, by omega, by go_num, bel3.trans (bq.mono hsz3)⟩
     case measure => simp [intOf]; omega
    ·go_wp2
     go_ret
     exact ⟨rfl, K2.trans (KW.mono (by omega))⟩
end
section
attribute [local go_sem ↓] Go.wp_at_zero Go.wp_at_succ
theorem qz4c {P : Program} {ops : Array Oper} {rest : List Oper} {op : Oper} {a : Act} {w : World} {Q : Exit -> Act -> World -> Prop} (hw : Region.wanted op (yielded ops a.tmps) = true) (v : Value)
  (he : (execOp a.eval op).run P w = .ok (.value v) w) (h : wpList P ops Q rest (a.put op.dst v) w) : wpList P ops Q (op :: rest) a w :=
 wpList_step fun K hK => by
  rw [if_pos hw]
  unfold Oper.wp
  rw [he]
  exact hK _ _ h
theorem qzau (B : Nat) (A : Ar) (h : Hd) (d : Dd) (tk : Bool) (s1 g1 n1 r1 s2 g2 n2 r2 : Value) (w : World) (hB : B <= Q7b) (hA : A.size <= 1048576) (I1 : qzv B w s1 g1 n1 r1 A) (I2 : qzv B w s2 g2 n2 r2 A) :
  Calls Tryz.prog 24 #[.agg (qzc Q7m s1 g1 n1 r1 h d tk).toArray, .agg (qzc Q7m s2 g2 n2 r2 h d tk).toArray] w fun e w' => e = .returned (.bool true) /\ Below Q7b w w' := by
 have X0 := Q7n (qz6 w (qzc Q7m s1 g1 n1 r1 h d tk) 59) Q5z
 have Y0 := qz6 (w.alloc Q60) (qzc Q7m s2 g2 n2 r2 h d tk) 59
 have K0 := ((Q7g Q7b w).alloc (Q7l _) Q60).alloc (by simp) Q5z
 have hz0 : Q7b + 1 < ((w.alloc Q60).alloc Q5z).heap.size := by simp
 have J1 := I1.below (K0.mono hB)
 have J2 := I2.below (K0.mono hB)
 simp only [World.size_alloc] at Y0
 go_enter Tryz.func24, Tryz.ntmps24
 go_upto_region 1 with fail
 generalize hw0 : (w.alloc Q60).alloc Q5z = w0 at *
 clear hw0 I1 I2
 obtain ⟨PA, PH, PD, pt⟩ := qzu X0
 obtain ⟨QA, QH, QD, qt⟩ := qzu Y0
 obtain ⟨x0, x1, x2, x3, x4⟩ := row5 PA
 obtain ⟨y0, y1, y2, y3, y4⟩ := row5 QA
 go_wp2_with fail
 refine (qzae B A s1 g1 n1 r1 s2 g2 n2 r2 w0 (Q7u hB K0.size) hA J1 J2).mono ?_
 rintro e w1 ⟨rfl, b1⟩
 have PH1 := qz0 PH b1 (by omega)
 have QH1 := qz0 QH b1 (by omega)
 have PD1 := qz0 PD b1 (by omega)
 have QD1 := qz0 QD b1 (by omega)
 have pt1 := (b1.cell (p := ⟨Q7b, 32, none⟩) (by show Q7b < _; omega)).trans pt
 have qt1 := (b1.cell (p := ⟨Q7b + 1, 32, none⟩) (by show Q7b + 1 < _; omega)).trans qt
 have K1 := K0.trans (b1.mono K0.size)
 clear X0 Y0 PA QA PH QH PD QD pt qt x0 x1 x2 x3 x4 y0 y1 y2 y3 y4 J1 J2 K0 hz0 b1
 go_wp2_with (first | ((refine qz11 ?la0 53 (.tmp 11) rfl (Q7b) 5 ?la1 (hdC h) _ ?la2 Q7d rfl (qz1 h) ?_); all_goals (have tkA : True := trivial)) | (clear tkA; refine qz1q _ ?_))
 try (case la0 => rfl)
 try (case la1 => rfl)
 try (case la2 => exact PH1)
 show wpList _ _ _ _ _ _
 go_wp2_with (first | ((refine qz11 ?lb0 53 (.tmp 13) rfl (Q7b + 1) 5 ?lb1 (hdC h) _ ?lb2 Q7d rfl (qz1 h) ?_); all_goals (have tkB : True := trivial)) | (clear tkB; refine qz1q _ ?_))
 try (case lb0 => rfl)
 try (case lb1 => rfl)
 try (case lb2 => exact QH1)
 show wpList _ _ _ _ _ _
 refine qz4c (by first | rfl | kernel_rfl) (.bool true) (qzbx _ _ (.tmp 12) (.tmp 14) _ rfl h rfl rfl _) ?_
 go_wp2_with (first | ((refine qz11 ?lc0 57 (.tmp 18) rfl (Q7b) 27 ?lc1 (ddC d) _ ?lc2 Tryz.underlying57 rfl (qz3c d) ?_); all_goals (have tkC : True := trivial)) | (clear tkC; refine qz1q _ ?_))
 try (case lc0 => rfl)
 try (case lc1 => rfl)
 try (case lc2 => exact PD1)
 show wpList _ _ _ _ _ _
 go_wp2_with (first | ((refine qz11 ?ld0 57 (.tmp 20) rfl (Q7b + 1) 27 ?ld1 (ddC d) _ ?ld2 Tryz.underlying57 rfl (qz3c d) ?_); all_goals (have tkD : True := trivial)) | (clear tkD; refine qz1q _ ?_))
 try (case ld0 => rfl)
 try (case ld1 => rfl)
 try (case ld2 => exact QD1)
 show wpList _ _ _ _ _ _
 refine qz4c (by first | rfl | kernel_rfl) (.bool true) (qz8k _ _ (.tmp 19) (.tmp 21) _ rfl d rfl rfl _) ?_
 go_wp2_with fail
 go_ret
 exact ⟨by simp, K1⟩
end
section
attribute [local go_sem ↓] Go.wp_at_zero Go.wp_at_succ
theorem qzcf (A : Ar) (h : Hd) (d : Dd) (clk : Int) : (qz1m A h d clk).1.size = A.size := by unfold qz1m; (repeat' split) <;> simp [qz67]
theorem qz96 (x y z u : Int) (A : Ar) (me : Int) (h : Hd) (clk : Int) : (qz35 x y z u A me h clk).1.size <= A.size := by
 unfold qz35
 split
 ·rw [qzcf]; exact Nat.le_refl _
 ·exact Nat.zero_le _
theorem qzga (B : Nat) (A : Ar) (x y z u me : Int) (h : Hd) (clk : Int) (a0 a1 a2 a3 : Option Addr) (c0 c1 c2 c3 : Nat) (w : World) (hB : B <= Q7b) (hA : A.size <= 1048576) (I : qzv B w Q0u Q0s Q0v Q14 A) (lo hi : Int) :
  Calls Tryz.prog 52 #[.agg Q06, .agg Q02, .int .i64 me, .agg (hdC h).toArray, .int .i64 clk, .int .i64 lo, .int .i64 hi] w fun e w' => e = .returned (.bool (fitB x y z u A me h clk && inB h.at_ lo hi)) /\ Below Q7b w w' := by
 have hA' := hA
 unfold Ar.size at hA
 have P0 := Q7n (Q7n (qz6 w Q0q 28) (.cells Q02 33)) Q0d
 have X0 := Q7n (qz6 Q4y Q0j 33) Q0d
 have H0 := qz6 Q2g (hdC h) 53
 have K0 := (((Q7g Q7b w).alloc (Q7l _) (.cells Q06 28)).alloc (by simp) (.cells Q02 33)).alloc (by simp; omega) Q0d
 have hz0 : Q7b + 1 + 1 < ((Q2g).alloc Q0d).heap.size := by simp
 simp only [World.size_alloc] at X0 H0
 have I0 := I.below (K0.mono hB)
 go_enter Tryz.func52, Tryz.ntmps52
 go_upto_region 1 with fail
 generalize hw0 : (Q2g).alloc Q0d = w0 at *
 clear hw0 I
 have hB0 : B <= Q7r := Q7u hB K0.size
 obtain ⟨x0, x1, x2, x3, x4⟩ := row5 X0
 obtain ⟨p0, p1, p2, p3⟩ : w0.cell? ⟨Q7b, 0, none⟩ = some (.int .i64 x) /\ w0.cell? ⟨Q7b, 1, none⟩ = some (.int .i64 y) /\ w0.cell? ⟨Q7b, 2, none⟩ = some (.int .i64 z) /\ w0.cell? ⟨Q7b, 3, none⟩ = some (.int .i64 u) := ⟨by simpa using P0 0 _ rfl, by simpa using P0 1 _ rfl, by simpa using P0 2 _ rfl, by simpa using P0 3 _ rfl⟩
 go_wp2_with (refine Q7j rfl 53 (.tmp 10) rfl (Q7b + 1 + 1) 0 ?lx0 (hdC h) _ ?lc0 Q7d rfl (qz1 h) ?_)
 try (case lx0 => rfl)
 try (case lc0 => exact H0)
 refine (qz8g B A x y z u me h clk a0 a1 a2 a3 c0 c1 c2 c3 _ hB0 hA' I0).mono ?_
 rintro e w1 ⟨rfl, b0⟩
 have H1 := qz0 H0 b0 (by omega)
 have K1 := K0.trans (b0.mono (by omega))
 have q0 : w1.cell? ⟨Q7b + 1 + 1, 0, none⟩ = some (.int .i64 h.at_) := by simpa using H1 0 (.int .i64 h.at_) rfl
 clear P0 X0 H0 K0 I0 hz0 hB0 b0 x0 x1 x2 x3 x4 p0 p1 p2 p3
 cases ef : fitB x y z u A me h clk
 case false =>
  go_wp2
  go_ret
  exact ⟨by simp [ef], K1⟩
 case true =>
  go_wp2_with (go_at_call 63; refine (qzg _ _ _ _).mono ?_; rintro e w' ⟨rfl, hw⟩; obtain rfl := hw.symm)
  go_ret
  exact ⟨by simp [ef], K1⟩
def seaG (lo : Nat) (A : Ar) (h : Hd) (clk : Int) (a0 a1 a2 a3 : Option Addr) (c0 c1 c2 c3 : Nat) : Nat -> Value -> World -> Prop
 | 0, x, _ => x = .agg Q02
 | 1, x, w => ∃ s g n r, x = .agg Q2w /\ qz33 lo w s g n r A
 | 2, x, _ => x = .agg (hdC h).toArray
 | 3, x, w => ∃ s g n r, x = .agg (qzc Q7m s g n r h qz21 false).toArray /\ qz33 lo w s g n r A
 | 4, x, _ => x = .int .i64 clk
 | _, _, _ => True
theorem qzez {lo : Nat} {A : Ar} {h : Hd} {clk : Int} {a0 a1 a2 a3 : Option Addr} {c0 c1 c2 c3 : Nat} (i : Nat) (x : Value) (w w' : World) (hq : seaG lo A h clk a0 a1 a2 a3 c0 c1 c2 c3 i x w) (hb : Below Q7b w w') : seaG lo A h clk a0 a1 a2 a3 c0 c1 c2 c3 i x w' := by
 match i, hq with
 | 0, h | 2, h | 4, h => exact h
 | 1, h | 3, h => obtain ⟨s, g, n, r, e, O⟩ := h; exact ⟨s, g, n, r, e, O.below hb⟩
 | n + 5, h => exact trivial
theorem qz7g (B : Nat) (A : Ar) (x y z u me : Int) (h : Hd) (clk : Int) (a0 a1 a2 a3 : Option Addr) (c0 c1 c2 c3 : Nat) (w : World) (hB : B <= Q7b) (hA : A.size <= 1048576) (I : qzv B w Q0u Q0s Q0v Q14 A) :
  Calls Tryz.prog 23 Q53 w fun e w' => qz87 w (qz35 x y z u A me h clk) (qz1z x y z u A me h clk) e w' := by
 have hA' := hA
 unfold Ar.size at hA
 have P0 := Q7n (Q7n (Q7n (qz6 w Q0q 28) (.cells Q02 33)) Q0d) (.cells Q01 59)
 have X0 := Q7n (Q7n (qz6 Q4y Q0j 33) Q0d) (.cells Q01 59)
 have H0 := Q7n (qz6 Q2g (hdC h) 53) (.cells Q01 59)
 have F0 := qza ((Q2g).alloc Q0d) Q01 59 33 (by decide)
 have K0 := ((((Q7g Q7b w).alloc (Q7l _) (.cells Q06 28)).alloc (by simp) (.cells Q02 33)).alloc (by simp; omega) Q0d).alloc (by simp; omega) (.cells Q01 59)
 have hz0 : Q7b + 1 + 1 + 1 < (((Q2g).alloc Q0d).alloc (.cells Q01 59)).heap.size := by simp
 simp only [World.size_alloc] at X0 H0 F0
 have I0 := I.below (K0.mono hB)
 go_enter Tryz.func23, Tryz.ntmps23
 go_upto_region 1 with fail
 generalize hw0 : ((Q2g).alloc Q0d).alloc (.cells Q01 59) = w0 at *
 clear hw0 I
 have hB0 : B <= Q7r := Q7u hB K0.size
 obtain ⟨x0, x1, x2, x3, x4⟩ := row5 X0
 obtain ⟨p0, p1, p2, p3⟩ : w0.cell? ⟨Q7b, 0, none⟩ = some (.int .i64 x) /\ w0.cell? ⟨Q7b, 1, none⟩ = some (.int .i64 y) /\ w0.cell? ⟨Q7b, 2, none⟩ = some (.int .i64 z) /\ w0.cell? ⟨Q7b, 3, none⟩ = some (.int .i64 u) := ⟨by simpa using P0 0 _ rfl, by simpa using P0 1 _ rfl, by simpa using P0 2 _ rfl, by simpa using P0 3 _ rfl⟩
 go_wp2_with (refine Q7j rfl 53 (.tmp 8) rfl (Q7b + 1 + 1) 0 ?lx0 (hdC h) _ ?lc0 Q7d rfl (qz1 h) ?_)
 try (case lx0 => rfl)
 try (case lc0 => exact H0)
 refine (qzga B A x y z u me h clk a0 a1 a2 a3 c0 c1 c2 c3 _ hB0 hA' I0 2 5).mono ?_
 rintro e w1 ⟨rfl, b0⟩
 have X1 := qz0 X0 b0 (by omega)
 have H1 := qz0 H0 b0 (by omega)
 have F1 := qz2 F0 b0 (by omega)
 have K1 := K0.trans (b0.mono (by omega))
 have I1 := I0.below (b0.mono hB0)
 have hz1 := Q7o hz0 b0.size
 have hB1 := Q7u hB0 b0.size
 clear P0 X0 H0 F0 K0 I0 hz0 hB0 b0 x0 x1 x2 x3 x4 p0 p1 p2 p3
 cases ef : (fitB x y z u A me h clk && inB h.at_ 2 5)
 case false =>
  have hb : Hid (qz1z x y z u A me h clk = false) := ef
  clear ef
  go_wp2_with (refine Q7e rfl 59 (.tmp 10) (.tmp 19) rfl Q18 0 (Q1w).toArray ?hx1 ?hy1 ?ht1 (qzp _ _ _ _ _ _ _ _) Q0w ?_)
  try (case hx1 => rfl)
  try (case hy1 => rfl)
  case ht1 => exact F1
  refine bodyPost_ret (v := .tuple #[.agg (Q1w).toArray, .bool false]) ?_ rfl (by rw [qz5n hb.out, hb.out]; exact qz87.of rfl (qzf9 _ _) (Below.setCells (by omega) _ _ _ K1))
  exact qzk Tryz.results23 _ _ Q18 0 rfl Q1w _ (Q7c _ _ _ _ F1) Q7p rfl (qz8 _ _ _ _ _ _ _ _)
 have ef' := ef
 rw [Bool.and_eq_true] at ef'
 have FI := qzg5 ef'.1
 have hb : Hid (qz1z x y z u A me h clk = true) := ef
 obtain ⟨q0, q1, q2, q3⟩ := qzd8 FI.ok
 clear ef ef'
 go_wp2_with fail
 refine qz1x 5 (by kernel_rfl) (seaG Q7k A h clk a0 a1 a2 a3 c0 c1 c2 c3) (fun _ => false) (by kernel_rfl) (by kernel_rfl) (by kernel_rfl) (by kernel_rfl) (by rfl) (fun i v w w' _ h hb => qzez i v w w' h hb) (fun i v w q hf h hq => by cases hf) ?step ?final
 case step =>
  intro i o hik ho a V hb hnn hd K hK
  have XV := qz0 X1 hb (by omega)
  have HV := qz0 H1 hb (by omega)
  have IV := I1.below (hb.mono hB1)
  have hBV : B <= V.heap.size := Q7u hB1 hb.size
  match i, ho with
  | 0, ho =>
   obtain rfl := Q7i ho
   obtain ⟨x0, x1, x2, x3, x4⟩ := row5 XV
   have e1 : a.eval (.tmp 6) = .pointer (some ⟨Q7b + 1, 0, none⟩) := hnn 6 rfl
   refine qz4 (v := .agg Q02) (w' := V) ?_ (hK _ _ rfl (Q7g _ _) (fun h => by cases h))
   clear XV HV IV
   generalize a.eval = ev at *
   go_simp
  | 1, ho =>
   obtain rfl := Q7i ho
   have e1 : a.eval (.tmp 20) = .agg Q02 := hd ⟨0, .data⟩ (by simp) rfl 20 rfl
   have ef : a.eval (.func 54) = .func (.func 54) #[] #[] := rfl
   refine qz1u (f := 54) (args := #[.agg Q02]) (R := fun v w' => (∃ s g n r, v = .agg Q2w /\ qz33 V.heap.size w' s g n r A) /\ Below V.heap.size V w') ?_ ((qz71 B A a0 a1 a2 a3 c0 c1 c2 c3 V hBV hA' IV q0 q1 q2 q3).mono (fun e w' h => by obtain ⟨s, g, n, r, e1, O, bO⟩ := h; exact ⟨_, e1, ⟨s, g, n, r, rfl, O⟩, bO⟩)) (fun v w' h => hK v w' (by obtain ⟨s, g, n, r, e1, O⟩ := h.1; exact ⟨s, g, n, r, e1, O.lo hb.size⟩) h.2 (fun h => by cases h))
   clear XV HV IV
   generalize a.eval = ev at *
   go_simp
  | 2, ho =>
   obtain rfl := Q7i ho
   exact qz2d 53 (.tmp 8) rfl (Q7b + 1 + 1) 0 (hnn 8 rfl) (hdC h) _ HV Q7d rfl (qz1 h) (hK _ _ rfl (Q7g _ _) (fun h => by cases h))
  | 3, ho =>
   obtain rfl := Q7i ho
   obtain ⟨s, g, n, r, e1, O⟩ := (show ∃ s g n r, a.eval (.tmp 21) = .agg Q2w /\ qz33 Q7k V s g n r A from hd ⟨1, .data⟩ (by simp) rfl 21 rfl)
   have e2 : a.eval (.tmp 22) = .agg (hdC h).toArray := hd ⟨2, .data⟩ (by simp) rfl 22 rfl
   refine qz4 (v := .agg (qzc Q7m s g n r h qz21 false).toArray) (w' := V) ?_ (hK _ _ ⟨s, g, n, r, rfl, O⟩ (Q7g _ _) (fun h => by cases h))
   obtain ⟨_, _, rfl⟩ := qzh O.rs
   obtain ⟨_, _, rfl⟩ := qzh O.rg
   obtain ⟨_, _, rfl⟩ := qzh O.rn
   obtain ⟨_, _, rfl⟩ := qzh O.rr
   clear XV HV IV O
   simp only [hdC] at e2
   simp only [qzc, hdC, ddC, qz21]
   generalize a.eval = ev at *
   go_simp
   try rfl
  | 4, ho =>
   obtain rfl := Q7i ho
   have e1 : a.eval (.tmp 4) = .int .i64 clk := hnn 4 rfl
   refine qz4 (v := .int .i64 clk) (w' := V) ?_ (hK _ _ rfl (Q7g _ _) (fun h => by cases h))
   clear XV HV IV
   generalize a.eval = ev at *
   go_simp
  | n + 5, ho => omega
 case final =>
  intro vs V hb' hG _
  obtain ⟨s, g, n, r, g3, O⟩ := (show ∃ s g n r, vs 3 = .agg (qzc Q7m s g n r h qz21 false).toArray /\ qz33 Q7k V s g n r A from hG 3 (by decide))
  have g4 : vs 4 = .int .i64 clk := hG 4 (by decide)
  have F2 := qz2 F1 hb' (by omega)
  have K2 := K1.trans (hb'.mono (by omega))
  have hs2 := hb'.size
  generalize hl : laid _ vs _ _ _ = A'
  have hA'' : A' = { tmps := #[.agg Q06, .agg Q02, .int .i64 me, .agg (hdC h).toArray, .int .i64 clk, .pointer (some ⟨Q7b, 0, none⟩), .pointer (some ⟨Q7b + 1, 0, none⟩), undef, .pointer (some ⟨Q7b + 1 + 1, 0, none⟩), undef, .pointer (some ⟨Q7b + 1 + 1 + 1, 0, none⟩), .bool false, .agg Q06, .agg Q02, .int .i64 me, .agg (hdC h).toArray, .int .i64 clk, .bool true, .bool false, undef, vs 0, vs 1, vs 2, vs 3, vs 4, undef], defers := [] } := by
   rw [<- hl]
   kernel_rfl
  subst hA''
  rw [g3, g4]
  clear hl hG g3 g4 hb' X1 H1 F1 K1
  simp only [List.drop_succ_cons, List.drop_zero]
  go_wp2_with fail
  refine (qz9q Q7k A h qz21 false clk s g n r V hs2 hA' O x y z u FI.ok FI.v0 FI.v1 FI.x0 FI.x1 FI.c1 FI.o0 FI.o1 FI.s0 FI.s1 FI.m0).mono ?_
  rintro e w3 ⟨s', g', n', r', rfl, E⟩
  have b3 := E.lower O hs2
  have F3 := qz2 F2 b3 (by omega)
  have K3 := K2.trans (b3.mono (by omega))
  have hq : Hid (qz35 x y z u A me h clk = qz1m A h qz21 clk) := qz5a hb.out
  obtain ⟨⟨A9, h9, d9⟩, hso⟩ : ∃ R, Hid (qz1m A h qz21 clk = R) := ⟨_, rfl⟩
  have hcm : Q7m = (qz1m A h qz21 clk).1.camera := (qz5b A h qz21 clk).symm
  rw [hso.out] at hcm
  replace hcm : Hid (Q7m = A9.camera) := hcm
  have EO := E.own
  rw [hso.out] at EO ⊢
  simp only at EO ⊢
  have EL := EO.lt
  clear E O b3 F2 K2
  obtain ⟨p0, k0, rfl⟩ := qzh EO.rs
  obtain ⟨p1, k1, rfl⟩ := qzh EO.rg
  obtain ⟨p2, k2, rfl⟩ := qzh EO.rn
  obtain ⟨p3, k3, rfl⟩ := qzh EO.rr
  rw [hcm.out]
  go_wp2_with (refine Q7e rfl 59 (.tmp 10) (.tmp 25) rfl Q18 0 (Q3w).toArray ?hx5 ?hy5 ?ht5 (qzp _ _ _ _ _ _ _ _) Q0w ?_)
  any_goals (first | exact F3 | exact rfl | kernel_rfl)
  refine bodyPost_ret (v := .tuple #[.agg (Q3w).toArray, .bool true]) ?_ rfl ?_
  ·exact qzk Tryz.results23 _ _ Q18 0 rfl Q3w _ (Q7c _ _ _ _ F3) Q7p rfl (qz8 _ _ _ _ _ _ _ _)
  ·show qz87 w (qz35 x y z u A me h clk) (qz1z x y z u A me h clk) _ _
   rw [hq.out, hso.out, hb.out]
   exact qz87.of rfl ((EO.only (qzi _ _ _ _) (by omega)).lo (by omega)) (Below.setCells (by omega) _ _ _ K3)
end
end Go.Proofs.YthjkdnlmopafkaaGreat
