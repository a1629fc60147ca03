/-
  What the law's proof goes by, part 52.
-/
import Derived.Deep.Cut
import Derived.Test.YthjkdnlmopafkaaGreatFnSealed00
import Derived.Test.YthjkdnlmopafkaaGreatFnSealed18
import Derived.Test.YthjkdnlmopafkaaGreatFnSealed19
import Derived.Test.YthjkdnlmopafkaaGreatFnSealed42
import Derived.Test.YthjkdnlmopafkaaGreatFnSealed43
import Derived.Test.YthjkdnlmopafkaaGreatFnSealed44
import Derived.Test.YthjkdnlmopafkaaGreatFnSealed50
namespace Go.Proofs.YthjkdnlmopafkaaGreat
open Go.ChangeShapes Go.WideShapes Go.ChangeAt Go.RowKit
set_option maxRecDepth 100000
set_option maxHeartbeats 16000000
set_option linter.unusedVariables false
set_option linter.unusedSimpArgs false
set_option linter.unnecessarySimpa false
set_option linter.unusedSectionVars false
section
attribute [local go_sem ↓] Go.wp_at_zero Go.wp_at_succ
structure qzhm (x y z u : Int) (A : Ar) (h : Hd) : Prop where
 ok : qz1a x y z u A = true
 ho : qz3m x y z u h = true
 x0 : 0 <= h.x_
 x1 : h.x_ < (Q7f : Int)
 c0 : -1 <= h.curr
 c1 : h.curr < (Q7f : Int)
 n0 : -1 <= h.new_
 v0 : 0 <= h.ver
 v1 : h.ver < (Q7h : Int)
 o0 : 0 <= h.out
 o1 : h.out <= 1000000
 s0 : 0 <= h.sum
 s1 : h.sum <= 1000000
 t0 : 0 <= h.then_
 t1 : h.then_ <= 7
 m0 : 0 <= h.cam
theorem qzg5 {x y z u : Int} {A : Ar} {me : Int} {h : Hd} {clk : Int} (e : fitB x y z u A me h clk = true) : qzhm x y z u A h := by
 unfold fitB at e
 simp only [Bool.and_eq_true] at e
 obtain ⟨⟨⟨⟨e1, e2⟩, _⟩, _⟩, e5⟩ := e
 have e2' := e2
 unfold qz2e qz56 qz7q at e5
 unfold qz3m qz4p at e2'
 simp only [Bool.and_eq_true, Bool.or_eq_true, beq_iff_eq, qz18] at e5 e2'
 refine ⟨e1, e2, ?_, ?_, ?_, ?_, ?_, ?_, ?_, ?_, ?_, ?_, ?_, ?_, ?_, ?_⟩ <;> omega
end
section
attribute [local go_sem ↓] Go.wp_at_zero Go.wp_at_succ
def qzdq (A : Ar) (h : Hd) : Hd := if qz1v A h.ver = true then onH A h else qz1k h 4
def qz9g (A : Ar) (h : Hd) : Dd := if qz1v A h.ver = true then qz21 else qz3p (qz44 A h) h
def qz6p (A : Ar) (h : Hd) : Ar := if qz1v A h.ver = true then A else qz44 A h
theorem qz9v (base : Nat) (cb : Nat) (s g n r : Value) (ps qs : List Addr) (A : Ar) (h : Hd) (w : World) (hbase : base <= Q7b) (hA : A.size <= 1048576) (C : qz2k base w cb s g n r ps qs A) (x y z u : Int) (hOk : qz1a x y z u A = true) (hv0 : 0 <= h.ver) (hv1 : h.ver < (Q7h : Int)) (hx0 : 0 <= h.x_) (hx1 : h.x_ < (Q7f : Int)) :
  Calls Tryz.prog 49 #[.pointer (some ⟨cb, 0, none⟩), .agg (hdC h).toArray] w fun e w' => e = .returned (.agg (ddC (qz9g A h)).toArray) /\ qz2k base w' cb s g n r ps qs (qz6p A h) /\ Below base w w' /\ But (fun q => ∃ m, Blk w q 65 m) w w' := by
 have hA' := hA
 unfold Ar.size at hA
 have hr0 : 0 < Q7h := by omega
 have H0 := Q7n (qz6 w (hdC h) 53) (.cells Q13 57)
 have D0 := Blk.new (w.alloc Q0d) Q13 57
 have K0 := ((Q7g Q7b w).alloc (Q7l _) Q0d).alloc (by simp) (.cells Q13 57)
 have C0 := C.grown K0
 have hz0 : Q7b + 1 < (Q79).heap.size := by simp
 simp only [World.size_alloc] at H0 D0
 replace D0 : Blk Q79 (Q7b + 1) 57 5 := D0
 obtain ⟨ra, rc, rfl⟩ := qzh C.sr
 obtain ⟨rb, rfl, -, -, -, -⟩ := qz9x C.sr hr0
 obtain ⟨vk, hvk⟩ : ∃ k : Nat, h.ver = k := ⟨h.ver.toNat, by omega⟩
 have hvl : vk < Q7h := by omega
 go_enter Tryz.func49, Tryz.ntmps49
 go_upto_region 1 with fail
 generalize hw0 : (w.alloc Q0d).alloc (.cells Q13 57) = w0 at *
 clear hw0
 obtain ⟨_, e9, -, -, -, RR⟩ := qz9x C0.sr hr0
 cases e9
 obtain ⟨vb, vo, vm, p1, plo, p3, pfit, p5⟩ := C0.vp.at' vk hvl
 have hpc : w0.cell? ⟨rb, vk, none⟩ = some (.pointer (some ⟨vb, vo, none⟩)) := by
  have hkp : vk < qs.length := by rw [C0.vp.len]; exact hvl
  have h1 := (qze (sz := 1) (f := ptrC) (fun _ => rfl) RR vk hkp) 0 (.pointer (some qs[vk])) rfl
  have p1' := p1
  rw [List.getElem?_eq_getElem hkp] at p1'
  rw [Option.some.inj p1'] at h1
  simpa using h1
 obtain ⟨vbm, hvbB⟩ : ∃ m, Blk w vb 65 m := by
  obtain ⟨b', o', m', q1, -, q3, -, -⟩ := C.vp.at' vk hvl
  rw [p1] at q1
  injection q1 with q1
  injection q1 with q1 q2
  subst q1
  exact ⟨m', q3⟩
 have hvbw : vb < Q7b := hvbB.lt
 have hver := qz4f hOk vk hvl
 have hvr : vrOf A h.ver = A.vers[vk] := by rw [hvk, qz2q A vk hvl]
 have hsb : qz1v A h.ver = (A.vers[vk].stamp != -1) := by
  have : inB h.ver 0 ((Q7h : Int) - 1) = true := by rw [qz18]; omega
  simp only [qz1v, this, Bool.true_and, hvr]
 have hvk0 : (0 : Int) <= (vk : Int) := by omega
 have hvk1 : (vk : Int) < (Q7h : Int) := by omega
 obtain ⟨x0, x1, x2, x3, x4⟩ := row5 C0.row
 have q11 : w0.cell? ⟨Q7b, 11, none⟩ = some (.int .i64 h.ver) := by simpa using H0 11 (.int .i64 h.ver) rfl
 have q12 : w0.cell? ⟨Q7b, 12, none⟩ = some (.int .i64 h.cam) := by simpa using H0 12 (.int .i64 h.cam) rfl
 have hvkH : Hid (h.ver = vk) := hvk
 have hvrH : Hid (vrOf A h.ver = A.vers[vk]) := hvr
 have hsbH : Hid (qz1v A h.ver = (A.vers[vk].stamp != -1)) := hsb
 rw [hvk] at q11
 clear RR hvk hvr hsb
 go_quiet (fail)
 have H1 : (w0.drewN nq).rangeAt Q7b 0 (hdC h) := H0
 have D1 : Blk (w0.drewN nq) (Q7b + 1) 57 5 := D0
 have K1 : Below Q7b w (w0.drewN nq) := ⟨K0.os, K0.tape, K0.output, K0.size, K0.block⟩
 have C1 : qz2k base (w0.drewN nq) cb s g n Q05 ps qs A := C0.grown ⟨rfl, rfl, rfl, Q7l _, fun _ _ => rfl⟩
 have R1 : (w0.drewN nq).rangeAt vb vo (vrC A.vers[vk]) := p5
 have B1 : Blk (w0.drewN nq) vb 65 vm := p3
 have y0 : (w0.drewN nq).cell? ⟨cb, 0, none⟩ = some (.int .i64 Q7m) := x0
 have y12 : (w0.drewN nq).cell? ⟨Q7b, 12, none⟩ = some (.int .i64 h.cam) := q12
 have hz1 : Q7b + 1 < (w0.drewN nq).heap.size := hz0
 generalize hw1 : w0.drewN nq = w1 at *
 clear hw1 H0 D0 K0 C0 p3 p5 x0 x1 x2 x3 x4 q11 q12 hz0 hpc
 go_wp2_with fail
 refine (qz64 vb vo A.vers[vk] w1 R1).mono ?_
 rintro e w' ⟨rfl, hw⟩
 obtain rfl := hw.symm
 cases hst : (A.vers[vk].stamp != -1)
 case true =>
  have hdd : Hid (qz9g A h = qz21) := by show _ = _; rw [qz9g, if_pos (by rw [hsbH.out, hst])]
  have hdr : Hid (qz6p A h = A) := by show _ = _; rw [qz6p, if_pos (by rw [hsbH.out, hst])]
  go_wp2_with (refine Q7e rfl 57 (.tmp 4) _ rfl (Q7b + 1) 0 (ddC qz21).toArray ?hx1 ?hy1 ?ht1 (qz3c _) (qz4q _) ?_)
  try (case hx1 => rfl)
  try (case hy1 => rfl)
  case ht1 => exact D1.there 0 5 (by omega)
  refine bodyPost_ret (v := .agg (ddC qz21).toArray) ?_ rfl ⟨by rw [hdd.out], ?_, ?_, ?_⟩
  ·exact qz3 Tryz.results49 _ _ (Q7b + 1) 0 rfl (ddC qz21) _ (Q7c _ _ _ _ (D1.there 0 5 (by omega))) Tryz.underlying57 rfl (qz38 _)
  ·rw [hdr.out]
   exact C.grown (Below.setCells (by omega) _ _ _ K1)
  ·exact (Below.setCells (by omega) _ _ _ K1).mono hbase
  ·exact But.of_below (Below.setCells (by omega) _ _ _ K1)
 case false =>
  have hdd : Hid (qz9g A h = qz3p (qz44 A h) h) := by show _ = _; rw [qz9g, if_neg (by rw [hsbH.out, hst]; decide)]
  have hdr : Hid (qz6p A h = qz44 A h) := by show _ = _; rw [qz6p, if_neg (by rw [hsbH.out, hst]; decide)]
  obtain ⟨st, hstm⟩ : ∃ st : Int, Hid (st = min h.cam Q7m) := ⟨_, rfl⟩
  have hif : (if Q7m < h.cam then Q7m else h.cam) = st := by rw [hstm.out]; omega
  have T1 := B1.there (vo + 2) 1 (by omega)
  obtain ⟨tc, tf⟩ := T1 0 (by omega)
  obtain ⟨uc, huc⟩ := Option.isSome_iff_exists.1 tc
  rw [Nat.add_zero] at huc tf
  go_wp2_with fail
  refine qz1o 10 (by kernel_rfl) (by kernel_rfl) ?_
  simp only [List.take_succ_cons, List.take_zero, List.drop_succ_cons, List.drop_zero]
  repeat (quiet_step (fail))
  refine wpQuiet_nil ?_
  rintro _ ⟨nr, rfl⟩
  have H2 : (w1.drewN nr).rangeAt Q7b 0 (hdC h) := H1
  have D2 : Blk (w1.drewN nr) (Q7b + 1) 57 5 := D1
  have K2 : Below Q7b w (w1.drewN nr) := ⟨K1.os, K1.tape, K1.output, K1.size, K1.block⟩
  have C2 : qz2k base (w1.drewN nr) cb s g n Q05 ps qs A := C1.grown ⟨rfl, rfl, rfl, Q7l _, fun _ _ => rfl⟩
  have uc2 : (w1.drewN nr).cell? ⟨vb, vo + 2, none⟩ = some uc := huc
  have uf2 : (w1.drewN nr).frozen? ⟨vb, vo + 2, none⟩ = false := tf
  have hz2 : Q7b + 1 < (w1.drewN nr).heap.size := hz1
  have hb2 : vb < (w1.drewN nr).heap.size := B1.lt
  generalize hw2 : w1.drewN nr = w2 at *
  clear hw2 H1 D1 K1 C1 R1 B1 huc tf hz1 y0 y12 T1 tc
  have C3 := C2.ver vk hvl vb vo p1 2 (by omega) (.int .i64 st) { A.vers[vk] with stamp := st } (by rfl)
  have O3 : Only vb w2 Q47 := (Only.refl vb w2).setCell (Or.inl rfl) _
  have hne : Q7b ≠ vb := by omega
  have hsA : qz44 A h = { A with vers := A.vers.set vk { A.vers[vk] with stamp := st } } := by rw [qz44, hvrH.out, hvkH.out, hstm.out]; rfl
  have hsM : vrOf (qz44 A h) h.ver = { A.vers[vk] with stamp := st } := by rw [hsA, hvkH.out, qz2q _ vk (by rw [List.length_set]; exact hvl)]; simp
  rw [<- hsA] at C3
  have hAs : (qz44 A h).size <= 1048576 := by rw [qz67]; exact hA'
  have hns : (qz44 A h).nodes.length = Q7f := by rw [hsA]
  have hdm : Hid (qzd4 (qz44 A h) h { A.vers[vk] with stamp := st } = qz3p (qz44 A h) h) := by show _ = _; rw [qzfr, hsM]
  have O3' : But (fun q => ∃ m, Blk w q 65 m) w Q47 := (But.of_below K2).trans (But.of_only O3 ⟨vbm, hvbB⟩)
  have K3 : Below base w Q47 := (K2.mono hbase).trans (O3.below plo (Q7u hbase (by omega)))
  have R3 : (Q47).rangeAt vb vo (vrC { A.vers[vk] with stamp := st }) := by
   obtain ⟨b', o', m', q1, -, -, -, q5⟩ := C3.vp.at' vk (by rw [hsA, List.length_set]; exact hvl)
   rw [p1] at q1
   injection q1 with q1
   injection q1 with q1 q2
   subst q1 q2
   simpa [hsA] using q5
  have H3 : (Q47).rangeAt Q7b 0 (hdC h) := fun j v hv => (O3.cell (p := ⟨Q7b, 0 + j, none⟩) (by show Q7b < _; omega) hne).trans (H2 j v hv)
  have D3 := D2.setCell ⟨vb, vo + 2, none⟩ (.int .i64 st)
  have hz3 : Q7b + 1 < (Q47).heap.size := by rw [World.size_setCell]; exact hz2
  have hb3 : vb < (Q47).heap.size := by rw [World.size_setCell]; exact hb2
  clear O3 hsA
  go_upto_region 5 with fail
  generalize hw3 : w2.setCell ⟨vb, vo + 2, none⟩ (.int .i64 st) = w3 at *
  clear hw3 H2 D2 K2 C2 uc2 uf2 hz2 hb2 hif
  go_wp2_with (refine Q7j rfl 53 (.tmp 3) rfl Q7b 0 ?lx3 (hdC h) _ ?lc3 Q7d rfl (qz1 _) ?_)
  try (case lx3 => rfl)
  try (case lc3 => exact H3)
  refine (qz9i base cb s g n _ ps qs (qz44 A h) { A.vers[vk] with stamp := st } vb vo h w3 (by omega) hAs C3 hb3 R3 (by rw [hns]; exact hver.1) hver.2.2.2.1 hver.2.2.2.2 hx0 (by rw [hns]; exact hx1)).mono ?_
  rintro e w4 ⟨rfl, b4⟩
  have D4 := D3.grown b4
  have C4 := C3.grown b4
  have K4 := K3.trans (b4.mono (by omega))
  rw [hdm.out]
  go_wp2_with (refine Q7e rfl 57 (.tmp 4) _ rfl (Q7b + 1) 0 (ddC (qz3p (qz44 A h) h)).toArray ?hx5 ?hy5 ?ht5 (qz3c _) (qz4q _) ?_)
  try (case hx5 => rfl)
  try (case hy5 => rfl)
  case ht5 => exact D4.there 0 5 (by omega)
  refine bodyPost_ret (v := .agg (ddC (qz3p (qz44 A h) h)).toArray) ?_ rfl ⟨by rw [hdd.out], ?_, ?_, ?_⟩
  ·exact qz3 Tryz.results49 _ _ (Q7b + 1) 0 rfl (ddC (qz3p (qz44 A h) h)) _ (Q7c _ _ _ _ (D4.there 0 5 (by omega))) Tryz.underlying57 rfl (qz38 _)
  ·rw [hdr.out]
   exact C4.aside D4 (by decide) (by decide) (by decide) (by decide) (by decide) (by decide) (qzi (Q7b + 1) (ddC (qz3p (qz44 A h) h)) 0 w4)
  ·exact Below.setCells (by omega) _ _ _ K4
  ·exact (O3'.trans (But.of_below b4)).far (qzi (Q7b + 1) (ddC (qz3p (qz44 A h) h)) 0 w4) (by omega)
theorem qz65 (B : Nat) (A : Ar) (h : Hd) (a0 a1 a2 a3 : Option Addr) (c0 c1 c2 c3 : Nat) (w : World) (hB : B <= Q7b) (hA : A.size <= 1048576) (I : qzv B w Q0u Q0s Q0v Q14 A) (x y z u : Int) (FI : qzhm x y z u A h) :
  Calls Tryz.prog 48 Q4r w fun e w' => e = .returned (.agg (hdC (qzdq A h)).toArray) /\ Below Q7b w w' := by
 have hA' := hA
 unfold Ar.size at hA
 have X0 := Q7n (Q7n (qz6 w Q0j 33) Q0d) (.cells Q00 53)
 have H0 := Q7n (qz6 Q26 (hdC h) 53) (.cells Q00 53)
 have F0 := qza ((Q26).alloc Q0d) Q00 53 22 (by decide)
 have K0 := (((Q7g Q7b w).alloc (Q7l _) (.cells Q02 33)).alloc (by simp) Q0d).alloc (by simp; omega) (.cells Q00 53)
 have hz0 : Q7b + 1 + 1 < (((Q26).alloc Q0d).alloc (.cells Q00 53)).heap.size := by simp
 simp only [World.size_alloc] at H0 F0
 have I0 := I.below (K0.mono hB)
 go_enter Tryz.func48, Tryz.ntmps48
 go_upto_region 1 with fail
 generalize hw0 : ((Q26).alloc Q0d).alloc (.cells Q00 53) = w0 at *
 clear hw0 I
 have hB0 : B <= Q7r := Q7u hB K0.size
 obtain ⟨x0, x1, x2, x3, x4⟩ := row5 X0
 have q11 : w0.cell? ⟨Q7b + 1, 11, none⟩ = some (.int .i64 h.ver) := by simpa using H0 11 (.int .i64 h.ver) rfl
 go_wp2_with fail
 refine (qzc0 B A h.ver a0 a1 a2 a3 c0 c1 c2 c3 w0 hB0 hA' I0).mono ?_
 rintro e w1 ⟨rfl, b1⟩
 have X1 := qz0 X0 b1 (by omega)
 have H1 := qz0 H0 b1 (by omega)
 have F1 := qz2 F0 b1 (by omega)
 have K1 := K0.trans (b1.mono (by omega))
 have I1 := I0.below (b1.mono hB0)
 have hz1 := Q7o hz0 b1.size
 have hB1 := Q7u hB0 b1.size
 clear X0 H0 F0 K0 I0 hz0 hB0 b1 x0 x1 x2 x3 x4 q11
 obtain ⟨x0, x1, x2, x3, x4⟩ := row5 X1
 cases hst : qz1v A h.ver
 case false =>
  have hv : Hid (qzdq A h = qz1k h 4) := by show _ = _; rw [qzdq, if_neg (by rw [hst]; decide)]
  go_wp2_with (refine Q7j rfl 53 (.tmp 3) rfl (Q7b + 1) 0 ?lx1 (hdC h) _ ?lc1 Q7d rfl (qz1 _) ?_)
  try (case lx1 => rfl)
  case lc1 => exact H1
  refine (qz1g h 4 w1).mono ?_
  rintro e w2 ⟨rfl, b2⟩
  have F2 := qz2 F1 b2 (by omega)
  have K2 := K1.trans (b2.mono (by omega))
  go_wp2_with (refine Q7e rfl 53 (.tmp 4) _ rfl (Q7b + 1 + 1) 0 (hdC (qz1k h 4)).toArray ?hx2 ?hy2 ?ht2 (qz7 _) (qzd _) ?_)
  try (case hx2 => rfl)
  try (case hy2 => rfl)
  case ht2 => exact F2
  refine bodyPost_ret (v := .agg (hdC (qz1k h 4)).toArray) ?_ rfl ⟨by rw [hv.out], ?_⟩
  ·exact qz3 Tryz.results48 _ _ (Q7b + 1 + 1) 0 rfl (hdC (qz1k h 4)) _ (Q7c _ _ _ _ F2) Q7d rfl (qz1 _)
  ·exact Below.setCells (by omega) _ _ _ K2
 case true =>
  have hv : Hid (qzdq A h = onH A h) := by show _ = _; rw [qzdq, if_pos hst]
  go_wp2_with (refine Q7j rfl 53 (.tmp 3) rfl (Q7b + 1) 0 ?lx3 (hdC h) _ ?lc3 Q7d rfl (qz1 _) ?_)
  try (case lx3 => rfl)
  case lc3 => exact H1
  refine (qz9h B A h a0 a1 a2 a3 c0 c1 c2 c3 w1 hB1 hA' I1 x y z u FI.ok FI.v0 FI.v1 FI.x0 FI.x1 FI.c0 FI.c1 FI.n0 FI.o0 FI.o1 FI.s0 FI.s1 FI.t0 FI.t1).mono ?_
  rintro e w2 ⟨rfl, b2⟩
  have F2 := qz2 F1 b2 (by omega)
  have K2 := K1.trans (b2.mono (by omega))
  go_wp2_with (refine Q7e rfl 53 (.tmp 4) _ rfl (Q7b + 1 + 1) 0 (hdC (onH A h)).toArray ?hx4 ?hy4 ?ht4 (qz7 _) (qzd _) ?_)
  try (case hx4 => rfl)
  try (case hy4 => rfl)
  case ht4 => exact F2
  refine bodyPost_ret (v := .agg (hdC (onH A h)).toArray) ?_ rfl ⟨by rw [hv.out], ?_⟩
  ·exact qz3 Tryz.results48 _ _ (Q7b + 1 + 1) 0 rfl (hdC (onH A h)) _ (Q7c _ _ _ _ F2) Q7d rfl (qz1 _)
  ·exact Below.setCells (by omega) _ _ _ K2
end
section
open Go.ChangeShapes Go.WideShapes Go.ChangeAt Go.RowKit Go.Sort
attribute [local go_sem ↓] Go.wp_at_zero Go.wp_at_succ
theorem qzgm (n l : Int) (hl : 0 <= l) : ((n == -1) || inB n 0 (l - 1)) = inB n (-1) (l - 1) := by
 cases e : inB n (-1) (l - 1)
 ·have h1 : ¬ (-1 <= n /\ n <= l - 1) := fun h => by rw [qz7o h.1 h.2] at e; exact absurd e (by decide)
  rw [qzch (by omega), Bool.or_false]
  exact beq_eq_false_iff_ne.2 (by omega)
 ·obtain ⟨h1, h2⟩ := (qz18 _ _ _).1 e
  by_cases h3 : n = -1
  ·subst h3
   simp
  ·rw [qz7o (by omega) h2, Bool.or_true]
theorem qzb3 (A : Ar) (h : Hd) : qz3b (Q7f : Int) (Q7h : Int) h = qz2e A h := by
 unfold qz3b qz2e qz56 qz7q
 rw [qzgm _ _ (by omega), qzgm _ _ (by omega)]
theorem qzfk (B : Nat) (A : Ar) (x y z u me : Int) (h : Hd) (clk : Int) (a0 a1 a2 a3 : Option Addr) (c0 c1 c2 c3 : Nat) (w : World) (hB : B <= Q7b) (hA : A.size <= 1048576) (I : qzv B w Q0u Q0s Q0v Q14 A) :
  Calls Tryz.prog 25 Q53 w fun e w' => e = .returned (.bool (fitB x y z u A me h clk)) /\ Below Q7b w w' := by
 have hA' := hA
 unfold Ar.size at hA
 have P0 := Q7n (Q7n (qz6 w Q0q 28) (.cells Q02 33)) Q0d
 have X0 := Q7n (qz6 Q4y Q0j 33) Q0d
 have H0 := qz6 Q2g (hdC h) 53
 have K0 := (((Q7g Q7b w).alloc (Q7l _) (.cells Q06 28)).alloc (by simp) (.cells Q02 33)).alloc (by simp; omega) Q0d
 have hz0 : Q7b + 1 + 1 < ((Q2g).alloc Q0d).heap.size := by simp
 simp only [World.size_alloc] at X0 H0
 have I0 := I.below (K0.mono hB)
 go_enter Tryz.func25, Tryz.ntmps25
 go_wp2_with fail
 generalize hw0 : (Q2g).alloc Q0d = w0 at *
 clear hw0 I
 have p0 : w0.cell? ⟨Q7b, 0, none⟩ = some (.int .i64 x) := by simpa using P0 0 _ rfl
 have p1 : w0.cell? ⟨Q7b, 1, none⟩ = some (.int .i64 y) := by simpa using P0 1 _ rfl
 have p2 : w0.cell? ⟨Q7b, 2, none⟩ = some (.int .i64 z) := by simpa using P0 2 _ rfl
 have p3 : w0.cell? ⟨Q7b, 3, none⟩ = some (.int .i64 u) := by simpa using P0 3 _ rfl
 obtain ⟨x0, x1, x2, x3, x4⟩ := row5 X0
 have yp0 : ∀ (dq : Nat) (os : Array Obj), (grow (redrawn w0 dq) os).cell? ⟨Q7b, 0, none⟩ = some (.int .i64 x) := fun dq os => cell_regrown p0 dq os
 have yp1 : ∀ (dq : Nat) (os : Array Obj), (grow (redrawn w0 dq) os).cell? ⟨Q7b, 1, none⟩ = some (.int .i64 y) := fun dq os => cell_regrown p1 dq os
 have yp2 : ∀ (dq : Nat) (os : Array Obj), (grow (redrawn w0 dq) os).cell? ⟨Q7b, 2, none⟩ = some (.int .i64 z) := fun dq os => cell_regrown p2 dq os
 have yp3 : ∀ (dq : Nat) (os : Array Obj), (grow (redrawn w0 dq) os).cell? ⟨Q7b, 3, none⟩ = some (.int .i64 u) := fun dq os => cell_regrown p3 dq os
 have yx0 : ∀ (dq : Nat) (os : Array Obj), (grow (redrawn w0 dq) os).cell? ⟨Q7b + 1, 0, none⟩ = some (.int .i64 Q7m) := fun dq os => cell_regrown x0 dq os
 have yx1 : ∀ (dq : Nat) (os : Array Obj), (grow (redrawn w0 dq) os).cell? ⟨Q7b + 1, 1, none⟩ = some Q0u := fun dq os => cell_regrown x1 dq os
 have yx2 : ∀ (dq : Nat) (os : Array Obj), (grow (redrawn w0 dq) os).cell? ⟨Q7b + 1, 2, none⟩ = some Q0s := fun dq os => cell_regrown x2 dq os
 have yx3 : ∀ (dq : Nat) (os : Array Obj), (grow (redrawn w0 dq) os).cell? ⟨Q7b + 1, 3, none⟩ = some Q0v := fun dq os => cell_regrown x3 dq os
 have yx4 : ∀ (dq : Nat) (os : Array Obj), (grow (redrawn w0 dq) os).cell? ⟨Q7b + 1, 4, none⟩ = some Q14 := fun dq os => cell_regrown x4 dq os
 clear p0 p1 p2 p3 x0 x1 x2 x3 x4 P0 X0
 have k1 : ∀ (dq : Nat) (os : Array Obj), Calls Tryz.prog 56 #[.agg Q06, .agg Q02] (grow (redrawn w0 dq) os) fun e w'' => e = .returned (.bool (qz1a x y z u A)) /\ ∃ q : Regrown, w'' = grow (redrawn w0 q.d) q.os := fun dq os => Calls.regrown_of (qzce B A x y z u a0 a1 a2 a3 c0 c1 c2 c3 (grow (redrawn w0 dq) os) (Q7u hB (Q7u K0.size (below_regrown w0 dq os).size)) hA' (I0.below ((below_regrown w0 dq os).mono (Q7u hB K0.size))))
 have k2 : ∀ (dq : Nat) (os : Array Obj), Calls Tryz.prog 57 Q6r (grow (redrawn w0 dq) os) fun e w'' => e = .returned (.bool (qz3m x y z u h)) /\ ∃ q : Regrown, w'' = grow (redrawn w0 q.d) q.os := fun dq os => Calls.regrown_of (qze4 x y z u h _)
 have k3 : ∀ (dq : Nat) (os : Array Obj), Calls Tryz.prog 58 #[.agg Q06, .int .i64 me] (grow (redrawn w0 dq) os) fun e w'' => e = .returned (.bool (qzfp x y z u me)) /\ ∃ q : Regrown, w'' = grow (redrawn w0 q.d) q.os := fun dq os => Calls.regrown_of (qzdj x y z u me _)
 have k4 : ∀ (dq : Nat) (os : Array Obj), Calls Tryz.prog 59 #[.int .i64 clk] (grow (redrawn w0 dq) os) fun e w'' => e = .returned (.bool (inB clk 0 20000)) /\ ∃ q : Regrown, w'' = grow (redrawn w0 q.d) q.os := fun dq os => Calls.regrown_of ((qz34 _ _).mono fun e w' h' => ⟨h'.1, by rw [h'.2]; exact Q7g _ _⟩)
 have k5 : ∀ (dq : Nat) (os : Array Obj), Calls Tryz.prog 60 #[.agg (hdC h).toArray] (grow (redrawn w0 dq) os) fun e w'' => e = .returned (.agg (grC h).toArray) /\ ∃ q : Regrown, w'' = grow (redrawn w0 q.d) q.os := fun dq os => Calls.regrown_of (qza9 h _)
 have hkp : qz3b (Q7f : Int) (Q7h : Int) h = qz2e A h := qzb3 A h
 have k6 : ∀ (dq : Nat) (os : Array Obj), Calls Tryz.prog 61 #[.agg (rgC h).toArray, .int .i64 (Q7f : Int), .int .i64 (Q7h : Int)] (grow (redrawn w0 dq) os) fun e w'' => e = .returned (.bool (qz2e A h)) /\ ∃ q : Regrown, w'' = grow (redrawn w0 q.d) q.os := fun dq os => Calls.regrown_of ((hkp ▸ qz9l (Q7f : Int) (Q7h : Int) h _ ⟨by omega, by omega⟩ ⟨by omega, by omega⟩))
 have hfl : ∀ w', (Instr.field 113 (.agg (grC h).toArray) 0).run Tryz.prog w' = .ok (.agg (rgC h).toArray) w' := fun w' => by kernel_rfl
 clear hkp
 cases e1 : qz1a x y z u A
 case false =>
  rw [e1] at k1
  have hv : Hid (fitB x y z u A me h clk = false) := by show _ = _; simp [fitB, e1]
  refine wp_region_quiet_below (by kernel_rfl) (by kernel_rfl) ?_
  iterate 30 (go_big_quiet_step (first | exact k1 _ _ | exact k2 _ _ | exact k3 _ _ | exact k4 _ _ | exact k5 _ _ | exact k6 _ _))
  refine wpQuiet_nil ?_
  intro _ hw'
  obtain ⟨⟨dq, osq⟩, hw''⟩ := hw'
  subst hw''
  have BB := below_regrown w0 dq osq
  generalize grow (redrawn w0 dq) osq = wb at *
  go_wp2_with fail
  go_ret
  exact ⟨by rw [hv.out]; rfl, K0.trans (BB.mono (by omega))⟩
 rw [e1] at k1
 cases e2 : qz3m x y z u h
 case false =>
  rw [e2] at k2
  have hv : Hid (fitB x y z u A me h clk = false) := by show _ = _; simp [fitB, e1, e2]
  refine wp_region_quiet_below (by kernel_rfl) (by kernel_rfl) ?_
  iterate 5 (go_big_quiet_step (first | exact k1 _ _ | exact k2 _ _ | exact k3 _ _ | exact k4 _ _ | exact k5 _ _ | exact k6 _ _))
  refine qzm (by first | rfl | kernel_rfl) 53 (.tmp 8) rfl (Q7b + 1 + 1) 0 rfl (hdC h) _ (fun w' hw' => by obtain ⟨⟨dq, os⟩, rfl⟩ := hw'; exact qz0 H0 (below_regrown w0 dq os) (by omega)) Q7d rfl (qz1 h) ?_; simp only [Act.put, List.setIfInBounds_toArray, List.set_cons_succ, List.set_cons_zero]
  iterate 24 (go_big_quiet_step (first | exact k1 _ _ | exact k2 _ _ | exact k3 _ _ | exact k4 _ _ | exact k5 _ _ | exact k6 _ _))
  refine wpQuiet_nil ?_
  intro _ hw'
  obtain ⟨⟨dq, osq⟩, hw''⟩ := hw'
  subst hw''
  have BB := below_regrown w0 dq osq
  generalize grow (redrawn w0 dq) osq = wb at *
  go_wp2_with fail
  go_ret
  exact ⟨by rw [hv.out]; rfl, K0.trans (BB.mono (by omega))⟩
 rw [e2] at k2
 have epl : qz42 x y z u = true := by
  have := e2
  unfold qz3m at this
  simp only [Bool.and_eq_true] at this
  exact this.1.1
 have ep : qzfp x y z u me = inB me 0 (x - 1) := by simp [qzfp, epl]
 rw [ep] at k3
 cases e3 : inB me 0 (x - 1)
 case false =>
  rw [e3] at k3
  have hv : Hid (fitB x y z u A me h clk = false) := by show _ = _; simp [fitB, e1, e2, e3]
  refine wp_region_quiet_below (by kernel_rfl) (by kernel_rfl) ?_
  iterate 5 (go_big_quiet_step (first | exact k1 _ _ | exact k2 _ _ | exact k3 _ _ | exact k4 _ _ | exact k5 _ _ | exact k6 _ _))
  refine qzm (by first | rfl | kernel_rfl) 53 (.tmp 8) rfl (Q7b + 1 + 1) 0 rfl (hdC h) _ (fun w' hw' => by obtain ⟨⟨dq, os⟩, rfl⟩ := hw'; exact qz0 H0 (below_regrown w0 dq os) (by omega)) Q7d rfl (qz1 h) ?_; simp only [Act.put, List.setIfInBounds_toArray, List.set_cons_succ, List.set_cons_zero]
  iterate 24 (go_big_quiet_step (first | exact k1 _ _ | exact k2 _ _ | exact k3 _ _ | exact k4 _ _ | exact k5 _ _ | exact k6 _ _))
  refine wpQuiet_nil ?_
  intro _ hw'
  obtain ⟨⟨dq, osq⟩, hw''⟩ := hw'
  subst hw''
  have BB := below_regrown w0 dq osq
  generalize grow (redrawn w0 dq) osq = wb at *
  go_wp2_with fail
  go_ret
  exact ⟨by rw [hv.out]; rfl, K0.trans (BB.mono (by omega))⟩
 rw [e3] at k3
 cases e4 : inB clk 0 20000
 case false =>
  rw [e4] at k4
  have hv : Hid (fitB x y z u A me h clk = false) := by show _ = _; simp [fitB, e1, e2, e3, e4]
  refine wp_region_quiet_below (by kernel_rfl) (by kernel_rfl) ?_
  iterate 5 (go_big_quiet_step (first | exact k1 _ _ | exact k2 _ _ | exact k3 _ _ | exact k4 _ _ | exact k5 _ _ | exact k6 _ _))
  refine qzm (by first | rfl | kernel_rfl) 53 (.tmp 8) rfl (Q7b + 1 + 1) 0 rfl (hdC h) _ (fun w' hw' => by obtain ⟨⟨dq, os⟩, rfl⟩ := hw'; exact qz0 H0 (below_regrown w0 dq os) (by omega)) Q7d rfl (qz1 h) ?_; simp only [Act.put, List.setIfInBounds_toArray, List.set_cons_succ, List.set_cons_zero]
  iterate 24 (go_big_quiet_step (first | exact k1 _ _ | exact k2 _ _ | exact k3 _ _ | exact k4 _ _ | exact k5 _ _ | exact k6 _ _))
  refine wpQuiet_nil ?_
  intro _ hw'
  obtain ⟨⟨dq, osq⟩, hw''⟩ := hw'
  subst hw''
  have BB := below_regrown w0 dq osq
  generalize grow (redrawn w0 dq) osq = wb at *
  go_wp2_with fail
  go_ret
  exact ⟨by rw [hv.out]; rfl, K0.trans (BB.mono (by omega))⟩
 rw [e4] at k4
 cases e5 : qz2e A h
 case false =>
  rw [e5] at k6
  have hv : Hid (fitB x y z u A me h clk = false) := by show _ = _; simp [fitB, e1, e2, e3, e4, e5]
  refine wp_region_quiet_below (by kernel_rfl) (by kernel_rfl) ?_
  iterate 5 (go_big_quiet_step (first | exact k1 _ _ | exact k2 _ _ | exact k3 _ _ | exact k4 _ _ | exact k5 _ _ | exact k6 _ _))
  refine qzm (by first | rfl | kernel_rfl) 53 (.tmp 8) rfl (Q7b + 1 + 1) 0 rfl (hdC h) _ (fun w' hw' => by obtain ⟨⟨dq, os⟩, rfl⟩ := hw'; exact qz0 H0 (below_regrown w0 dq os) (by omega)) Q7d rfl (qz1 h) ?_; simp only [Act.put, List.setIfInBounds_toArray, List.set_cons_succ, List.set_cons_zero]
  iterate 12 (go_big_quiet_step (first | exact k1 _ _ | exact k2 _ _ | exact k3 _ _ | exact k4 _ _ | exact k5 _ _ | exact k6 _ _))
  refine qzm (by first | rfl | kernel_rfl) 53 (.tmp 8) rfl (Q7b + 1 + 1) 0 rfl (hdC h) _ (fun w' hw' => by obtain ⟨⟨dq, os⟩, rfl⟩ := hw'; exact qz0 H0 (below_regrown w0 dq os) (by omega)) Q7d rfl (qz1 h) ?_; simp only [Act.put, List.setIfInBounds_toArray, List.set_cons_succ, List.set_cons_zero]
  iterate 1 (go_big_quiet_step (first | exact k1 _ _ | exact k2 _ _ | exact k3 _ _ | exact k4 _ _ | exact k5 _ _ | exact k6 _ _))
  refine qz1j (by first | rfl | kernel_rfl) (.agg (rgC h).toArray) (fun w' _ => by clear k1 k2 k3 k4 k5 k6; go_simp) ?_; simp only [Act.put, List.setIfInBounds_toArray, List.set_cons_succ, List.set_cons_zero]
  iterate 9 (go_big_quiet_step (first | exact k1 _ _ | exact k2 _ _ | exact k3 _ _ | exact k4 _ _ | exact k5 _ _ | exact k6 _ _))
  refine wpQuiet_nil ?_
  intro _ hw'
  obtain ⟨⟨dq, osq⟩, hw''⟩ := hw'
  subst hw''
  have BB := below_regrown w0 dq osq
  generalize grow (redrawn w0 dq) osq = wb at *
  go_wp2_with fail
  go_ret
  exact ⟨by rw [hv.out]; rfl, K0.trans (BB.mono (by omega))⟩
 rw [e5] at k6
 have hv : Hid (fitB x y z u A me h clk = true) := by show _ = _; simp [fitB, e1, e2, e3, e4, e5]
 refine wp_region_quiet_below (by kernel_rfl) (by kernel_rfl) ?_
 iterate 5 (go_big_quiet_step (first | exact k1 _ _ | exact k2 _ _ | exact k3 _ _ | exact k4 _ _ | exact k5 _ _ | exact k6 _ _))
 refine qzm (by first | rfl | kernel_rfl) 53 (.tmp 8) rfl (Q7b + 1 + 1) 0 rfl (hdC h) _ (fun w' hw' => by obtain ⟨⟨dq, os⟩, rfl⟩ := hw'; exact qz0 H0 (below_regrown w0 dq os) (by omega)) Q7d rfl (qz1 h) ?_; simp only [Act.put, List.setIfInBounds_toArray, List.set_cons_succ, List.set_cons_zero]
 iterate 12 (go_big_quiet_step (first | exact k1 _ _ | exact k2 _ _ | exact k3 _ _ | exact k4 _ _ | exact k5 _ _ | exact k6 _ _))
 refine qzm (by first | rfl | kernel_rfl) 53 (.tmp 8) rfl (Q7b + 1 + 1) 0 rfl (hdC h) _ (fun w' hw' => by obtain ⟨⟨dq, os⟩, rfl⟩ := hw'; exact qz0 H0 (below_regrown w0 dq os) (by omega)) Q7d rfl (qz1 h) ?_; simp only [Act.put, List.setIfInBounds_toArray, List.set_cons_succ, List.set_cons_zero]
 iterate 1 (go_big_quiet_step (first | exact k1 _ _ | exact k2 _ _ | exact k3 _ _ | exact k4 _ _ | exact k5 _ _ | exact k6 _ _))
 refine qz1j (by first | rfl | kernel_rfl) (.agg (rgC h).toArray) (fun w' _ => by clear k1 k2 k3 k4 k5 k6; go_simp) ?_; simp only [Act.put, List.setIfInBounds_toArray, List.set_cons_succ, List.set_cons_zero]
 iterate 9 (go_big_quiet_step (first | exact k1 _ _ | exact k2 _ _ | exact k3 _ _ | exact k4 _ _ | exact k5 _ _ | exact k6 _ _))
 refine wpQuiet_nil ?_
 intro _ hw'
 obtain ⟨⟨dq, osq⟩, hw''⟩ := hw'
 subst hw''
 have BB := below_regrown w0 dq osq
 generalize grow (redrawn w0 dq) osq = wb at *
 go_wp2_with fail
 go_ret
 exact ⟨by rw [hv.out]; rfl, K0.trans (BB.mono (by omega))⟩
end
end Go.Proofs.YthjkdnlmopafkaaGreat
