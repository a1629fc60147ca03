/-
  What the law's proof goes by, part 45.
-/
import Derived.Test.YthjkdnlmopafkaaGreatFnSealed00
import Derived.Test.YthjkdnlmopafkaaGreatFnSealed02
import Derived.Test.YthjkdnlmopafkaaGreatFnSealed08
import Derived.Test.YthjkdnlmopafkaaGreatFnSealed11
import Derived.Test.YthjkdnlmopafkaaGreatFnSealed41
import Derived.Test.YthjkdnlmopafkaaGreatFnSealed42
import Derived.Test.YthjkdnlmopafkaaGreatFnSealed43
namespace Go.Proofs.YthjkdnlmopafkaaGreat
open Go.ChangeShapes Go.WideShapes Go.ChangeAt Go.RowKit
set_option maxRecDepth 100000
set_option maxHeartbeats 16000000
set_option linter.unusedVariables false
set_option linter.unusedSimpArgs false
set_option linter.unnecessarySimpa false
set_option linter.unusedSectionVars false
section
attribute [local go_sem ↓] Go.wp_at_zero Go.wp_at_succ
def qz1k (h : Hd) (n : Int) : Hd := { h with at_ := n }
theorem qz1g (h : Hd) (n : Int) (w : World)  :
  Calls Tryz.prog 93 #[.agg (hdC h).toArray, .int .i64 n] w fun e w' => e = .returned (.agg (hdC (qz1k h n)).toArray) /\ Below Q7b w w' := by
 have H0 := Q7n (qz6 w (hdC h) 53) (.cells Q00 53)
 have G0 := Q80 (qza w (hdC h).toArray 53 22 (by simp [hdC])) (.cells Q00 53)
 have F0 := qza (w.alloc Q0d) Q00 53 22 (by decide)
 have K0 := (((Q7g Q7b w).alloc (Q7l _) Q0d).alloc (by simp) (.cells Q00 53))
 have hz0 : Q7b + 1 < (Q4g).heap.size := by simp
 simp only [World.size_alloc] at F0
 go_enter Tryz.func93, Tryz.ntmps93
 have tok : True := trivial
 go_wp2_with (clear tok; refine qz1q Q4g ?_)
 generalize hw0 : (w.alloc Q0d).alloc (.cells Q00 53) = w0 at *
 clear hw0
 show wpList _ _ _ _ _ w0
 have q0 : w0.cell? ⟨Q7b, 0, none⟩ = some (.int .i64 h.at_) := by simpa using H0 0 (.int .i64 h.at_) rfl
 have f0 : w0.frozen? ⟨Q7b, 0, none⟩ = false := by simpa using (G0 0 (by decide)).2
 obtain ⟨H', hH⟩ : ∃ H' : Hd, Hid (H' = { h with at_ := n }) := by exact ⟨_, rfl⟩
 have hv : Hid (qz1k h n = H') := by show _ = _; rw [hH.out]; rfl
 go_wp2_with (first | (refine Q7j rfl 53 (.tmp 2) rfl (Q7b) 0 ?hxln19 (hdC H') _ ?hcn19 Q7d rfl (qz1 H') ?_) | (refine Q7e rfl 53 (.tmp 4) _ rfl (Q7b + 1) 0 (hdC H').toArray ?hxn19 ?hyn19 ?htn19 (qz7 _) (qzd _) ?_))
 try (case hxln19 => rfl)
 case hcn19 => rw [hH.out]; exact (qzb H0 0 (by simp [hdC]) _)
 try (case hxn19 => rfl)
 try (case hyn19 => rfl)
 case htn19 => exact (qz5 F0 _ _)
 refine bodyPost_ret (v := .agg (hdC H').toArray) ?_ rfl ⟨by rw [hv.out], ?_⟩
 ·exact qz3 Tryz.results93 _ _ (Q7b + 1) 0 rfl (hdC H') _ (Q7c _ _ _ _ (qz5 F0 _ _)) Q7d rfl (qz1 _)
 ·exact Below.setCells (by omega) _ _ _ (Below.setCell K0 (p := ⟨Q7b, 0, none⟩) (by show Q7b <= Q7b; omega) _)
end
section
attribute [local go_sem ↓] Go.wp_at_zero Go.wp_at_succ
def qzd4 (A : Ar) (h : Hd) (m : Vr) : Dd := if m.kind = 0 then qz21 else ⟨m.kind, (ndOf A (if m.kind = 1 then max m.next 0 else h.x_)).key, (ndOf A (if m.kind = 1 then max m.next 0 else h.x_)).value, h.cam, h.camAt⟩
theorem qzfr (A : Ar) (h : Hd) : qz3p A h = qzd4 A h (vrOf A h.ver) := rfl
theorem qz5q (nb off : Nat) (x : Nd) (h : Hd) (kind : Int) (w : World) (R : w.rangeAt nb off (ndC x)) (hb : nb < Q7b) :
  Calls Tryz.prog 131 #[.pointer (some ⟨nb, off, none⟩), .agg (hdC h).toArray, .int .i64 kind] w fun e w' => e = .returned (.agg (ddC ⟨kind, x.key, x.value, h.cam, h.camAt⟩).toArray) /\ Below Q7b w w' := by
 have H0 := Q7n (qz6 w (hdC h) 53) (.cells Q13 57)
 have F0 := qza (w.alloc Q0d) Q13 57 5 (by decide)
 have K0 := ((Q7g Q7b w).alloc (Q7l _) Q0d).alloc (by simp) (.cells Q13 57)
 have R0 := qz0 R K0 hb
 have hz0 : Q7b + 1 < (Q79).heap.size := by simp
 simp only [World.size_alloc] at H0 F0
 go_enter Tryz.func131, Tryz.ntmps131
 go_wp2_with fail
 generalize hw0 : (w.alloc Q0d).alloc (.cells Q13 57) = w0 at *
 clear hw0 R
 have n0 : w0.cell? ⟨nb, off, none⟩ = some (.int .i64 x.key) := by simpa using R0 0 _ rfl
 have n1 : w0.cell? ⟨nb, off + 1, none⟩ = some (.int .i64 x.value) := R0 1 _ rfl
 have q12 : w0.cell? ⟨Q7b, 12, none⟩ = some (.int .i64 h.cam) := by simpa using H0 12 (.int .i64 h.cam) rfl
 have q13 : w0.cell? ⟨Q7b, 13, none⟩ = some (.int .i64 h.camAt) := by simpa using H0 13 (.int .i64 h.camAt) rfl
 refine qz1o 14 (by kernel_rfl) (by kernel_rfl) ?_
 simp only [List.take_succ_cons, List.take_zero, List.drop_succ_cons, List.drop_zero]
 repeat (quiet_step (fail))
 refine wpQuiet_nil ?_
 rintro _ ⟨nr, rfl⟩
 have F1 : (w0.drewN nr).there (Q7b + 1) 0 5 := F0
 have K1 : Below Q7b w (w0.drewN nr) := ⟨K0.os, K0.tape, K0.output, K0.size, K0.block⟩
 generalize hw1 : w0.drewN nr = w1 at *
 clear hw1
 go_wp2_with (refine Q7e rfl 57 (.tmp 6) (.tmp 20) rfl (Q7b + 1) 0 (ddC ⟨kind, x.key, x.value, h.cam, h.camAt⟩).toArray ?hx ?hy ?ht (qz3c _) (qz4q _) ?_)
 try (case hx => rfl)
 try (case hy => rfl)
 case ht => exact F1
 refine bodyPost_ret (v := .agg (ddC ⟨kind, x.key, x.value, h.cam, h.camAt⟩).toArray) ?_ rfl ⟨rfl, ?_⟩
 ·exact qz3 Tryz.results131 _ _ (Q7b + 1) 0 rfl (ddC ⟨kind, x.key, x.value, h.cam, h.camAt⟩) _ (Q7c _ _ _ _ F1) Tryz.underlying57 rfl (qz38 _)
 ·exact Below.setCells (by omega) _ _ _ K1
theorem qz9i (base : Nat) (cb : Nat) (s g n r : Value) (ps qs : List Addr) (A : Ar) (m : Vr) (vb vo : Nat) (h : Hd) (w : World) (hbase : base <= Q7b) (hA : A.size <= 1048576) (C : qz2k base w cb s g n r ps qs A) (hvb : vb < Q7b) (R : w.rangeAt vb vo (vrC m)) (hm : m.next = -1 ∨ 1 <= m.next /\ m.next < (Q7f : Int)) (hk0 : 0 <= m.kind) (hk2 : m.kind <= 2) (hx0 : 0 <= h.x_) (hx1 : h.x_ < (Q7f : Int)) :
  Calls Tryz.prog 95 #[.pointer (some ⟨cb, 0, none⟩), .agg (hdC h).toArray, .pointer (some ⟨vb, vo, none⟩)] w fun e w' => e = .returned (.agg (ddC (qzd4 A h m)).toArray) /\ Below Q7b w w' := by
 unfold Ar.size at hA
 have hn0 : 0 < Q7f := by omega
 have H0 := Q7n (qz6 w (hdC h) 53) (.cells Q13 57)
 have F0 := qza (w.alloc Q0d) Q13 57 5 (by decide)
 have K0 := ((Q7g Q7b w).alloc (Q7l _) Q0d).alloc (by simp) (.cells Q13 57)
 have R0 := qz0 R K0 hvb
 have C0 := C.grown K0
 have hz0 : Q7b + 1 < (Q79).heap.size := by simp
 simp only [World.size_alloc] at H0 F0
 obtain ⟨na, nc, rfl⟩ := qzh C.sn
 obtain ⟨nb, rfl, -, -, -, -⟩ := qz9x C.sn hn0
 go_enter Tryz.func95, Tryz.ntmps95
 go_upto_region 1 with fail
 generalize hw0 : (w.alloc Q0d).alloc (.cells Q13 57) = w0 at *
 clear hw0 R C
 obtain ⟨_, e9, -, -, -, RN⟩ := qz9x C0.sn hn0
 cases e9
 have v0 : w0.cell? ⟨vb, vo, none⟩ = some (.int .i64 m.next) := by simpa using R0 0 _ rfl
 have v4 : w0.cell? ⟨vb, vo + 4, none⟩ = some (.int .i64 m.kind) := R0 4 _ rfl
 obtain ⟨x0, x1, x2, x3, x4⟩ := row5 C0.row
 have q10 : w0.cell? ⟨Q7b, 10, none⟩ = some (.int .i64 h.x_) := by simpa using H0 10 (.int .i64 h.x_) rfl
 by_cases k1 : m.kind = 1
 ·rw [k1] at v4
  rcases hm with hm1 | hm1
  ·have hnl : 0 < Q7f := hn0
   have hd : Hid (qzd4 A h m = ⟨1, A.nodes[0].key, A.nodes[0].value, h.cam, h.camAt⟩) := by show _ = _; simp [qzd4, k1, hm1, show max (-1 : Int) 0 = 0 by decide, show ndOf A 0 = A.nodes[0] from qz1d A 0 hnl]
   rw [hm1] at v0
   clear hm1 hk0 hk2 k1
   obtain ⟨pb, po, pm, p1, -, p3, -, p5⟩ := C0.np.at' 0 hnl
   have hpc : w0.cell? ⟨nb, 0, none⟩ = some (.pointer (some ⟨pb, po, none⟩)) := by
    have hkp : 0 < ps.length := by rw [C0.np.len]; exact hnl
    have h1 := (qze (sz := 1) (f := ptrC) (fun _ => rfl) RN 0 hkp) 0 (.pointer (some ps[0])) rfl
    rw [List.getElem?_eq_getElem hkp] at p1
    rw [Option.some.inj p1] at h1
    simpa using h1
   clear p1 RN
   go_wp2_with fail
   refine qz1o 12 (by kernel_rfl) (by kernel_rfl) ?_
   simp only [List.take_succ_cons, List.take_zero, List.drop_succ_cons, List.drop_zero]
   repeat (first | (refine qzw rfl 53 (.tmp 4) rfl Q7b 0 ?s1x (hdC h) _ ?s1c Q7d rfl (qz1 _) ?_; (case s1x => rfl); (case s1c => rintro _ ⟨m, rfl⟩; exact H0)) | (quiet_step (fail)))
   refine wpQuiet_nil ?_
   rintro _ ⟨nr, rfl⟩
   have F1 : (w0.drewN nr).there (Q7b + 1) 0 5 := F0
   have K1 : Below Q7b w (w0.drewN nr) := ⟨K0.os, K0.tape, K0.output, K0.size, K0.block⟩
   have P1 : (w0.drewN nr).rangeAt pb po (ndC A.nodes[0]) := p5
   have Z1 : pb < (w0.drewN nr).heap.size := p3.lt
   have hz1 : Q7b + 1 < (w0.drewN nr).heap.size := hz0
   generalize hw1 : w0.drewN nr = w1 at *
   clear hw1
   go_wp2_with fail
   refine (qz5q pb po A.nodes[0] h 1 w1 P1 Z1).mono ?_
   rintro e w2 ⟨rfl, b2⟩
   have F2 := qz2 F1 b2 (by omega)
   have K2 := K1.trans (b2.mono (by omega))
   go_wp2_with (refine Q7e rfl 57 (.tmp 6) _ rfl (Q7b + 1) 0 (ddC ⟨1, A.nodes[0].key, A.nodes[0].value, h.cam, h.camAt⟩).toArray ?hx1 ?hy1 ?ht1 (qz3c _) (qz4q _) ?_)
   try (case hx1 => rfl)
   try (case hy1 => rfl)
   case ht1 => exact F2
   refine bodyPost_ret (v := .agg (ddC ⟨1, A.nodes[0].key, A.nodes[0].value, h.cam, h.camAt⟩).toArray) ?_ rfl ⟨by rw [hd.out], ?_⟩
   ·exact qz3 Tryz.results95 _ _ (Q7b + 1) 0 rfl (ddC ⟨1, A.nodes[0].key, A.nodes[0].value, h.cam, h.camAt⟩) _ (Q7c _ _ _ _ F2) Tryz.underlying57 rfl (qz38 _)
   ·exact Below.setCells (by omega) _ _ _ K2
  ·obtain ⟨nk, hnk⟩ : ∃ k : Nat, m.next = k := ⟨m.next.toNat, by omega⟩
   have hnl : nk < Q7f := by omega
   have hmx : max (nk : Int) 0 = nk := by omega
   have hd : Hid (qzd4 A h m = ⟨1, A.nodes[nk].key, A.nodes[nk].value, h.cam, h.camAt⟩) := by show _ = _; simp only [qzd4, k1, hnk, if_true, hmx, qz1d A nk hnl]; rfl
   have hnk0 : (0 : Int) <= (nk : Int) := by omega
   have hif : (if (nk : Int) < 0 then (0 : Int) else (nk : Int)) = (nk : Int) := if_neg (by omega)
   have hnk1 : (nk : Int) < (Q7f : Int) := by omega
   rw [hnk] at v0
   clear hm1 hk0 hk2 k1 hnk
   obtain ⟨pb, po, pm, p1, -, p3, -, p5⟩ := C0.np.at' nk hnl
   have hpc : w0.cell? ⟨nb, nk, none⟩ = some (.pointer (some ⟨pb, po, none⟩)) := by
    have hkp : nk < ps.length := by rw [C0.np.len]; exact hnl
    have h1 := (qze (sz := 1) (f := ptrC) (fun _ => rfl) RN nk hkp) 0 (.pointer (some ps[nk])) rfl
    rw [List.getElem?_eq_getElem hkp] at p1
    rw [Option.some.inj p1] at h1
    simpa using h1
   clear p1 RN
   go_wp2_with fail
   refine qz1o 12 (by kernel_rfl) (by kernel_rfl) ?_
   simp only [List.take_succ_cons, List.take_zero, List.drop_succ_cons, List.drop_zero]
   repeat (first | (refine qzw rfl 53 (.tmp 4) rfl Q7b 0 ?s2x (hdC h) _ ?s2c Q7d rfl (qz1 _) ?_; (case s2x => rfl); (case s2c => rintro _ ⟨m, rfl⟩; exact H0)) | (quiet_step (fail)))
   refine wpQuiet_nil ?_
   rintro _ ⟨nr, rfl⟩
   have F1 : (w0.drewN nr).there (Q7b + 1) 0 5 := F0
   have K1 : Below Q7b w (w0.drewN nr) := ⟨K0.os, K0.tape, K0.output, K0.size, K0.block⟩
   have P1 : (w0.drewN nr).rangeAt pb po (ndC A.nodes[nk]) := p5
   have Z1 : pb < (w0.drewN nr).heap.size := p3.lt
   have hz1 : Q7b + 1 < (w0.drewN nr).heap.size := hz0
   generalize hw1 : w0.drewN nr = w1 at *
   clear hw1
   go_wp2_with fail
   refine (qz5q pb po A.nodes[nk] h 1 w1 P1 Z1).mono ?_
   rintro e w2 ⟨rfl, b2⟩
   have F2 := qz2 F1 b2 (by omega)
   have K2 := K1.trans (b2.mono (by omega))
   go_wp2_with (refine Q7e rfl 57 (.tmp 6) _ rfl (Q7b + 1) 0 (ddC ⟨1, A.nodes[nk].key, A.nodes[nk].value, h.cam, h.camAt⟩).toArray ?hx2 ?hy2 ?ht2 (qz3c _) (qz4q _) ?_)
   try (case hx2 => rfl)
   try (case hy2 => rfl)
   case ht2 => exact F2
   refine bodyPost_ret (v := .agg (ddC ⟨1, A.nodes[nk].key, A.nodes[nk].value, h.cam, h.camAt⟩).toArray) ?_ rfl ⟨by rw [hd.out], ?_⟩
   ·exact qz3 Tryz.results95 _ _ (Q7b + 1) 0 rfl (ddC ⟨1, A.nodes[nk].key, A.nodes[nk].value, h.cam, h.camAt⟩) _ (Q7c _ _ _ _ F2) Tryz.underlying57 rfl (qz38 _)
   ·exact Below.setCells (by omega) _ _ _ K2
 have b1 : (m.kind == 1) = false := by simp [k1]
 by_cases k2 : m.kind = 2
 ·rw [k2] at v4
  obtain ⟨xk, hxk⟩ : ∃ k : Nat, h.x_ = k := ⟨h.x_.toNat, by omega⟩
  have hnl : xk < Q7f := by omega
  have hd : Hid (qzd4 A h m = ⟨2, A.nodes[xk].key, A.nodes[xk].value, h.cam, h.camAt⟩) := by show _ = _; simp [qzd4, k2, hxk, qz1d A xk hnl]
  have hxk0 : (0 : Int) <= (xk : Int) := by omega
  have hxk1 : (xk : Int) < (Q7f : Int) := by omega
  rw [hxk] at q10
  clear hm hk0 hk2 k1 k2 b1 hx0 hx1 hxk
  obtain ⟨pb, po, pm, p1, -, p3, -, p5⟩ := C0.np.at' xk hnl
  have hpc : w0.cell? ⟨nb, xk, none⟩ = some (.pointer (some ⟨pb, po, none⟩)) := by
   have hkp : xk < ps.length := by rw [C0.np.len]; exact hnl
   have h1 := (qze (sz := 1) (f := ptrC) (fun _ => rfl) RN xk hkp) 0 (.pointer (some ps[xk])) rfl
   rw [List.getElem?_eq_getElem hkp] at p1
   rw [Option.some.inj p1] at h1
   simpa using h1
  clear p1 RN
  go_wp2_with fail
  refine qz1o 9 (by kernel_rfl) (by kernel_rfl) ?_
  simp only [List.take_succ_cons, List.take_zero, List.drop_succ_cons, List.drop_zero]
  repeat (first | (refine qzw rfl 53 (.tmp 4) rfl Q7b 0 ?s3x (hdC h) _ ?s3c Q7d rfl (qz1 _) ?_; (case s3x => rfl); (case s3c => rintro _ ⟨m, rfl⟩; exact H0)) | (quiet_step (fail)))
  refine wpQuiet_nil ?_
  rintro _ ⟨nr, rfl⟩
  have F1 : (w0.drewN nr).there (Q7b + 1) 0 5 := F0
  have K1 : Below Q7b w (w0.drewN nr) := ⟨K0.os, K0.tape, K0.output, K0.size, K0.block⟩
  have P1 : (w0.drewN nr).rangeAt pb po (ndC A.nodes[xk]) := p5
  have Z1 : pb < (w0.drewN nr).heap.size := p3.lt
  have hz1 : Q7b + 1 < (w0.drewN nr).heap.size := hz0
  generalize hw1 : w0.drewN nr = w1 at *
  clear hw1
  go_wp2_with fail
  refine (qz5q pb po A.nodes[xk] h 2 w1 P1 Z1).mono ?_
  rintro e w2 ⟨rfl, b2⟩
  have F2 := qz2 F1 b2 (by omega)
  have K2 := K1.trans (b2.mono (by omega))
  go_wp2_with (refine Q7e rfl 57 (.tmp 6) _ rfl (Q7b + 1) 0 (ddC ⟨2, A.nodes[xk].key, A.nodes[xk].value, h.cam, h.camAt⟩).toArray ?hx3 ?hy3 ?ht3 (qz3c _) (qz4q _) ?_)
  try (case hx3 => rfl)
  try (case hy3 => rfl)
  case ht3 => exact F2
  refine bodyPost_ret (v := .agg (ddC ⟨2, A.nodes[xk].key, A.nodes[xk].value, h.cam, h.camAt⟩).toArray) ?_ rfl ⟨by rw [hd.out], ?_⟩
  ·exact qz3 Tryz.results95 _ _ (Q7b + 1) 0 rfl (ddC ⟨2, A.nodes[xk].key, A.nodes[xk].value, h.cam, h.camAt⟩) _ (Q7c _ _ _ _ F2) Tryz.underlying57 rfl (qz38 _)
  ·exact Below.setCells (by omega) _ _ _ K2
 have b2 : (m.kind == 2) = false := by simp [k2]
 have hd : Hid (qzd4 A h m = qz21) := by show _ = _; simp [qzd4, show m.kind = 0 by omega]
 go_wp2_with (refine Q7e rfl 57 (.tmp 6) _ rfl (Q7b + 1) 0 (ddC qz21).toArray ?hx4 ?hy4 ?ht4 (qz3c _) (qz4q _) ?_)
 try (case hx4 => rfl)
 try (case hy4 => rfl)
 case ht4 => exact F0
 refine bodyPost_ret (v := .agg (ddC qz21).toArray) ?_ rfl ⟨by rw [hd.out], ?_⟩
 ·exact qz3 Tryz.results95 _ _ (Q7b + 1) 0 rfl (ddC qz21) _ (Q7c _ _ _ _ F0) Tryz.underlying57 rfl (qz38 _)
 ·exact Below.setCells (by omega) _ _ _ K0
end
end Go.Proofs.YthjkdnlmopafkaaGreat
