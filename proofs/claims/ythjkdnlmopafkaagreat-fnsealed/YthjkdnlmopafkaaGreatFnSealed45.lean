/-
  What the law's proof goes by, part 46.
-/
import Derived.Test.YthjkdnlmopafkaaGreatFnSealed00
import Derived.Test.YthjkdnlmopafkaaGreatFnSealed44
namespace Go.Proofs.YthjkdnlmopafkaaGreat
open Go.ChangeShapes Go.WideShapes Go.ChangeAt Go.RowKit
set_option maxRecDepth 100000
set_option maxHeartbeats 16000000
set_option linter.unusedVariables false
set_option linter.unusedSimpArgs false
set_option linter.unnecessarySimpa false
set_option linter.unusedSectionVars false
section
attribute [local go_sem ↓] Go.wp_at_zero Go.wp_at_succ
theorem qzbe (B : Nat) (A : Ar) (h : Hd) (a0 a1 a2 a3 : Option Addr) (c0 c1 c2 c3 : Nat) (w : World) (hB : B <= Q7b) (hA : A.size <= 1048576) (I : qzv B w Q0u Q0s Q0v Q14 A) (hc0 : -1 <= h.curr) (hcu : h.curr < (Q7f : Int)) (hn0 : -1 <= h.new_) :
  Calls Tryz.prog 152 Q4r w fun e w' => e = .returned (.agg (hdC (qz1b A h)).toArray) /\ Below Q7b w w' := by
 have hA' := hA
 unfold Ar.size at hA
 have X0 := Q7n (Q7n (qz6 w Q0j 33) Q0d) (.cells Q00 53)
 have H0 := Q7n (qz6 Q26 (hdC h) 53) (.cells Q00 53)
 have G0 := Q80 (qza Q26 (hdC h).toArray 53 22 (by simp [hdC])) (.cells Q00 53)
 have F0 := qza ((Q26).alloc Q0d) Q00 53 22 (by decide)
 have K0 := ((((Q7g Q7b w).alloc (Q7l _) (.cells Q02 33)).alloc (by simp) Q0d).alloc (by simp <;> omega) (.cells Q00 53))
 have hz0 : Q7b + 1 + 1 < (((Q26).alloc Q0d).alloc (.cells Q00 53)).heap.size := by simp
 simp only [World.size_alloc] at H0 G0 F0
 have I0 := I.below (K0.mono hB)
 go_enter Tryz.func152, Tryz.ntmps152
 go_wp2_with fail
 generalize hw0 : ((Q26).alloc Q0d).alloc (.cells Q00 53) = w0 at *
 clear hw0 I
 obtain ⟨x0, x1, x2, x3, x4⟩ := row5 X0
 have q2 : w0.cell? ⟨Q7b + 1, 2, none⟩ = some (.int .i64 h.code) := by simpa using H0 2 (.int .i64 h.code) rfl
 have q3 : w0.cell? ⟨Q7b + 1, 3, none⟩ = some (.int .i64 h.key) := by simpa using H0 3 (.int .i64 h.key) rfl
 have q16 : w0.cell? ⟨Q7b + 1, 16, none⟩ = some (.int .i64 h.curr) := by simpa using H0 16 (.int .i64 h.curr) rfl
 have q18 : w0.cell? ⟨Q7b + 1, 18, none⟩ = some (.int .i64 h.new_) := by simpa using H0 18 (.int .i64 h.new_) rfl
 by_cases hcm : h.curr = -1
 case pos =>
  rw [hcm] at q16
  go_quiet (fail)
  have X1 : (w0.drewN nq).rangeAt Q7b 0 Q0j := X0
  have H1 : (w0.drewN nq).rangeAt (Q7b + 1) 0 (hdC h) := H0
  have F1 : (w0.drewN nq).there (Q7b + 1 + 1) 0 22 := F0
  have K1 : Below Q7b w (w0.drewN nq) := ⟨K0.os, K0.tape, K0.output, K0.size, K0.block⟩
  have hz1 : Q7b + 1 + 1 < (w0.drewN nq).heap.size := hz0
  have I1 : qzv B (w0.drewN nq) Q0u Q0s Q0v Q14 A := I0.below ⟨rfl, rfl, rfl, Q7l _, fun _ _ => rfl⟩
  have y3 : (w0.drewN nq).cell? ⟨Q7b, 3, none⟩ = some Q0v := x3
  have y2 : (w0.drewN nq).cell? ⟨Q7b + 1, 2, none⟩ = some (.int .i64 h.code) := q2
  have y16 : (w0.drewN nq).cell? ⟨Q7b + 1, 16, none⟩ = some (.int .i64 (-1)) := q16
  have y18 : (w0.drewN nq).cell? ⟨Q7b + 1, 18, none⟩ = some (.int .i64 h.new_) := q18
  generalize hw1 : w0.drewN nq = w1 at *
  clear hw1 X0 H0 F0 K0 I0 hz0 x0 x1 x2 x3 x4 q2 q3 q16 q18 G0
  by_cases k1 : h.code = 1
  case pos =>
   by_cases kn : h.new_ = -1
   ·obtain ⟨H', hH⟩ : ∃ H' : Hd, Hid (H' = h) := by exact ⟨_, rfl⟩
    have hv : Hid (qz1b A h = qz1k H' 7) := by show _ = _; rw [hH.out]; simp [qz1b, qz1k, hcm, k1, kn]
    go_upto_region 5 with (first | fail)
    go_wp2_with (first | (refine Q7j rfl 53 (.tmp 3) rfl (Q7b + 1) 0 ?hxln20 (hdC H') _ ?hcn20 Q7d rfl (qz1 H') ?_))
    try (case hxln20 => rfl)
    case hcn20 => rw [hH.out]; exact H1
    refine (qz1g H' 7 _).mono ?_
    rintro e w9 ⟨rfl, b9⟩
    have F9 := qz2 F1 b9 (by first | omega | (simp; omega))
    have K9 := K1.trans (b9.mono (by first | omega | (simp; omega)))
    go_wp2_with (refine Q7e rfl 53 (.tmp 4) _ rfl (Q7b + 1 + 1) 0 (hdC (qz1k H' 7)).toArray ?hxn20 ?hyn20 ?htn20 (qz7 _) (qzd _) ?_)
    try (case hxn20 => rfl)
    try (case hyn20 => rfl)
    case htn20 => exact F9
    refine bodyPost_ret (v := .agg (hdC (qz1k H' 7)).toArray) ?_ rfl ⟨by rw [hv.out], ?_⟩
    ·exact qz3 Tryz.results152 _ _ (Q7b + 1 + 1) 0 rfl (hdC (qz1k H' 7)) _ (Q7c _ _ _ _ F9) Q7d rfl (qz1 _)
    ·exact Below.setCells (by omega) _ _ _ K9
   have bn : (h.new_ == -1) = false := by simp [kn]
   have kn' : 0 <= h.new_ := by omega
   obtain ⟨H', hH⟩ : ∃ H' : Hd, Hid (H' = h) := by exact ⟨_, rfl⟩
   have hv : Hid (qz1b A h = qz1k H' 8) := by show _ = _; rw [hH.out]; simp [qz1b, qz1k, hcm, k1, kn']
   go_upto_region 7 with (first | fail)
   go_wp2_with (first | (refine Q7j rfl 53 (.tmp 3) rfl (Q7b + 1) 0 ?hxln21 (hdC H') _ ?hcn21 Q7d rfl (qz1 H') ?_))
   try (case hxln21 => rfl)
   case hcn21 => rw [hH.out]; exact H1
   refine (qz1g H' 8 _).mono ?_
   rintro e w9 ⟨rfl, b9⟩
   have F9 := qz2 F1 b9 (by first | omega | (simp; omega))
   have K9 := K1.trans (b9.mono (by first | omega | (simp; omega)))
   go_wp2_with (refine Q7e rfl 53 (.tmp 4) _ rfl (Q7b + 1 + 1) 0 (hdC (qz1k H' 8)).toArray ?hxn21 ?hyn21 ?htn21 (qz7 _) (qzd _) ?_)
   try (case hxn21 => rfl)
   try (case hyn21 => rfl)
   case htn21 => exact F9
   refine bodyPost_ret (v := .agg (hdC (qz1k H' 8)).toArray) ?_ rfl ⟨by rw [hv.out], ?_⟩
   ·exact qz3 Tryz.results152 _ _ (Q7b + 1 + 1) 0 rfl (hdC (qz1k H' 8)) _ (Q7c _ _ _ _ F9) Q7d rfl (qz1 _)
   ·exact Below.setCells (by omega) _ _ _ K9
  have b1 : (h.code == 1) = false := by simp [k1]
  by_cases k2 : h.code = 2
  ·obtain ⟨H', hH⟩ : ∃ H' : Hd, Hid (H' = h) := by exact ⟨_, rfl⟩
   have hv : Hid (qz1b A h = qz9 H' 3 0 0) := by show _ = _; rw [hH.out]; simp [qz1b, hcm, k2]
   go_upto_region 11 with (first | fail)
   go_wp2_with (first | (refine Q7j rfl 53 (.tmp 3) rfl (Q7b + 1) 0 ?hxln22 (hdC H') _ ?hcn22 Q7d rfl (qz1 H') ?_))
   try (case hxln22 => rfl)
   case hcn22 => rw [hH.out]; exact H1
   refine (qz28 H' 3 0 0 _).mono ?_
   rintro e w9 ⟨rfl, b9⟩
   have F9 := qz2 F1 b9 (by first | omega | (simp; omega))
   have K9 := K1.trans (b9.mono (by first | omega | (simp; omega)))
   go_wp2_with (refine Q7e rfl 53 (.tmp 4) _ rfl (Q7b + 1 + 1) 0 (hdC (qz9 H' 3 0 0)).toArray ?hxn22 ?hyn22 ?htn22 (qz7 _) (qzd _) ?_)
   try (case hxn22 => rfl)
   try (case hyn22 => rfl)
   case htn22 => exact F9
   refine bodyPost_ret (v := .agg (hdC (qz9 H' 3 0 0)).toArray) ?_ rfl ⟨by rw [hv.out], ?_⟩
   ·exact qz3 Tryz.results152 _ _ (Q7b + 1 + 1) 0 rfl (hdC (qz9 H' 3 0 0)) _ (Q7c _ _ _ _ F9) Q7d rfl (qz1 _)
   ·exact Below.setCells (by omega) _ _ _ K9
  have b2 : (h.code == 2) = false := by simp [k2]
  by_cases k3 : h.code = 3
  ·obtain ⟨H', hH⟩ : ∃ H' : Hd, Hid (H' = h) := by exact ⟨_, rfl⟩
   have hv : Hid (qz1b A h = qz9 H' 3 0 0) := by show _ = _; rw [hH.out]; simp [qz1b, hcm, k3]
   go_upto_region 11 with (first | fail)
   go_wp2_with (first | (refine Q7j rfl 53 (.tmp 3) rfl (Q7b + 1) 0 ?hxln23 (hdC H') _ ?hcn23 Q7d rfl (qz1 H') ?_))
   try (case hxln23 => rfl)
   case hcn23 => rw [hH.out]; exact H1
   refine (qz28 H' 3 0 0 _).mono ?_
   rintro e w9 ⟨rfl, b9⟩
   have F9 := qz2 F1 b9 (by first | omega | (simp; omega))
   have K9 := K1.trans (b9.mono (by first | omega | (simp; omega)))
   go_wp2_with (refine Q7e rfl 53 (.tmp 4) _ rfl (Q7b + 1 + 1) 0 (hdC (qz9 H' 3 0 0)).toArray ?hxn23 ?hyn23 ?htn23 (qz7 _) (qzd _) ?_)
   try (case hxn23 => rfl)
   try (case hyn23 => rfl)
   case htn23 => exact F9
   refine bodyPost_ret (v := .agg (hdC (qz9 H' 3 0 0)).toArray) ?_ rfl ⟨by rw [hv.out], ?_⟩
   ·exact qz3 Tryz.results152 _ _ (Q7b + 1 + 1) 0 rfl (hdC (qz9 H' 3 0 0)) _ (Q7c _ _ _ _ F9) Q7d rfl (qz1 _)
   ·exact Below.setCells (by omega) _ _ _ K9
  have b3 : (h.code == 3) = false := by simp [k3]
  obtain ⟨H', hH⟩ : ∃ H' : Hd, Hid (H' = h) := by exact ⟨_, rfl⟩
  have hv : Hid (qz1b A h = qz1k H' 0) := by show _ = _; rw [hH.out]; simp [qz1b, qz1k, k1, k2, k3]
  go_upto_region 12 with (first | fail)
  go_wp2_with (first | (refine Q7j rfl 53 (.tmp 3) rfl (Q7b + 1) 0 ?hxln24 (hdC H') _ ?hcn24 Q7d rfl (qz1 H') ?_))
  try (case hxln24 => rfl)
  case hcn24 => rw [hH.out]; exact H1
  refine (qz1g H' 0 _).mono ?_
  rintro e w9 ⟨rfl, b9⟩
  have F9 := qz2 F1 b9 (by first | omega | (simp; omega))
  have K9 := K1.trans (b9.mono (by first | omega | (simp; omega)))
  go_wp2_with (refine Q7e rfl 53 (.tmp 4) _ rfl (Q7b + 1 + 1) 0 (hdC (qz1k H' 0)).toArray ?hxn24 ?hyn24 ?htn24 (qz7 _) (qzd _) ?_)
  try (case hxn24 => rfl)
  try (case hyn24 => rfl)
  case htn24 => exact F9
  refine bodyPost_ret (v := .agg (hdC (qz1k H' 0)).toArray) ?_ rfl ⟨by rw [hv.out], ?_⟩
  ·exact qz3 Tryz.results152 _ _ (Q7b + 1 + 1) 0 rfl (hdC (qz1k H' 0)) _ (Q7c _ _ _ _ F9) Q7d rfl (qz1 _)
  ·exact Below.setCells (by omega) _ _ _ K9
 obtain ⟨m, hcm⟩ : ∃ m : Nat, h.curr = m := ⟨h.curr.toNat, by omega⟩
 have hm : m < Q7f := by omega
 have hm' : (m : Int) < (Q7f : Int) := by omega
 have hm0 : (0 : Int) <= (m : Int) := by omega
 have bm : ((m : Int) != -1) = true := by simp <;> omega
 have bm' : ((m : Int) == -1) = false := by simp <;> omega
 rw [hcm] at q16
 obtain ⟨bb, off, rfl, hbb, R⟩ := qzq.at I0.n (by omega)
 have z0 : w0.cell? ⟨bb, off + m * 3 + 0, none⟩ = some (.int .i64 A.nodes[m].key) := (qze (sz := 3) (fun _ => rfl) R m hm) 0 _ rfl
 have z1 : w0.cell? ⟨bb, off + m * 3 + 1, none⟩ = some (.int .i64 A.nodes[m].value) := (qze (sz := 3) (fun _ => rfl) R m hm) 1 _ rfl
 simp only [Nat.add_zero] at z0
 clear R
 by_cases hkey : A.nodes[m].key = h.key
 case neg =>
  have bk : (A.nodes[m].key == h.key) = false := by simp [hkey]
  go_quiet (fail)
  have X1 : (w0.drewN nq).rangeAt Q7b 0 Q2r := X0
  have H1 : (w0.drewN nq).rangeAt (Q7b + 1) 0 (hdC h) := H0
  have F1 : (w0.drewN nq).there (Q7b + 1 + 1) 0 22 := F0
  have K1 : Below Q7b w (w0.drewN nq) := ⟨K0.os, K0.tape, K0.output, K0.size, K0.block⟩
  have hz1 : Q7b + 1 + 1 < (w0.drewN nq).heap.size := hz0
  have I1 : qzv B (w0.drewN nq) Q0u Q0s Q3a Q14 A := I0.below ⟨rfl, rfl, rfl, Q7l _, fun _ _ => rfl⟩
  have y3 : (w0.drewN nq).cell? ⟨Q7b, 3, none⟩ = some Q3a := x3
  have y2 : (w0.drewN nq).cell? ⟨Q7b + 1, 2, none⟩ = some (.int .i64 h.code) := q2
  have y16 : (w0.drewN nq).cell? ⟨Q7b + 1, 16, none⟩ = some (.int .i64 m) := q16
  have y18 : (w0.drewN nq).cell? ⟨Q7b + 1, 18, none⟩ = some (.int .i64 h.new_) := q18
  have y1 : (w0.drewN nq).cell? ⟨bb, off + m * 3 + 1, none⟩ = some (.int .i64 A.nodes[m].value) := z1
  generalize hw1 : w0.drewN nq = w1 at *
  clear hw1 X0 H0 F0 K0 I0 hz0 x0 x1 x2 x3 x4 q2 q3 q16 q18 G0 z0 z1
  by_cases k1 : h.code = 1
  case pos =>
   by_cases kn : h.new_ = -1
   ·obtain ⟨H', hH⟩ : ∃ H' : Hd, Hid (H' = h) := by exact ⟨_, rfl⟩
    have hv : Hid (qz1b A h = qz1k H' 7) := by show _ = _; rw [hH.out]; simp [qz1b, qz1k, hcm, qz1d A m hm, hkey, k1, kn]
    go_upto_region 5 with (first | fail)
    go_wp2_with (first | (refine Q7j rfl 53 (.tmp 3) rfl (Q7b + 1) 0 ?hxln25 (hdC H') _ ?hcn25 Q7d rfl (qz1 H') ?_))
    try (case hxln25 => rfl)
    case hcn25 => rw [hH.out]; exact H1
    refine (qz1g H' 7 _).mono ?_
    rintro e w9 ⟨rfl, b9⟩
    have F9 := qz2 F1 b9 (by first | omega | (simp; omega))
    have K9 := K1.trans (b9.mono (by first | omega | (simp; omega)))
    go_wp2_with (refine Q7e rfl 53 (.tmp 4) _ rfl (Q7b + 1 + 1) 0 (hdC (qz1k H' 7)).toArray ?hxn25 ?hyn25 ?htn25 (qz7 _) (qzd _) ?_)
    try (case hxn25 => rfl)
    try (case hyn25 => rfl)
    case htn25 => exact F9
    refine bodyPost_ret (v := .agg (hdC (qz1k H' 7)).toArray) ?_ rfl ⟨by rw [hv.out], ?_⟩
    ·exact qz3 Tryz.results152 _ _ (Q7b + 1 + 1) 0 rfl (hdC (qz1k H' 7)) _ (Q7c _ _ _ _ F9) Q7d rfl (qz1 _)
    ·exact Below.setCells (by omega) _ _ _ K9
   have bn : (h.new_ == -1) = false := by simp [kn]
   have kn' : 0 <= h.new_ := by omega
   obtain ⟨H', hH⟩ : ∃ H' : Hd, Hid (H' = h) := by exact ⟨_, rfl⟩
   have hv : Hid (qz1b A h = qz1k H' 8) := by show _ = _; rw [hH.out]; simp [qz1b, qz1k, hcm, qz1d A m hm, hkey, k1, kn']
   go_upto_region 7 with (first | fail)
   go_wp2_with (first | (refine Q7j rfl 53 (.tmp 3) rfl (Q7b + 1) 0 ?hxln26 (hdC H') _ ?hcn26 Q7d rfl (qz1 H') ?_))
   try (case hxln26 => rfl)
   case hcn26 => rw [hH.out]; exact H1
   refine (qz1g H' 8 _).mono ?_
   rintro e w9 ⟨rfl, b9⟩
   have F9 := qz2 F1 b9 (by first | omega | (simp; omega))
   have K9 := K1.trans (b9.mono (by first | omega | (simp; omega)))
   go_wp2_with (refine Q7e rfl 53 (.tmp 4) _ rfl (Q7b + 1 + 1) 0 (hdC (qz1k H' 8)).toArray ?hxn26 ?hyn26 ?htn26 (qz7 _) (qzd _) ?_)
   try (case hxn26 => rfl)
   try (case hyn26 => rfl)
   case htn26 => exact F9
   refine bodyPost_ret (v := .agg (hdC (qz1k H' 8)).toArray) ?_ rfl ⟨by rw [hv.out], ?_⟩
   ·exact qz3 Tryz.results152 _ _ (Q7b + 1 + 1) 0 rfl (hdC (qz1k H' 8)) _ (Q7c _ _ _ _ F9) Q7d rfl (qz1 _)
   ·exact Below.setCells (by omega) _ _ _ K9
  have b1 : (h.code == 1) = false := by simp [k1]
  by_cases k2 : h.code = 2
  ·obtain ⟨H', hH⟩ : ∃ H' : Hd, Hid (H' = h) := by exact ⟨_, rfl⟩
   have hv : Hid (qz1b A h = qz9 H' 3 0 0) := by show _ = _; rw [hH.out]; simp [qz1b, hcm, qz1d A m hm, hkey, k2]
   go_upto_region 11 with (first | fail)
   go_wp2_with (first | (refine Q7j rfl 53 (.tmp 3) rfl (Q7b + 1) 0 ?hxln27 (hdC H') _ ?hcn27 Q7d rfl (qz1 H') ?_))
   try (case hxln27 => rfl)
   case hcn27 => rw [hH.out]; exact H1
   refine (qz28 H' 3 0 0 _).mono ?_
   rintro e w9 ⟨rfl, b9⟩
   have F9 := qz2 F1 b9 (by first | omega | (simp; omega))
   have K9 := K1.trans (b9.mono (by first | omega | (simp; omega)))
   go_wp2_with (refine Q7e rfl 53 (.tmp 4) _ rfl (Q7b + 1 + 1) 0 (hdC (qz9 H' 3 0 0)).toArray ?hxn27 ?hyn27 ?htn27 (qz7 _) (qzd _) ?_)
   try (case hxn27 => rfl)
   try (case hyn27 => rfl)
   case htn27 => exact F9
   refine bodyPost_ret (v := .agg (hdC (qz9 H' 3 0 0)).toArray) ?_ rfl ⟨by rw [hv.out], ?_⟩
   ·exact qz3 Tryz.results152 _ _ (Q7b + 1 + 1) 0 rfl (hdC (qz9 H' 3 0 0)) _ (Q7c _ _ _ _ F9) Q7d rfl (qz1 _)
   ·exact Below.setCells (by omega) _ _ _ K9
  have b2 : (h.code == 2) = false := by simp [k2]
  by_cases k3 : h.code = 3
  ·obtain ⟨H', hH⟩ : ∃ H' : Hd, Hid (H' = h) := by exact ⟨_, rfl⟩
   have hv : Hid (qz1b A h = qz9 H' 3 0 0) := by show _ = _; rw [hH.out]; simp [qz1b, hcm, qz1d A m hm, hkey, k3]
   go_upto_region 11 with (first | fail)
   go_wp2_with (first | (refine Q7j rfl 53 (.tmp 3) rfl (Q7b + 1) 0 ?hxln28 (hdC H') _ ?hcn28 Q7d rfl (qz1 H') ?_))
   try (case hxln28 => rfl)
   case hcn28 => rw [hH.out]; exact H1
   refine (qz28 H' 3 0 0 _).mono ?_
   rintro e w9 ⟨rfl, b9⟩
   have F9 := qz2 F1 b9 (by first | omega | (simp; omega))
   have K9 := K1.trans (b9.mono (by first | omega | (simp; omega)))
   go_wp2_with (refine Q7e rfl 53 (.tmp 4) _ rfl (Q7b + 1 + 1) 0 (hdC (qz9 H' 3 0 0)).toArray ?hxn28 ?hyn28 ?htn28 (qz7 _) (qzd _) ?_)
   try (case hxn28 => rfl)
   try (case hyn28 => rfl)
   case htn28 => exact F9
   refine bodyPost_ret (v := .agg (hdC (qz9 H' 3 0 0)).toArray) ?_ rfl ⟨by rw [hv.out], ?_⟩
   ·exact qz3 Tryz.results152 _ _ (Q7b + 1 + 1) 0 rfl (hdC (qz9 H' 3 0 0)) _ (Q7c _ _ _ _ F9) Q7d rfl (qz1 _)
   ·exact Below.setCells (by omega) _ _ _ K9
  have b3 : (h.code == 3) = false := by simp [k3]
  obtain ⟨H', hH⟩ : ∃ H' : Hd, Hid (H' = h) := by exact ⟨_, rfl⟩
  have hv : Hid (qz1b A h = qz1k H' 0) := by show _ = _; rw [hH.out]; simp [qz1b, qz1k, k1, k2, k3]
  go_upto_region 12 with (first | fail)
  go_wp2_with (first | (refine Q7j rfl 53 (.tmp 3) rfl (Q7b + 1) 0 ?hxln29 (hdC H') _ ?hcn29 Q7d rfl (qz1 H') ?_))
  try (case hxln29 => rfl)
  case hcn29 => rw [hH.out]; exact H1
  refine (qz1g H' 0 _).mono ?_
  rintro e w9 ⟨rfl, b9⟩
  have F9 := qz2 F1 b9 (by first | omega | (simp; omega))
  have K9 := K1.trans (b9.mono (by first | omega | (simp; omega)))
  go_wp2_with (refine Q7e rfl 53 (.tmp 4) _ rfl (Q7b + 1 + 1) 0 (hdC (qz1k H' 0)).toArray ?hxn29 ?hyn29 ?htn29 (qz7 _) (qzd _) ?_)
  try (case hxn29 => rfl)
  try (case hyn29 => rfl)
  case htn29 => exact F9
  refine bodyPost_ret (v := .agg (hdC (qz1k H' 0)).toArray) ?_ rfl ⟨by rw [hv.out], ?_⟩
  ·exact qz3 Tryz.results152 _ _ (Q7b + 1 + 1) 0 rfl (hdC (qz1k H' 0)) _ (Q7c _ _ _ _ F9) Q7d rfl (qz1 _)
  ·exact Below.setCells (by omega) _ _ _ K9
 go_quiet (fail)
 have X1 : (w0.drewN nq).rangeAt Q7b 0 Q2r := X0
 have H1 : (w0.drewN nq).rangeAt (Q7b + 1) 0 (hdC h) := H0
 have F1 : (w0.drewN nq).there (Q7b + 1 + 1) 0 22 := F0
 have K1 : Below Q7b w (w0.drewN nq) := ⟨K0.os, K0.tape, K0.output, K0.size, K0.block⟩
 have hz1 : Q7b + 1 + 1 < (w0.drewN nq).heap.size := hz0
 have I1 : qzv B (w0.drewN nq) Q0u Q0s Q3a Q14 A := I0.below ⟨rfl, rfl, rfl, Q7l _, fun _ _ => rfl⟩
 have y3 : (w0.drewN nq).cell? ⟨Q7b, 3, none⟩ = some Q3a := x3
 have y2 : (w0.drewN nq).cell? ⟨Q7b + 1, 2, none⟩ = some (.int .i64 h.code) := q2
 have y16 : (w0.drewN nq).cell? ⟨Q7b + 1, 16, none⟩ = some (.int .i64 m) := q16
 have y18 : (w0.drewN nq).cell? ⟨Q7b + 1, 18, none⟩ = some (.int .i64 h.new_) := q18
 have y1 : (w0.drewN nq).cell? ⟨bb, off + m * 3 + 1, none⟩ = some (.int .i64 A.nodes[m].value) := z1
 generalize hw1 : w0.drewN nq = w1 at *
 clear hw1 X0 H0 F0 K0 I0 hz0 x0 x1 x2 x3 x4 q2 q3 q16 q18 G0 z0 z1
 by_cases k3 : h.code = 3
 ·have hv : Hid (qz1b A h = Q2k) := by show _ = _; simp [qz1b, hcm, k3, qz1d A m hm, hkey]
  go_wp2_with fail
  refine qz1o 8 (by kernel_rfl) (by kernel_rfl) ?_
  simp only [List.take_succ_cons, List.take_zero, List.drop_succ_cons, List.drop_zero]
  repeat (first | (refine qzw rfl 53 (.tmp 3) rfl (Q7b + 1) 0 ?s30x0 (hdC h) _ ?s30c0 Q7d rfl (qz1 _) ?_; (case s30x0 => rfl); (case s30c0 => rintro _ ⟨m, rfl⟩; exact H1)) | (quiet_step (fail)))
  refine wpQuiet_nil ?_
  rintro _ ⟨nr, rfl⟩
  go_wp2_with fail
  refine (qz28 h 2 A.nodes[m].value 0 _).mono ?_
  rintro e w2 ⟨rfl, b2⟩
  have F2 := qz2 F1 (b := Q7b + 1 + 1) (B := Q7k) (w' := w2) ⟨b2.os, b2.tape, b2.output, b2.size, b2.block⟩ (by omega)
  have K2 : Below Q7b w w2 := K1.trans (b := w1) ⟨b2.os, b2.tape, b2.output, b2.size, fun k hk => b2.block k (by show k < Q7k; omega)⟩
  go_wp2_with (refine Q7e rfl 53 (.tmp 4) _ rfl (Q7b + 1 + 1) 0 (hdC Q2k).toArray ?hxn31 ?hyn31 ?htn31 (qz7 Q2k) (qzd Q2k) ?_)
  try (case hxn31 => rfl)
  try (case hyn31 => rfl)
  case htn31 => exact F2
  refine bodyPost_ret (v := .agg (hdC Q2k).toArray) ?_ rfl ⟨by rw [hv.out], ?_⟩
  ·exact qz3 Tryz.results152 _ _ (Q7b + 1 + 1) 0 rfl (hdC Q2k) _ (Q7c _ _ _ _ F2) Q7d rfl (qz1 _)
  ·exact Below.setCells (by omega) _ _ _ K2
 have b3 : (h.code == 3) = false := by simp [k3]
 by_cases k1 : h.code = 1
 ·have hv : Hid (qz1b A h = Q2k) := by show _ = _; simp [qz1b, hcm, k1, qz1d A m hm, hkey]
  go_wp2_with fail
  refine qz1o 8 (by kernel_rfl) (by kernel_rfl) ?_
  simp only [List.take_succ_cons, List.take_zero, List.drop_succ_cons, List.drop_zero]
  repeat (first | (refine qzw rfl 53 (.tmp 3) rfl (Q7b + 1) 0 ?s32x0 (hdC h) _ ?s32c0 Q7d rfl (qz1 _) ?_; (case s32x0 => rfl); (case s32c0 => rintro _ ⟨m, rfl⟩; exact H1)) | (quiet_step (fail)))
  refine wpQuiet_nil ?_
  rintro _ ⟨nr, rfl⟩
  go_wp2_with fail
  refine (qz28 h 2 A.nodes[m].value 0 _).mono ?_
  rintro e w2 ⟨rfl, b2⟩
  have F2 := qz2 F1 (b := Q7b + 1 + 1) (B := Q7k) (w' := w2) ⟨b2.os, b2.tape, b2.output, b2.size, b2.block⟩ (by omega)
  have K2 : Below Q7b w w2 := K1.trans (b := w1) ⟨b2.os, b2.tape, b2.output, b2.size, fun k hk => b2.block k (by show k < Q7k; omega)⟩
  go_wp2_with (refine Q7e rfl 53 (.tmp 4) _ rfl (Q7b + 1 + 1) 0 (hdC Q2k).toArray ?hxn33 ?hyn33 ?htn33 (qz7 Q2k) (qzd Q2k) ?_)
  try (case hxn33 => rfl)
  try (case hyn33 => rfl)
  case htn33 => exact F2
  refine bodyPost_ret (v := .agg (hdC Q2k).toArray) ?_ rfl ⟨by rw [hv.out], ?_⟩
  ·exact qz3 Tryz.results152 _ _ (Q7b + 1 + 1) 0 rfl (hdC Q2k) _ (Q7c _ _ _ _ F2) Q7d rfl (qz1 _)
  ·exact Below.setCells (by omega) _ _ _ K2
 have b1 : (h.code == 1) = false := by simp [k1]
 by_cases k2 : h.code = 2
 ·obtain ⟨H', hH⟩ : ∃ H' : Hd, Hid (H' = h) := by exact ⟨_, rfl⟩
  have hv : Hid (qz1b A h = qz1k H' 11) := by show _ = _; rw [hH.out]; simp [qz1b, qz1k, hcm, k2, qz1d A m hm, hkey]
  go_upto_region 9 with (first | fail)
  go_wp2_with (first | (refine Q7j rfl 53 (.tmp 3) rfl (Q7b + 1) 0 ?hxln34 (hdC H') _ ?hcn34 Q7d rfl (qz1 H') ?_))
  try (case hxln34 => rfl)
  case hcn34 => rw [hH.out]; exact H1
  refine (qz1g H' 11 _).mono ?_
  rintro e w9 ⟨rfl, b9⟩
  have F9 := qz2 F1 b9 (by first | omega | (simp; omega))
  have K9 := K1.trans (b9.mono (by first | omega | (simp; omega)))
  go_wp2_with (refine Q7e rfl 53 (.tmp 4) _ rfl (Q7b + 1 + 1) 0 (hdC (qz1k H' 11)).toArray ?hxn34 ?hyn34 ?htn34 (qz7 _) (qzd _) ?_)
  try (case hxn34 => rfl)
  try (case hyn34 => rfl)
  case htn34 => exact F9
  refine bodyPost_ret (v := .agg (hdC (qz1k H' 11)).toArray) ?_ rfl ⟨by rw [hv.out], ?_⟩
  ·exact qz3 Tryz.results152 _ _ (Q7b + 1 + 1) 0 rfl (hdC (qz1k H' 11)) _ (Q7c _ _ _ _ F9) Q7d rfl (qz1 _)
  ·exact Below.setCells (by omega) _ _ _ K9
 have b2 : (h.code == 2) = false := by simp [k2]
 obtain ⟨H', hH⟩ : ∃ H' : Hd, Hid (H' = h) := by exact ⟨_, rfl⟩
 have hv : Hid (qz1b A h = qz1k H' 0) := by show _ = _; rw [hH.out]; simp [qz1b, qz1k, k1, k2, k3]
 go_upto_region 12 with (first | fail)
 go_wp2_with (first | (refine Q7j rfl 53 (.tmp 3) rfl (Q7b + 1) 0 ?hxln35 (hdC H') _ ?hcn35 Q7d rfl (qz1 H') ?_))
 try (case hxln35 => rfl)
 case hcn35 => rw [hH.out]; exact H1
 refine (qz1g H' 0 _).mono ?_
 rintro e w9 ⟨rfl, b9⟩
 have F9 := qz2 F1 b9 (by first | omega | (simp; omega))
 have K9 := K1.trans (b9.mono (by first | omega | (simp; omega)))
 go_wp2_with (refine Q7e rfl 53 (.tmp 4) _ rfl (Q7b + 1 + 1) 0 (hdC (qz1k H' 0)).toArray ?hxn35 ?hyn35 ?htn35 (qz7 _) (qzd _) ?_)
 try (case hxn35 => rfl)
 try (case hyn35 => rfl)
 case htn35 => exact F9
 refine bodyPost_ret (v := .agg (hdC (qz1k H' 0)).toArray) ?_ rfl ⟨by rw [hv.out], ?_⟩
 ·exact qz3 Tryz.results152 _ _ (Q7b + 1 + 1) 0 rfl (hdC (qz1k H' 0)) _ (Q7c _ _ _ _ F9) Q7d rfl (qz1 _)
 ·exact Below.setCells (by omega) _ _ _ K9
end
section
attribute [local go_sem ↓] Go.wp_at_zero Go.wp_at_succ
theorem qz69 (B : Nat) (A : Ar) (h : Hd) (n : Int) (a0 a1 a2 a3 : Option Addr) (c0 c1 c2 c3 : Nat) (w : World) (hB : B <= Q7b) (hA : A.size <= 1048576) (I : qzv B w Q0u Q0s Q0v Q14 A) (hn0 : -1 <= h.new_) :
  Calls Tryz.prog 151 #[.agg Q02, .agg (hdC h).toArray, .int .i64 n] w fun e w' => e = .returned (.agg (hdC (qz3q A h n)).toArray) /\ Below Q7b w w' := by
 have hA' := hA
 unfold Ar.size at hA
 have X0 := Q7n (Q7n (qz6 w Q0j 33) Q0d) (.cells Q00 53)
 have H0 := Q7n (qz6 Q26 (hdC h) 53) (.cells Q00 53)
 have G0 := Q80 (qza Q26 (hdC h).toArray 53 22 (by simp [hdC])) (.cells Q00 53)
 have F0 := qza ((Q26).alloc Q0d) Q00 53 22 (by decide)
 have K0 := ((((Q7g Q7b w).alloc (Q7l _) (.cells Q02 33)).alloc (by simp) Q0d).alloc (by simp <;> omega) (.cells Q00 53))
 have hz0 : Q7b + 1 + 1 < (((Q26).alloc Q0d).alloc (.cells Q00 53)).heap.size := by simp
 simp only [World.size_alloc] at H0 G0 F0
 have I0 := I.below (K0.mono hB)
 go_enter Tryz.func151, Tryz.ntmps151
 have tok : True := trivial
 go_wp2_with (clear tok; refine qz1q (((Q26).alloc Q0d).alloc (.cells Q00 53)) ?_)
 generalize hw0 : ((Q26).alloc Q0d).alloc (.cells Q00 53) = w0 at *
 clear hw0 I
 show wpList _ _ _ _ _ w0
 obtain ⟨x0, x1, x2, x3, x4⟩ := row5 X0
 have q1 : w0.cell? ⟨Q7b + 1, 1, none⟩ = some (.int .i64 h.then_) := by simpa using H0 1 (.int .i64 h.then_) rfl
 have q10 : w0.cell? ⟨Q7b + 1, 10, none⟩ = some (.int .i64 h.x_) := by simpa using H0 10 (.int .i64 h.x_) rfl
 have q16 : w0.cell? ⟨Q7b + 1, 16, none⟩ = some (.int .i64 h.curr) := by simpa using H0 16 (.int .i64 h.curr) rfl
 have f1 : w0.frozen? ⟨Q7b + 1, 1, none⟩ = false := by simpa using (G0 1 (by decide)).2
 have f10 : w0.frozen? ⟨Q7b + 1, 10, none⟩ = false := by simpa using (G0 10 (by decide)).2
 have f16 : w0.frozen? ⟨Q7b + 1, 16, none⟩ = false := by simpa using (G0 16 (by decide)).2
 by_cases hn : n = -1
 ·subst hn
  obtain ⟨H', hH⟩ : ∃ H' : Hd, Hid (H' = { h with curr := -1 }) := by exact ⟨_, rfl⟩
  have hv : Hid (qz3q A h (-1) = qz1b A H') := by show _ = _; rw [hH.out]; simp [qz3q]
  go_wp2_with (first | (refine Q7j rfl 53 (.tmp 4) rfl (Q7b + 1) 0 ?hxln36 (hdC H') _ ?hcn36 Q7d rfl (qz1 H') ?_))
  try (case hxln36 => rfl)
  case hcn36 => rw [hH.out]; exact (qzb H0 16 (by simp [hdC]) _)
  refine (qzbe B A H' _ _ _ _ _ _ _ _ _ (by first | omega | (simp; omega)) hA' (I0.below (Below.setCell (Q7g B w0) (p := ⟨Q7b + 1, 16, none⟩) (by show B <= Q7b + 1; omega) _)) (by rw [hH.out]; show (-1 : Int) <= -1; omega) (by rw [hH.out]; show (-1 : Int) < _; omega) (by rw [hH.out]; exact hn0)).mono ?_
  rintro e w9 ⟨rfl, b9⟩
  have F9 := qz2 (qz5 F0 _ _) b9 (by first | omega | (simp; omega))
  have K9 := (Below.setCell K0 (p := ⟨Q7b + 1, 16, none⟩) (by show Q7b <= Q7b + 1; omega) _).trans (b9.mono (by first | omega | (simp; omega)))
  go_wp2_with (refine Q7e rfl 53 (.tmp 6) _ rfl (Q7b + 1 + 1) 0 (hdC (qz1b A H')).toArray ?hxn36 ?hyn36 ?htn36 (qz7 _) (qzd _) ?_)
  try (case hxn36 => rfl)
  try (case hyn36 => rfl)
  case htn36 => exact F9
  refine bodyPost_ret (v := .agg (hdC (qz1b A H')).toArray) ?_ rfl ⟨by rw [hv.out], ?_⟩
  ·exact qz3 Tryz.results151 _ _ (Q7b + 1 + 1) 0 rfl (hdC (qz1b A H')) _ (Q7c _ _ _ _ F9) Q7d rfl (qz1 _)
  ·exact Below.setCells (by omega) _ _ _ K9
 have bn : (n == -1) = false := by simp [hn]
 obtain ⟨H', hH⟩ : ∃ H' : Hd, Hid (H' = { h with curr := n, x_ := n, then_ := 2 }) := by exact ⟨_, rfl⟩
 have hv : Hid (qz3q A h n = qz1k H' 2) := by show _ = _; rw [hH.out]; simp [qz3q, qz1k, hn]
 go_wp2_with (first | (refine Q7j rfl 53 (.tmp 4) rfl (Q7b + 1) 0 ?hxln37 (hdC H') _ ?hcn37 Q7d rfl (qz1 H') ?_))
 try (case hxln37 => rfl)
 case hcn37 => rw [hH.out]; exact (qzb (qzb (qzb H0 16 (by simp [hdC]) _) 10 (by simp [hdC]) _) 1 (by simp [hdC]) _)
 refine (qz1g H' 2 _).mono ?_
 rintro e w9 ⟨rfl, b9⟩
 have F9 := qz2 Q6x b9 (by first | omega | (simp; omega))
 have K9 := (Below.setCell (Below.setCell (Below.setCell K0 (p := ⟨Q7b + 1, 16, none⟩) (by show Q7b <= Q7b + 1; omega) _) (p := ⟨Q7b + 1, 10, none⟩) (by show Q7b <= Q7b + 1; omega) _) (p := ⟨Q7b + 1, 1, none⟩) (by show Q7b <= Q7b + 1; omega) _).trans (b9.mono (by first | omega | (simp; omega)))
 go_wp2_with (refine Q7e rfl 53 (.tmp 6) _ rfl (Q7b + 1 + 1) 0 (hdC (qz1k H' 2)).toArray ?hxn37 ?hyn37 ?htn37 (qz7 _) (qzd _) ?_)
 try (case hxn37 => rfl)
 try (case hyn37 => rfl)
 case htn37 => exact F9
 refine bodyPost_ret (v := .agg (hdC (qz1k H' 2)).toArray) ?_ rfl ⟨by rw [hv.out], ?_⟩
 ·exact qz3 Tryz.results151 _ _ (Q7b + 1 + 1) 0 rfl (hdC (qz1k H' 2)) _ (Q7c _ _ _ _ F9) Q7d rfl (qz1 _)
 ·exact Below.setCells (by omega) _ _ _ K9
end
end Go.Proofs.YthjkdnlmopafkaaGreat
