/-
  What the law's proof goes by, part 9.
-/
import Derived.Deep.Cut
import Derived.Test.YthjkdnlmopafkaaGreatDoorFnSwappedCard00
import Derived.Test.YthjkdnlmopafkaaGreatDoorFnSwappedCard02
import Derived.Test.YthjkdnlmopafkaaGreatDoorFnSwappedCard04
import Derived.Test.YthjkdnlmopafkaaGreatDoorFnSwappedCard07
namespace Go.Proofs.YthjkdnlmopafkaaGreatDoor
open Go.ChangeShapes Go.WideShapes Go.ChangeAt Go.RowKit
set_option maxRecDepth 100000
set_option maxHeartbeats 16000000
set_option linter.unusedVariables false
set_option linter.unusedSimpArgs false
set_option linter.unnecessarySimpa false
set_option linter.unusedSectionVars false
section
attribute [local go_sem ↓] Go.wp_at_zero Go.wp_at_succ
def qz2e (A : Ar) (h : Hd) : Hd :=
 if h.code = 3 then (if 0 <= h.curr /\ (ndOf A h.curr).key = h.key then qz9 h 2 (ndOf A h.curr).value 0 else qz9 h 3 0 0)
 else if h.code = 1 then (if 0 <= h.curr /\ (ndOf A h.curr).key = h.key then qz9 h 2 (ndOf A h.curr).value 0 else { h with at_ := if 0 <= h.new_ then 8 else 7 })
 else if h.code = 2 then (if 0 <= h.curr /\ (ndOf A h.curr).key = h.key then { h with at_ := 11 } else qz9 h 3 0 0)
 else { h with at_ := 0 }
def qz5j (A : Ar) (h : Hd) (n : Int) : Hd :=
 if n = -1 then qz2e A { h with curr := n } else { h with curr := n, x_ := n, then_ := 2, at_ := 2 }
theorem qzt (h : Hd) (rp ot sm : Int) (w : World) :
  Calls Tryz.prog 102 #[.agg (hdC h).toArray, .int .i64 rp, .int .i64 ot, .int .i64 sm] w fun e w' => e = .returned (.agg (hdC (qz9 h rp ot sm)).toArray) /\ Below Q6o w w' := by
 have X0 := Q7b (qz6 w (hdC h) 56) (.cells Q00 56)
 have F0 := qzg (w.alloc Q0p) Q00 56 22 (by decide)
 have K0 := ((Q6s Q6o w).alloc (Q6v _) Q0p).alloc (by simp) (.cells Q00 56)
 have hz0 : Q6o + 1 < ((w.alloc Q0p).alloc (.cells Q00 56)).heap.size := by simp
 simp only [World.size_alloc] at F0
 go_enter Tryz.func102, Tryz.ntmps102
 go_wp2_with (refine Q6z rfl 56 (.tmp 4) rfl Q6o 0 rfl (hdC h) _ ?hc Q6x rfl (qz4 h) ?_)
 case hc => exact X0
 generalize hw0 : (w.alloc Q0p).alloc (.cells Q00 56) = w0 at *
 clear hw0
 refine (qz56 h rp ot sm _).mono ?_
 rintro e w1 ⟨rfl, b1⟩
 have F1 := qz5 F0 b1 (by omega)
 have K1 := K0.trans (b1.mono (by omega))
 clear X0 F0 K0
 go_wp2_with (refine Q6t rfl 56 (.tmp 8) _ rfl (Q6o + 1) 0 _ rfl rfl ?ht ?hi ?h1 ?_)
 case ht => exact F1
 case hi => exact qzc _
 case h1 => exact qzk _
 refine bodyPost_ret (v := .agg (hdC (qz9 h rp ot sm)).toArray) ?_ rfl ⟨rfl, ?_⟩
 ·exact qz3 Tryz.results102 _ _ (Q6o + 1) 0 rfl (hdC (qz9 h rp ot sm)) _ (Q6u _ _ _ _ F1) Q6x rfl (qz4 _)
 ·exact Below.setCells (by omega) _ _ _ K1
theorem qz7u (B : Nat) (A : Ar) (h : Hd) (a0 a1 a2 a3 : Option Addr) (c0 c1 c2 c3 : Nat) (w : World) (hB : B <= Q6o) (hA : A.size <= 1048576) (I : qz1j B w Q0x Q0w Q0t Q11 A) (hcu : h.curr < (Q6q : Int)) :
  Calls Tryz.prog 163 Q5d w fun e w' => e = .returned (.agg (hdC (qz2e A h)).toArray) /\ Below Q6o w w' := by
 have hA' := hA
 unfold Ar.size at hA
 have X0 := Q7b (Q7b (qz6 w Q0j 30) Q0p) (.cells Q00 56)
 have H0 := Q7b (qz6 Q35 (hdC h) 56) (.cells Q00 56)
 have G0 := Q7h (qzg Q35 (hdC h).toArray 56 22 (by simp [hdC])) (.cells Q00 56)
 have F0 := qzg ((Q35).alloc Q0p) Q00 56 22 (by decide)
 have K0 := (((Q6s Q6o w).alloc (Q6v _) (.cells Q02 30)).alloc (by simp) Q0p).alloc (by simp; omega) (.cells Q00 56)
 have hz0 : Q6o + 1 + 1 < (Q2j).heap.size := by simp
 simp only [World.size_alloc] at H0 G0 F0
 have I0 := I.below (K0.mono hB)
 go_enter Tryz.func163, Tryz.ntmps163
 go_wp2_with fail
 generalize hw0 : ((Q35).alloc Q0p).alloc (.cells Q00 56) = w0 at *
 clear hw0 I
 obtain ⟨x0, x1, x2, x3, x4⟩ := row5 X0
 have q2 : w0.cell? ⟨Q6o + 1, 2, none⟩ = some (.int .i64 h.code) := by simpa using H0 2 (.int .i64 h.code) rfl
 have q3 : w0.cell? ⟨Q6o + 1, 3, none⟩ = some (.int .i64 h.key) := by simpa using H0 3 (.int .i64 h.key) rfl
 have q16 : w0.cell? ⟨Q6o + 1, 16, none⟩ = some (.int .i64 h.curr) := by simpa using H0 16 (.int .i64 h.curr) rfl
 have q18 : w0.cell? ⟨Q6o + 1, 18, none⟩ = some (.int .i64 h.new_) := by simpa using H0 18 (.int .i64 h.new_) rfl
 have f0 : w0.frozen? ⟨Q6o + 1, 0, none⟩ = false := by simpa using (G0 0 (by decide)).2
 by_cases hc0 : 0 <= h.curr
 case neg =>
  go_quiet (fail)
  have X1 : (w0.drewN nq).rangeAt Q6o 0 Q0j := X0
  have H1 : (w0.drewN nq).rangeAt (Q6o + 1) 0 (hdC h) := H0
  have F1 : (w0.drewN nq).there (Q6o + 1 + 1) 0 22 := F0
  have K1 : Below Q6o w (w0.drewN nq) := ⟨K0.os, K0.tape, K0.output, K0.size, K0.block⟩
  have hz1 : Q6o + 1 + 1 < (w0.drewN nq).heap.size := hz0
  have I1 : qz1j B (w0.drewN nq) Q0x Q0w Q0t Q11 A := I0.below ⟨rfl, rfl, rfl, Q6v _, fun _ _ => rfl⟩
  have y3 : (w0.drewN nq).cell? ⟨Q6o, 3, none⟩ = some Q0t := x3
  have y2 : (w0.drewN nq).cell? ⟨Q6o + 1, 2, none⟩ = some (.int .i64 h.code) := q2
  have y16 : (w0.drewN nq).cell? ⟨Q6o + 1, 16, none⟩ = some (.int .i64 h.curr) := q16
  have y18 : (w0.drewN nq).cell? ⟨Q6o + 1, 18, none⟩ = some (.int .i64 h.new_) := q18
  have g0 : (w0.drewN nq).frozen? ⟨Q6o + 1, 0, none⟩ = false := f0
  have y0 : (w0.drewN nq).cell? ⟨Q6o + 1, 0, none⟩ = some (.int .i64 h.at_) := by simpa using H1 0 (.int .i64 h.at_) rfl
  generalize hw1 : w0.drewN nq = w1 at *
  clear hw1 X0 H0 F0 K0 I0 hz0 x0 x1 x2 x3 x4 q2 q3 q16 q18 f0 G0
  by_cases k3 : h.code = 3
  ·have hv : Hid (qz2e A h = (qz9 h 3 0 0)) := by show _ = _; simp [qz2e, hc0, k3]
   go_wp2_with (first | (refine Q6z rfl 56 (.tmp 3) rfl (Q6o + 1) 0 ?hxln1 (hdC h) _ ?hcn1 Q6x rfl (qz4 _) ?_))
   try (case hxln1 => rfl)
   try (case hcn1 => exact H1)
   refine (qzt h 3 0 0 _).mono ?_
   rintro e w2 ⟨rfl, b2⟩
   have F2 := qz5 F1 b2 (by omega)
   have K2 := K1.trans (b2.mono (by omega))
   go_wp2_with (refine Q6t rfl 56 (.tmp 4) _ rfl (Q6o + 1 + 1) 0 (hdC (qz9 h 3 0 0)).toArray ?hxn1 ?hyn1 ?htn1 (qzc (qz9 h 3 0 0)) (qzk (qz9 h 3 0 0)) ?_)
   try (case hxn1 => rfl)
   try (case hyn1 => rfl)
   case htn1 => exact F2
   refine bodyPost_ret (v := .agg (hdC (qz9 h 3 0 0)).toArray) ?_ rfl ⟨by rw [hv.out], ?_⟩
   ·exact qz3 Tryz.results163 _ _ (Q6o + 1 + 1) 0 rfl (hdC (qz9 h 3 0 0)) _ (Q6u _ _ _ _ F2) Q6x rfl (qz4 _)
   ·exact Below.setCells (by omega) _ _ _ K2
  have b3 : (h.code == 3) = false := by simp [k3]
  by_cases k1 : h.code = 1
  ·by_cases kn : 0 <= h.new_
   ·obtain ⟨H', hH⟩ : ∃ H' : Hd, Hid (H' = { h with at_ := 8 }) := ⟨_, rfl⟩
    have hv : Hid (qz2e A h = H') := by show _ = _; rw [hH.out]; simp [qz2e, hc0, k1, kn]
    go_wp2_with (first | (refine Q6z rfl 56 (.tmp 3) rfl (Q6o + 1) 0 ?hxln2 (hdC H') _ ?hcn2 Q6x rfl (qz4 H') ?_) | (refine Q6t rfl 56 (.tmp 4) _ rfl (Q6o + 1 + 1) 0 (hdC H').toArray ?hxn2 ?hyn2 ?htn2 (qzc H') (qzk H') ?_))
    try (case hxln2 => rfl)
    case hcn2 => rw [hH.out]; exact (qzb (qzb H1 0 (by simp [hdC]) _) 0 (by simp [hdC]) _)
    try (case hxn2 => rfl)
    try (case hyn2 => rfl)
    case htn2 => exact (qz2 (qz2 F1 _ _) _ _)
    refine bodyPost_ret (v := .agg (hdC H').toArray) ?_ rfl ⟨by rw [hv.out], ?_⟩
    ·exact qz3 Tryz.results163 _ _ (Q6o + 1 + 1) 0 rfl (hdC H') _ (Q6u _ _ _ _ (qz2 (qz2 F1 _ _) _ _)) Q6x rfl (qz4 _)
    ·exact Below.setCells (by omega) _ _ _ (Below.setCell (Below.setCell K1 (p := ⟨Q6o + 1, 0, none⟩) (by show Q6o <= Q6o + 1; omega) _) (p := ⟨Q6o + 1, 0, none⟩) (by show Q6o <= Q6o + 1; omega) _)
   ·obtain ⟨H', hH⟩ : ∃ H' : Hd, Hid (H' = { h with at_ := 7 }) := ⟨_, rfl⟩
    have hv : Hid (qz2e A h = H') := by show _ = _; rw [hH.out]; simp [qz2e, hc0, k1, kn]
    go_wp2_with (first | (refine Q6z rfl 56 (.tmp 3) rfl (Q6o + 1) 0 ?hxln3 (hdC H') _ ?hcn3 Q6x rfl (qz4 H') ?_) | (refine Q6t rfl 56 (.tmp 4) _ rfl (Q6o + 1 + 1) 0 (hdC H').toArray ?hxn3 ?hyn3 ?htn3 (qzc H') (qzk H') ?_))
    try (case hxln3 => rfl)
    case hcn3 => rw [hH.out]; exact (qzb H1 0 (by simp [hdC]) _)
    try (case hxn3 => rfl)
    try (case hyn3 => rfl)
    case htn3 => exact (qz2 F1 _ _)
    refine bodyPost_ret (v := .agg (hdC H').toArray) ?_ rfl ⟨by rw [hv.out], ?_⟩
    ·exact qz3 Tryz.results163 _ _ (Q6o + 1 + 1) 0 rfl (hdC H') _ (Q6u _ _ _ _ (qz2 F1 _ _)) Q6x rfl (qz4 _)
    ·exact Below.setCells (by omega) _ _ _ (Below.setCell K1 (p := ⟨Q6o + 1, 0, none⟩) (by show Q6o <= Q6o + 1; omega) _)
  have b1 : (h.code == 1) = false := by simp [k1]
  by_cases k2 : h.code = 2
  ·have hv : Hid (qz2e A h = (qz9 h 3 0 0)) := by show _ = _; simp [qz2e, hc0, k2]
   go_wp2_with (first | (refine Q6z rfl 56 (.tmp 3) rfl (Q6o + 1) 0 ?hxln4 (hdC h) _ ?hcn4 Q6x rfl (qz4 _) ?_))
   try (case hxln4 => rfl)
   try (case hcn4 => exact H1)
   refine (qzt h 3 0 0 _).mono ?_
   rintro e w2 ⟨rfl, b2⟩
   have F2 := qz5 F1 b2 (by omega)
   have K2 := K1.trans (b2.mono (by omega))
   go_wp2_with (refine Q6t rfl 56 (.tmp 4) _ rfl (Q6o + 1 + 1) 0 (hdC (qz9 h 3 0 0)).toArray ?hxn4 ?hyn4 ?htn4 (qzc (qz9 h 3 0 0)) (qzk (qz9 h 3 0 0)) ?_)
   try (case hxn4 => rfl)
   try (case hyn4 => rfl)
   case htn4 => exact F2
   refine bodyPost_ret (v := .agg (hdC (qz9 h 3 0 0)).toArray) ?_ rfl ⟨by rw [hv.out], ?_⟩
   ·exact qz3 Tryz.results163 _ _ (Q6o + 1 + 1) 0 rfl (hdC (qz9 h 3 0 0)) _ (Q6u _ _ _ _ F2) Q6x rfl (qz4 _)
   ·exact Below.setCells (by omega) _ _ _ K2
  have b2 : (h.code == 2) = false := by simp [k2]
  obtain ⟨H', hH⟩ : ∃ H' : Hd, Hid (H' = { h with at_ := 0 }) := ⟨_, rfl⟩
  have hv : Hid (qz2e A h = H') := by show _ = _; rw [hH.out]; simp [qz2e, k1, k2, k3]
  go_wp2_with (first | (refine Q6z rfl 56 (.tmp 3) rfl (Q6o + 1) 0 ?hxln5 (hdC H') _ ?hcn5 Q6x rfl (qz4 H') ?_) | (refine Q6t rfl 56 (.tmp 4) _ rfl (Q6o + 1 + 1) 0 (hdC H').toArray ?hxn5 ?hyn5 ?htn5 (qzc H') (qzk H') ?_))
  try (case hxln5 => rfl)
  case hcn5 => rw [hH.out]; exact (qzb H1 0 (by simp [hdC]) _)
  try (case hxn5 => rfl)
  try (case hyn5 => rfl)
  case htn5 => exact (qz2 F1 _ _)
  refine bodyPost_ret (v := .agg (hdC H').toArray) ?_ rfl ⟨by rw [hv.out], ?_⟩
  ·exact qz3 Tryz.results163 _ _ (Q6o + 1 + 1) 0 rfl (hdC H') _ (Q6u _ _ _ _ (qz2 F1 _ _)) Q6x rfl (qz4 _)
  ·exact Below.setCells (by omega) _ _ _ (Below.setCell K1 (p := ⟨Q6o + 1, 0, none⟩) (by show Q6o <= Q6o + 1; omega) _)
 obtain ⟨m, hcm⟩ : ∃ m : Nat, h.curr = m := ⟨h.curr.toNat, by omega⟩
 have hm : m < Q6q := by omega
 have hm' : (m : Int) < (Q6q : Int) := by omega
 have hm0 : (0 : Int) <= (m : Int) := by omega
 rw [hcm] at q16
 obtain ⟨bb, off, rfl, hbb, R⟩ := qzu.at I0.n (by omega)
 have z0 : w0.cell? ⟨bb, off + m * 3 + 0, none⟩ = some (.int .i64 A.nodes[m].key) := (qzi (sz := 3) (fun _ => rfl) R m hm) 0 _ rfl
 have z1 : w0.cell? ⟨bb, off + m * 3 + 1, none⟩ = some (.int .i64 A.nodes[m].value) := (qzi (sz := 3) (fun _ => rfl) R m hm) 1 _ rfl
 simp only [Nat.add_zero] at z0
 clear R
 by_cases hkey : A.nodes[m].key = h.key
 case neg =>
  have bk : (A.nodes[m].key == h.key) = false := by simp [hkey]
  go_quiet (fail)
  have X1 : (w0.drewN nq).rangeAt Q6o 0 Q54 := X0
  have H1 : (w0.drewN nq).rangeAt (Q6o + 1) 0 (hdC h) := H0
  have F1 : (w0.drewN nq).there (Q6o + 1 + 1) 0 22 := F0
  have K1 : Below Q6o w (w0.drewN nq) := ⟨K0.os, K0.tape, K0.output, K0.size, K0.block⟩
  have hz1 : Q6o + 1 + 1 < (w0.drewN nq).heap.size := hz0
  have I1 : qz1j B (w0.drewN nq) Q0x Q0w Q5c Q11 A := I0.below ⟨rfl, rfl, rfl, Q6v _, fun _ _ => rfl⟩
  have y3 : (w0.drewN nq).cell? ⟨Q6o, 3, none⟩ = some Q5c := x3
  have y2 : (w0.drewN nq).cell? ⟨Q6o + 1, 2, none⟩ = some (.int .i64 h.code) := q2
  have y16 : (w0.drewN nq).cell? ⟨Q6o + 1, 16, none⟩ = some (.int .i64 m) := q16
  have y18 : (w0.drewN nq).cell? ⟨Q6o + 1, 18, none⟩ = some (.int .i64 h.new_) := q18
  have g0 : (w0.drewN nq).frozen? ⟨Q6o + 1, 0, none⟩ = false := f0
  have y0 : (w0.drewN nq).cell? ⟨Q6o + 1, 0, none⟩ = some (.int .i64 h.at_) := by simpa using H1 0 (.int .i64 h.at_) rfl
  generalize hw1 : w0.drewN nq = w1 at *
  clear hw1 X0 H0 F0 K0 I0 hz0 x0 x1 x2 x3 x4 q2 q3 q16 q18 f0 G0 z0 z1 bk
  by_cases k3 : h.code = 3
  ·have hv : Hid (qz2e A h = (qz9 h 3 0 0)) := by show _ = _; simp [qz2e, hcm, qz1l A m hm, hkey, k3]
   go_wp2_with (first | (refine Q6z rfl 56 (.tmp 3) rfl (Q6o + 1) 0 ?hxln6 (hdC h) _ ?hcn6 Q6x rfl (qz4 _) ?_))
   try (case hxln6 => rfl)
   try (case hcn6 => exact H1)
   refine (qzt h 3 0 0 _).mono ?_
   rintro e w2 ⟨rfl, b2⟩
   have F2 := qz5 F1 b2 (by omega)
   have K2 := K1.trans (b2.mono (by omega))
   go_wp2_with (refine Q6t rfl 56 (.tmp 4) _ rfl (Q6o + 1 + 1) 0 (hdC (qz9 h 3 0 0)).toArray ?hxn6 ?hyn6 ?htn6 (qzc (qz9 h 3 0 0)) (qzk (qz9 h 3 0 0)) ?_)
   try (case hxn6 => rfl)
   try (case hyn6 => rfl)
   case htn6 => exact F2
   refine bodyPost_ret (v := .agg (hdC (qz9 h 3 0 0)).toArray) ?_ rfl ⟨by rw [hv.out], ?_⟩
   ·exact qz3 Tryz.results163 _ _ (Q6o + 1 + 1) 0 rfl (hdC (qz9 h 3 0 0)) _ (Q6u _ _ _ _ F2) Q6x rfl (qz4 _)
   ·exact Below.setCells (by omega) _ _ _ K2
  have b3 : (h.code == 3) = false := by simp [k3]
  by_cases k1 : h.code = 1
  ·by_cases kn : 0 <= h.new_
   ·obtain ⟨H', hH⟩ : ∃ H' : Hd, Hid (H' = { h with at_ := 8 }) := ⟨_, rfl⟩
    have hv : Hid (qz2e A h = H') := by show _ = _; rw [hH.out]; simp [qz2e, hcm, qz1l A m hm, hkey, k1, kn]
    go_wp2_with (first | (refine Q6z rfl 56 (.tmp 3) rfl (Q6o + 1) 0 ?hxln7 (hdC H') _ ?hcn7 Q6x rfl (qz4 H') ?_) | (refine Q6t rfl 56 (.tmp 4) _ rfl (Q6o + 1 + 1) 0 (hdC H').toArray ?hxn7 ?hyn7 ?htn7 (qzc H') (qzk H') ?_))
    try (case hxln7 => rfl)
    case hcn7 => rw [hH.out]; exact (qzb (qzb H1 0 (by simp [hdC]) _) 0 (by simp [hdC]) _)
    try (case hxn7 => rfl)
    try (case hyn7 => rfl)
    case htn7 => exact (qz2 (qz2 F1 _ _) _ _)
    refine bodyPost_ret (v := .agg (hdC H').toArray) ?_ rfl ⟨by rw [hv.out], ?_⟩
    ·exact qz3 Tryz.results163 _ _ (Q6o + 1 + 1) 0 rfl (hdC H') _ (Q6u _ _ _ _ (qz2 (qz2 F1 _ _) _ _)) Q6x rfl (qz4 _)
    ·exact Below.setCells (by omega) _ _ _ (Below.setCell (Below.setCell K1 (p := ⟨Q6o + 1, 0, none⟩) (by show Q6o <= Q6o + 1; omega) _) (p := ⟨Q6o + 1, 0, none⟩) (by show Q6o <= Q6o + 1; omega) _)
   ·obtain ⟨H', hH⟩ : ∃ H' : Hd, Hid (H' = { h with at_ := 7 }) := ⟨_, rfl⟩
    have hv : Hid (qz2e A h = H') := by show _ = _; rw [hH.out]; simp [qz2e, hcm, qz1l A m hm, hkey, k1, kn]
    go_wp2_with (first | (refine Q6z rfl 56 (.tmp 3) rfl (Q6o + 1) 0 ?hxln8 (hdC H') _ ?hcn8 Q6x rfl (qz4 H') ?_) | (refine Q6t rfl 56 (.tmp 4) _ rfl (Q6o + 1 + 1) 0 (hdC H').toArray ?hxn8 ?hyn8 ?htn8 (qzc H') (qzk H') ?_))
    try (case hxln8 => rfl)
    case hcn8 => rw [hH.out]; exact (qzb H1 0 (by simp [hdC]) _)
    try (case hxn8 => rfl)
    try (case hyn8 => rfl)
    case htn8 => exact (qz2 F1 _ _)
    refine bodyPost_ret (v := .agg (hdC H').toArray) ?_ rfl ⟨by rw [hv.out], ?_⟩
    ·exact qz3 Tryz.results163 _ _ (Q6o + 1 + 1) 0 rfl (hdC H') _ (Q6u _ _ _ _ (qz2 F1 _ _)) Q6x rfl (qz4 _)
    ·exact Below.setCells (by omega) _ _ _ (Below.setCell K1 (p := ⟨Q6o + 1, 0, none⟩) (by show Q6o <= Q6o + 1; omega) _)
  have b1 : (h.code == 1) = false := by simp [k1]
  by_cases k2 : h.code = 2
  ·have hv : Hid (qz2e A h = (qz9 h 3 0 0)) := by show _ = _; simp [qz2e, hcm, qz1l A m hm, hkey, k2]
   go_wp2_with (first | (refine Q6z rfl 56 (.tmp 3) rfl (Q6o + 1) 0 ?hxln9 (hdC h) _ ?hcn9 Q6x rfl (qz4 _) ?_))
   try (case hxln9 => rfl)
   try (case hcn9 => exact H1)
   refine (qzt h 3 0 0 _).mono ?_
   rintro e w2 ⟨rfl, b2⟩
   have F2 := qz5 F1 b2 (by omega)
   have K2 := K1.trans (b2.mono (by omega))
   go_wp2_with (refine Q6t rfl 56 (.tmp 4) _ rfl (Q6o + 1 + 1) 0 (hdC (qz9 h 3 0 0)).toArray ?hxn9 ?hyn9 ?htn9 (qzc (qz9 h 3 0 0)) (qzk (qz9 h 3 0 0)) ?_)
   try (case hxn9 => rfl)
   try (case hyn9 => rfl)
   case htn9 => exact F2
   refine bodyPost_ret (v := .agg (hdC (qz9 h 3 0 0)).toArray) ?_ rfl ⟨by rw [hv.out], ?_⟩
   ·exact qz3 Tryz.results163 _ _ (Q6o + 1 + 1) 0 rfl (hdC (qz9 h 3 0 0)) _ (Q6u _ _ _ _ F2) Q6x rfl (qz4 _)
   ·exact Below.setCells (by omega) _ _ _ K2
  have b2 : (h.code == 2) = false := by simp [k2]
  obtain ⟨H', hH⟩ : ∃ H' : Hd, Hid (H' = { h with at_ := 0 }) := ⟨_, rfl⟩
  have hv : Hid (qz2e A h = H') := by show _ = _; rw [hH.out]; simp [qz2e, k1, k2, k3]
  go_wp2_with (first | (refine Q6z rfl 56 (.tmp 3) rfl (Q6o + 1) 0 ?hxln10 (hdC H') _ ?hcn10 Q6x rfl (qz4 H') ?_) | (refine Q6t rfl 56 (.tmp 4) _ rfl (Q6o + 1 + 1) 0 (hdC H').toArray ?hxn10 ?hyn10 ?htn10 (qzc H') (qzk H') ?_))
  try (case hxln10 => rfl)
  case hcn10 => rw [hH.out]; exact (qzb H1 0 (by simp [hdC]) _)
  try (case hxn10 => rfl)
  try (case hyn10 => rfl)
  case htn10 => exact (qz2 F1 _ _)
  refine bodyPost_ret (v := .agg (hdC H').toArray) ?_ rfl ⟨by rw [hv.out], ?_⟩
  ·exact qz3 Tryz.results163 _ _ (Q6o + 1 + 1) 0 rfl (hdC H') _ (Q6u _ _ _ _ (qz2 F1 _ _)) Q6x rfl (qz4 _)
  ·exact Below.setCells (by omega) _ _ _ (Below.setCell K1 (p := ⟨Q6o + 1, 0, none⟩) (by show Q6o <= Q6o + 1; omega) _)
 go_quiet (fail)
 have X1 : (w0.drewN nq).rangeAt Q6o 0 Q54 := X0
 have H1 : (w0.drewN nq).rangeAt (Q6o + 1) 0 (hdC h) := H0
 have F1 : (w0.drewN nq).there (Q6o + 1 + 1) 0 22 := F0
 have K1 : Below Q6o w (w0.drewN nq) := ⟨K0.os, K0.tape, K0.output, K0.size, K0.block⟩
 have hz1 : Q6o + 1 + 1 < (w0.drewN nq).heap.size := hz0
 have I1 : qz1j B (w0.drewN nq) Q0x Q0w Q5c Q11 A := I0.below ⟨rfl, rfl, rfl, Q6v _, fun _ _ => rfl⟩
 have y3 : (w0.drewN nq).cell? ⟨Q6o, 3, none⟩ = some Q5c := x3
 have y2 : (w0.drewN nq).cell? ⟨Q6o + 1, 2, none⟩ = some (.int .i64 h.code) := q2
 have y16 : (w0.drewN nq).cell? ⟨Q6o + 1, 16, none⟩ = some (.int .i64 m) := q16
 have y18 : (w0.drewN nq).cell? ⟨Q6o + 1, 18, none⟩ = some (.int .i64 h.new_) := q18
 have g0 : (w0.drewN nq).frozen? ⟨Q6o + 1, 0, none⟩ = false := f0
 have y0 : (w0.drewN nq).cell? ⟨Q6o + 1, 0, none⟩ = some (.int .i64 h.at_) := by simpa using H1 0 (.int .i64 h.at_) rfl
 have y1 : (w0.drewN nq).cell? ⟨bb, off + m * 3 + 1, none⟩ = some (.int .i64 A.nodes[m].value) := z1
 generalize hw1 : w0.drewN nq = w1 at *
 clear hw1 X0 H0 F0 K0 I0 hz0 x0 x1 x2 x3 x4 q2 q3 q16 q18 f0 G0 z0 z1
 by_cases k3 : h.code = 3
 ·have hv : Hid (qz2e A h = Q47) := by show _ = _; simp [qz2e, hcm, k3, qz1l A m hm, hkey]
  go_wp2_with fail
  refine qz36 8 (by kernel_rfl) (by kernel_rfl) ?_
  simp only [List.take_succ_cons, List.take_zero, List.drop_succ_cons, List.drop_zero]
  repeat (first | (refine qz16 rfl 56 (.tmp 3) rfl (Q6o + 1) 0 ?s11x0 (hdC h) _ ?s11c0 Q6x rfl (qz4 _) ?_; (case s11x0 => rfl); (case s11c0 => rintro _ ⟨m, rfl⟩; exact H1)) | (quiet_step (fail)))
  refine wpQuiet_nil ?_
  rintro _ ⟨nr, rfl⟩
  go_wp2_with fail
  refine (qzt h 2 A.nodes[m].value 0 _).mono ?_
  rintro e w2 ⟨rfl, b2⟩
  have F2 := qz5 F1 (b := Q6o + 1 + 1) (B := Q6y) (w' := w2) ⟨b2.os, b2.tape, b2.output, b2.size, b2.block⟩ (by omega)
  have K2 : Below Q6o w w2 := K1.trans (b := w1) ⟨b2.os, b2.tape, b2.output, b2.size, fun k hk => b2.block k (by show k < Q6y; omega)⟩
  go_wp2_with (refine Q6t rfl 56 (.tmp 4) _ rfl (Q6o + 1 + 1) 0 (hdC Q47).toArray ?hxn12 ?hyn12 ?htn12 (qzc Q47) (qzk Q47) ?_)
  try (case hxn12 => rfl)
  try (case hyn12 => rfl)
  case htn12 => exact F2
  refine bodyPost_ret (v := .agg (hdC Q47).toArray) ?_ rfl ⟨by rw [hv.out], ?_⟩
  ·exact qz3 Tryz.results163 _ _ (Q6o + 1 + 1) 0 rfl (hdC Q47) _ (Q6u _ _ _ _ F2) Q6x rfl (qz4 _)
  ·exact Below.setCells (by omega) _ _ _ K2
 have b3 : (h.code == 3) = false := by simp [k3]
 by_cases k1 : h.code = 1
 ·have hv : Hid (qz2e A h = Q47) := by show _ = _; simp [qz2e, hcm, k1, qz1l A m hm, hkey]
  go_wp2_with fail
  refine qz36 8 (by kernel_rfl) (by kernel_rfl) ?_
  simp only [List.take_succ_cons, List.take_zero, List.drop_succ_cons, List.drop_zero]
  repeat (first | (refine qz16 rfl 56 (.tmp 3) rfl (Q6o + 1) 0 ?s13x0 (hdC h) _ ?s13c0 Q6x rfl (qz4 _) ?_; (case s13x0 => rfl); (case s13c0 => rintro _ ⟨m, rfl⟩; exact H1)) | (quiet_step (fail)))
  refine wpQuiet_nil ?_
  rintro _ ⟨nr, rfl⟩
  go_wp2_with fail
  refine (qzt h 2 A.nodes[m].value 0 _).mono ?_
  rintro e w2 ⟨rfl, b2⟩
  have F2 := qz5 F1 (b := Q6o + 1 + 1) (B := Q6y) (w' := w2) ⟨b2.os, b2.tape, b2.output, b2.size, b2.block⟩ (by omega)
  have K2 : Below Q6o w w2 := K1.trans (b := w1) ⟨b2.os, b2.tape, b2.output, b2.size, fun k hk => b2.block k (by show k < Q6y; omega)⟩
  go_wp2_with (refine Q6t rfl 56 (.tmp 4) _ rfl (Q6o + 1 + 1) 0 (hdC Q47).toArray ?hxn14 ?hyn14 ?htn14 (qzc Q47) (qzk Q47) ?_)
  try (case hxn14 => rfl)
  try (case hyn14 => rfl)
  case htn14 => exact F2
  refine bodyPost_ret (v := .agg (hdC Q47).toArray) ?_ rfl ⟨by rw [hv.out], ?_⟩
  ·exact qz3 Tryz.results163 _ _ (Q6o + 1 + 1) 0 rfl (hdC Q47) _ (Q6u _ _ _ _ F2) Q6x rfl (qz4 _)
  ·exact Below.setCells (by omega) _ _ _ K2
 have b1 : (h.code == 1) = false := by simp [k1]
 by_cases k2 : h.code = 2
 ·obtain ⟨H', hH⟩ : ∃ H' : Hd, Hid (H' = { h with at_ := 11 }) := ⟨_, rfl⟩
  have hv : Hid (qz2e A h = H') := by show _ = _; rw [hH.out]; simp [qz2e, hcm, k2, qz1l A m hm, hkey]
  go_wp2_with (first | (refine Q6z rfl 56 (.tmp 3) rfl (Q6o + 1) 0 ?hxln15 (hdC H') _ ?hcn15 Q6x rfl (qz4 H') ?_) | (refine Q6t rfl 56 (.tmp 4) _ rfl (Q6o + 1 + 1) 0 (hdC H').toArray ?hxn15 ?hyn15 ?htn15 (qzc H') (qzk H') ?_))
  try (case hxln15 => rfl)
  case hcn15 => rw [hH.out]; exact (qzb H1 0 (by simp [hdC]) _)
  try (case hxn15 => rfl)
  try (case hyn15 => rfl)
  case htn15 => exact (qz2 F1 _ _)
  refine bodyPost_ret (v := .agg (hdC H').toArray) ?_ rfl ⟨by rw [hv.out], ?_⟩
  ·exact qz3 Tryz.results163 _ _ (Q6o + 1 + 1) 0 rfl (hdC H') _ (Q6u _ _ _ _ (qz2 F1 _ _)) Q6x rfl (qz4 _)
  ·exact Below.setCells (by omega) _ _ _ (Below.setCell K1 (p := ⟨Q6o + 1, 0, none⟩) (by show Q6o <= Q6o + 1; omega) _)
 have b2 : (h.code == 2) = false := by simp [k2]
 obtain ⟨H', hH⟩ : ∃ H' : Hd, Hid (H' = { h with at_ := 0 }) := ⟨_, rfl⟩
 have hv : Hid (qz2e A h = H') := by show _ = _; rw [hH.out]; simp [qz2e, k1, k2, k3]
 go_wp2_with (first | (refine Q6z rfl 56 (.tmp 3) rfl (Q6o + 1) 0 ?hxln16 (hdC H') _ ?hcn16 Q6x rfl (qz4 H') ?_) | (refine Q6t rfl 56 (.tmp 4) _ rfl (Q6o + 1 + 1) 0 (hdC H').toArray ?hxn16 ?hyn16 ?htn16 (qzc H') (qzk H') ?_))
 try (case hxln16 => rfl)
 case hcn16 => rw [hH.out]; exact (qzb H1 0 (by simp [hdC]) _)
 try (case hxn16 => rfl)
 try (case hyn16 => rfl)
 case htn16 => exact (qz2 F1 _ _)
 refine bodyPost_ret (v := .agg (hdC H').toArray) ?_ rfl ⟨by rw [hv.out], ?_⟩
 ·exact qz3 Tryz.results163 _ _ (Q6o + 1 + 1) 0 rfl (hdC H') _ (Q6u _ _ _ _ (qz2 F1 _ _)) Q6x rfl (qz4 _)
 ·exact Below.setCells (by omega) _ _ _ (Below.setCell K1 (p := ⟨Q6o + 1, 0, none⟩) (by show Q6o <= Q6o + 1; omega) _)
theorem qz5s (B : Nat) (A : Ar) (h : Hd) (n : Int) (a0 a1 a2 a3 : Option Addr) (c0 c1 c2 c3 : Nat) (w : World) (hB : B <= Q6o) (hA : A.size <= 1048576) (I : qz1j B w Q0x Q0w Q0t Q11 A)  :
  Calls Tryz.prog 162 #[.agg Q02, .agg (hdC h).toArray, .int .i64 n] w fun e w' => e = .returned (.agg (hdC (qz5j A h n)).toArray) /\ Below Q6o w w' := by
 have hA' := hA
 unfold Ar.size at hA
 have X0 := Q7b (Q7b (qz6 w Q0j 30) Q0p) (.cells Q00 56)
 have H0 := Q7b (qz6 Q35 (hdC h) 56) (.cells Q00 56)
 have G0 := Q7h (qzg Q35 (hdC h).toArray 56 22 (by simp [hdC])) (.cells Q00 56)
 have F0 := qzg ((Q35).alloc Q0p) Q00 56 22 (by decide)
 have K0 := (((Q6s Q6o w).alloc (Q6v _) (.cells Q02 30)).alloc (by simp) Q0p).alloc (by simp; omega) (.cells Q00 56)
 have hz0 : Q6o + 1 + 1 < (Q2j).heap.size := by simp
 simp only [World.size_alloc] at H0 G0 F0
 have I0 := I.below (K0.mono hB)
 go_enter Tryz.func162, Tryz.ntmps162
 have tok : True := trivial
 go_wp2_with (clear tok; refine qz2j Q2j ?_)
 generalize hw0 : ((Q35).alloc Q0p).alloc (.cells Q00 56) = w0 at *
 clear hw0 I
 show wpList _ _ _ _ _ w0
 obtain ⟨x0, x1, x2, x3, x4⟩ := row5 X0
 have q0 : w0.cell? ⟨Q6o + 1, 0, none⟩ = some (.int .i64 h.at_) := by simpa using H0 0 (.int .i64 h.at_) rfl
 have q1 : w0.cell? ⟨Q6o + 1, 1, none⟩ = some (.int .i64 h.then_) := by simpa using H0 1 (.int .i64 h.then_) rfl
 have q10 : w0.cell? ⟨Q6o + 1, 10, none⟩ = some (.int .i64 h.x_) := by simpa using H0 10 (.int .i64 h.x_) rfl
 have q16 : w0.cell? ⟨Q6o + 1, 16, none⟩ = some (.int .i64 h.curr) := by simpa using H0 16 (.int .i64 h.curr) rfl
 have f0 : w0.frozen? ⟨Q6o + 1, 0, none⟩ = false := by simpa using (G0 0 (by decide)).2
 have f1 : w0.frozen? ⟨Q6o + 1, 1, none⟩ = false := by simpa using (G0 1 (by decide)).2
 have f10 : w0.frozen? ⟨Q6o + 1, 10, none⟩ = false := by simpa using (G0 10 (by decide)).2
 have f16 : w0.frozen? ⟨Q6o + 1, 16, none⟩ = false := by simpa using (G0 16 (by decide)).2
 by_cases hn : n = -1
 ·subst hn
  obtain ⟨H', hH⟩ : ∃ H' : Hd, Hid (H' = { h with curr := -1 }) := by exact ⟨_, rfl⟩
  have hv : Hid (qz5j A h (-1) = qz2e A H') := by show _ = _; rw [hH.out]; simp [qz5j]
  go_wp2_with (first | (refine Q6z rfl 56 (.tmp 4) rfl (Q6o + 1) 0 ?hxln17 (hdC H') _ ?hcn17 Q6x rfl (qz4 H') ?_))
  try (case hxln17 => rfl)
  case hcn17 => rw [hH.out]; exact (qzb H0 16 (by simp [hdC]) _)
  refine (qz7u B A H' _ _ _ _ _ _ _ _ _ (by first | omega | (simp; omega)) hA' (I0.below (Below.setCell (Q6s B w0) (p := ⟨Q6o + 1, 16, none⟩) (by show B <= Q6o + 1; omega) _)) (by rw [hH.out]; show (-1 : Int) < _; omega)).mono ?_
  rintro e w2 ⟨rfl, b2⟩
  have F2 := qz5 (qz2 F0 _ _) b2 (by first | omega | (simp; omega))
  have K2 := (Below.setCell K0 (p := ⟨Q6o + 1, 16, none⟩) (by show Q6o <= Q6o + 1; omega) _).trans (b2.mono (by first | omega | (simp; omega)))
  go_wp2_with (refine Q6t rfl 56 (.tmp 6) _ rfl (Q6o + 1 + 1) 0 (hdC (qz2e A H')).toArray ?hxn17 ?hyn17 ?htn17 (qzc _) (qzk _) ?_)
  try (case hxn17 => rfl)
  try (case hyn17 => rfl)
  case htn17 => exact F2
  refine bodyPost_ret (v := .agg (hdC (qz2e A H')).toArray) ?_ rfl ⟨by rw [hv.out], ?_⟩
  ·exact qz3 Tryz.results162 _ _ (Q6o + 1 + 1) 0 rfl (hdC (qz2e A H')) _ (Q6u _ _ _ _ F2) Q6x rfl (qz4 _)
  ·exact Below.setCells (by omega) _ _ _ K2
 have bn : (n == -1) = false := by simp [hn]
 obtain ⟨H', hH⟩ : ∃ H' : Hd, Hid (H' = { h with curr := n, x_ := n, then_ := 2, at_ := 2 }) := by exact ⟨_, rfl⟩
 have hv : Hid (qz5j A h n = H') := by show _ = _; rw [hH.out]; simp [qz5j, hn]
 go_wp2_with (first | (refine Q6z rfl 56 (.tmp 4) rfl (Q6o + 1) 0 ?hxln18 (hdC H') _ ?hcn18 Q6x rfl (qz4 H') ?_) | (refine Q6t rfl 56 (.tmp 6) _ rfl (Q6o + 1 + 1) 0 (hdC H').toArray ?hxn18 ?hyn18 ?htn18 (qzc _) (qzk _) ?_))
 try (case hxln18 => rfl)
 case hcn18 => rw [hH.out]; exact (qzb (qzb (qzb (qzb H0 16 (by simp [hdC]) _) 10 (by simp [hdC]) _) 1 (by simp [hdC]) _) 0 (by simp [hdC]) _)
 try (case hxn18 => rfl)
 try (case hyn18 => rfl)
 case htn18 => exact (qz2 (qz2 (qz2 (qz2 F0 _ _) _ _) _ _) _ _)
 refine bodyPost_ret (v := .agg (hdC H').toArray) ?_ rfl ⟨by rw [hv.out], ?_⟩
 ·exact qz3 Tryz.results162 _ _ (Q6o + 1 + 1) 0 rfl (hdC H') _ (Q6u _ _ _ _ (qz2 (qz2 (qz2 (qz2 F0 _ _) _ _) _ _) _ _)) Q6x rfl (qz4 _)
 ·exact Below.setCells (by omega) _ _ _ (Below.setCell (Below.setCell (Below.setCell (Below.setCell K0 (p := ⟨Q6o + 1, 16, none⟩) (by show Q6o <= Q6o + 1; omega) _) (p := ⟨Q6o + 1, 10, none⟩) (by show Q6o <= Q6o + 1; omega) _) (p := ⟨Q6o + 1, 1, none⟩) (by show Q6o <= Q6o + 1; omega) _) (p := ⟨Q6o + 1, 0, none⟩) (by show Q6o <= Q6o + 1; omega) _)
end
end Go.Proofs.YthjkdnlmopafkaaGreatDoor
