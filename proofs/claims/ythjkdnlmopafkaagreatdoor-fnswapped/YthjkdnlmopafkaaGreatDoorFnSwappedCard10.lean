/-
  What the law's proof goes by, part 11.
-/
import Derived.Test.YthjkdnlmopafkaaGreatDoorFnSwappedCard00
import Derived.Test.YthjkdnlmopafkaaGreatDoorFnSwappedCard09
namespace Go.Proofs.YthjkdnlmopafkaaGreatDoor
open Go.ChangeShapes Go.WideShapes Go.ChangeAt Go.RowKit
set_option maxRecDepth 100000
set_option maxHeartbeats 16000000
set_option linter.unusedVariables false
set_option linter.unusedSimpArgs false
set_option linter.unnecessarySimpa false
set_option linter.unusedSectionVars false
section
attribute [local go_sem ↓] Go.wp_at_zero Go.wp_at_succ
theorem qz9p (B : Nat) (A : Ar) (h : Hd) (a0 a1 a2 a3 : Option Addr) (c0 c1 c2 c3 : Nat) (w : World) (hB : B <= Q6o) (hA : A.size <= 1048576) (I : qz1j B w Q0x Q0w Q0t Q11 A) (x y z u : Int) (hOk : qz10 x y z u A = true) (hv0 : 0 <= h.ver) (hv1 : h.ver < (Q6r : Int)) (hx0 : 0 <= h.x_) (hx1 : h.x_ < (Q6q : Int)) (ho0 : 0 <= h.out) (ho1 : h.out <= 1000000) (hs0 : 0 <= h.sum) (hs1 : h.sum <= 1000000) :
  Calls Tryz.prog 160 Q5d w fun e w' => e = .returned (.agg (hdC (useH A h)).toArray) /\ Below Q6o w w' := by
 have hA' := hA
 unfold Ar.size at hA
 have X0 := Q7b (Q7b (qz6 w Q0j 30) Q0p) (.cells Q00 56)
 have H0 := Q7b (qz6 Q35 (hdC h) 56) (.cells Q00 56)
 have G0 := Q7h (qzg Q35 (hdC h).toArray 56 22 (by simp [hdC])) (.cells Q00 56)
 have F0 := qzg ((Q35).alloc Q0p) Q00 56 22 (by decide)
 have K0 := (((Q6s Q6o w).alloc (Q6v _) (.cells Q02 30)).alloc (by simp) Q0p).alloc (by simp; omega) (.cells Q00 56)
 have hz0 : Q6o + 1 + 1 < (Q2j).heap.size := by simp
 simp only [World.size_alloc] at H0 G0 F0
 have I0 := I.below (K0.mono hB)
 go_enter Tryz.func160, Tryz.ntmps160
 have tok : True := trivial
 go_wp2_with (clear tok; refine qz2j Q2j ?_)
 generalize hw0 : ((Q35).alloc Q0p).alloc (.cells Q00 56) = w0 at *
 clear hw0 I
 show wpList _ _ _ _ _ w0
 obtain ⟨v, hv⟩ : ∃ v : Nat, h.ver = v := ⟨h.ver.toNat, by omega⟩
 obtain ⟨n, hn⟩ : ∃ n : Nat, h.x_ = n := ⟨h.x_.toNat, by omega⟩
 have hvl : v < Q6r := by omega
 have hvl' : (v : Int) < (Q6r : Int) := by omega
 have hvl0 : (0 : Int) <= (v : Int) := by omega
 have hnl : n < Q6q := by omega
 have hnl' : (n : Int) < (Q6q : Int) := by omega
 have hnl0 : (0 : Int) <= (n : Int) := by omega
 have hvr : vrOf A h.ver = A.vers[v] := by rw [hv, qz38 A v hvl]
 have hnd : ndOf A h.x_ = A.nodes[n] := by rw [hn, qz1l A n hnl]
 have hval := qzav hOk n hnl
 have hver := qz4t hOk v hvl
 obtain ⟨bb, off, rfl, hbb, R⟩ := qzu.at I0.r (by omega)
 obtain ⟨bn, on, rfl, hbn, RN⟩ := qzu.at I0.n (by omega)
 have V5 := qzi (sz := 5) (fun _ => rfl) R v hvl
 have N3 := qzi (sz := 3) (fun _ => rfl) RN n hnl
 have v0 : w0.cell? ⟨bb, off + v * 5, none⟩ = some (.int .i64 A.vers[v].next) := by simpa using V5 0 _ rfl
 have v1 : w0.cell? ⟨bb, off + v * 5 + 1, none⟩ = some (.bool A.vers[v].gone) := V5 1 _ rfl
 have v2 : w0.cell? ⟨bb, off + v * 5 + 2, none⟩ = some (.int .i64 A.vers[v].stamp) := V5 2 _ rfl
 have v3 : w0.cell? ⟨bb, off + v * 5 + 3, none⟩ = some (.int .i64 A.vers[v].prev) := V5 3 _ rfl
 have v4 : w0.cell? ⟨bb, off + v * 5 + 4, none⟩ = some (.int .i64 A.vers[v].kind) := V5 4 _ rfl
 have x4 : w0.cell? ⟨Q6o, 4, none⟩ = some Q1e := by simpa using X0 4 _ rfl
 have q11 : w0.cell? ⟨Q6o + 1, 11, none⟩ = some (.int .i64 h.ver) := by simpa using H0 11 (.int .i64 h.ver) rfl
 rw [hv] at q11
 have RN0 := RN
 clear R RN V5 N3
 have tok : True := trivial
 go_wp2_with (clear tok; refine qz2j (w0.alloc Q10) ?_)
 have al := (Q6s Q73 w0).alloc (Q6v _) Q10
 have VB1 := qz6 w0 Q4b 40
 have X1 := qz0 X0 al (by omega)
 have H1 := qz0 H0 al (by omega)
 have G1 := qz5 G0 al (by omega)
 have F1 := qz5 F0 al (by omega)
 have K1 := K0.trans (al.mono (by omega))
 have I1 := I0.below (al.mono (by omega))
 have hz1 := Q72 hz0 al.size
 have hl1 : Q73 < (w0.alloc Q10).heap.size := by simp
 have RN1 := qz0 RN0 al (by omega)
 generalize hw1 : w0.alloc Q10 = w1 at *
 show wpList _ _ _ _ _ w1
 clear hw1 al X0 H0 G0 F0 K0 I0
 clear v0 v1 v2 v3 v4 x4 q11 RN0
 have N3 := qzi (sz := 3) (fun _ => rfl) RN1 n hnl
 have n0 : w1.cell? ⟨bn, on + n * 3, none⟩ = some (.int .i64 A.nodes[n].key) := by simpa using N3 0 _ rfl
 have n1 : w1.cell? ⟨bn, on + n * 3 + 1, none⟩ = some (.int .i64 A.nodes[n].value) := N3 1 _ rfl
 have n2 : w1.cell? ⟨bn, on + n * 3 + 2, none⟩ = some (.int .i64 A.nodes[n].head) := N3 2 _ rfl
 have x3 : w1.cell? ⟨Q6o, 3, none⟩ = some (.slice (some ⟨bn, on, none⟩) Q6q c2) := by simpa using X1 3 _ rfl
 have q10 : w1.cell? ⟨Q6o + 1, 10, none⟩ = some (.int .i64 h.x_) := by simpa using H1 10 (.int .i64 h.x_) rfl
 rw [hn] at q10
 clear N3
 have tok : True := trivial
 go_wp2_with (clear tok; refine qz2j (w1.alloc Q42) ?_)
 have al := (Q6s Q6y w1).alloc (Q6v _) Q42
 have NB2 := qz6 w1 [.int .i64 A.nodes[n].key, .int .i64 A.nodes[n].value, .int .i64 A.nodes[n].head] 42
 have X2 := qz0 X1 al (by omega)
 have H2 := qz0 H1 al (by omega)
 have G2 := qz5 G1 al (by omega)
 have F2 := qz5 F1 al (by omega)
 have K2 := K1.trans (al.mono (by omega))
 have I2 := I1.below (al.mono (by omega))
 have hz2 := Q72 hz1 al.size
 have hl2 : Q6y < (w1.alloc Q42).heap.size := by simp
 have RN2 := qz0 RN1 al (by omega)
 have VB2 := qz0 VB1 al (by omega)
 generalize hw2 : w1.alloc Q42 = w2 at *
 show wpList _ _ _ _ _ w2
 clear hw2 al X1 H1 G1 F1 K1 I1
 clear n0 n1 n2 x3 q10 RN1 VB1
 have q0 : w2.cell? ⟨Q6o + 1, 0, none⟩ = some (.int .i64 h.at_) := by simpa using H2 0 (.int .i64 h.at_) rfl
 have q2 : w2.cell? ⟨Q6o + 1, 2, none⟩ = some (.int .i64 h.code) := by simpa using H2 2 (.int .i64 h.code) rfl
 have q3 : w2.cell? ⟨Q6o + 1, 3, none⟩ = some (.int .i64 h.key) := by simpa using H2 3 (.int .i64 h.key) rfl
 have q4 : w2.cell? ⟨Q6o + 1, 4, none⟩ = some (.int .i64 h.value) := by simpa using H2 4 (.int .i64 h.value) rfl
 have q7 : w2.cell? ⟨Q6o + 1, 7, none⟩ = some (.int .i64 h.out) := by simpa using H2 7 (.int .i64 h.out) rfl
 have q8 : w2.cell? ⟨Q6o + 1, 8, none⟩ = some (.int .i64 h.sum) := by simpa using H2 8 (.int .i64 h.sum) rfl
 have q10 : w2.cell? ⟨Q6o + 1, 10, none⟩ = some (.int .i64 h.x_) := by simpa using H2 10 (.int .i64 h.x_) rfl
 have f0 : w2.frozen? ⟨Q6o + 1, 0, none⟩ = false := by simpa using (G2 0 (by decide)).2
 have f7 : w2.frozen? ⟨Q6o + 1, 7, none⟩ = false := by simpa using (G2 7 (by decide)).2
 have f8 : w2.frozen? ⟨Q6o + 1, 8, none⟩ = false := by simpa using (G2 8 (by decide)).2
 have f10 : w2.frozen? ⟨Q6o + 1, 10, none⟩ = false := by simpa using (G2 10 (by decide)).2
 rw [hn] at q10
 have x3 : w2.cell? ⟨Q6o, 3, none⟩ = some (.slice (some ⟨bn, on, none⟩) Q6q c2) := by simpa using X2 3 _ rfl
 have v0 : w2.cell? ⟨Q73, 0, none⟩ = some (.int .i64 A.vers[v].next) := by simpa using VB2 0 _ rfl
 have v1 : w2.cell? ⟨Q73, 1, none⟩ = some (.bool A.vers[v].gone) := by simpa using VB2 1 _ rfl
 have n0 : w2.cell? ⟨Q6y, 0, none⟩ = some (.int .i64 A.nodes[n].key) := by simpa using NB2 0 _ rfl
 have n1 : w2.cell? ⟨Q6y, 1, none⟩ = some (.int .i64 A.nodes[n].value) := by simpa using NB2 1 _ rfl
 have e1 : ¬ (Q6o + 1 = Q73) := by omega
 have e2 : ¬ (Q6o + 1 = Q6y) := by omega
 have e3 : ¬ (Q6o + 1 = bn) := by omega
 clear X2 VB2 NB2 hl1 hl2 hz0 hz1
 by_cases k6 : h.code = 6
 case neg =>
  by_cases k7 : h.code = 7
  case neg =>
   have b6 : (h.code == 6) = false := by simp [k6]
   have b7 : (h.code == 7) = false := by simp [k7]
   have nb6 : (h.code != 6) = true := by simp [k6]
   have nb7 : (h.code != 7) = true := by simp [k7]
   obtain ⟨H', hH⟩ : ∃ H' : Hd, Hid (H' = { h with at_ := 0 }) := by exact ⟨_, rfl⟩
   have hv : Hid (useH A h = H') := by show _ = _; rw [hH.out]; simp [useH, k6, k7]
   go_upto_region 5 with (first | (go_at_call 101; refine (qzq _ _ _).mono ?_; rintro e w' ⟨rfl, hw⟩; obtain rfl := hw.symm) | (go_at_call 44; refine (qzd _ _ _ _).mono ?_; rintro e w' ⟨rfl, hw⟩; obtain rfl := hw.symm))
   go_wp2_with (first | (refine Q6z rfl 56 (.tmp 3) rfl (Q6o + 1) 0 ?hxln21 (hdC H') _ ?hcn21 Q6x rfl (qz4 H') ?_) | (refine Q6t rfl 56 (.tmp 4) _ rfl (Q6o + 1 + 1) 0 (hdC H').toArray ?hxn21 ?hyn21 ?htn21 (qzc _) (qzk _) ?_))
   try (case hxln21 => rfl)
   case hcn21 => rw [hH.out]; exact (qzb H2 0 (by simp [hdC]) _)
   try (case hxn21 => rfl)
   try (case hyn21 => rfl)
   case htn21 => exact (qz2 F2 _ _)
   refine bodyPost_ret (v := .agg (hdC H').toArray) ?_ rfl ⟨by rw [hv.out], ?_⟩
   ·exact qz3 Tryz.results160 _ _ (Q6o + 1 + 1) 0 rfl (hdC H') _ (Q6u _ _ _ _ (qz2 F2 _ _)) Q6x rfl (qz4 _)
   ·exact Below.setCells (by omega) _ _ _ (Below.setCell K2 (p := ⟨Q6o + 1, 0, none⟩) (by show Q6o <= Q6o + 1; omega) _)
  have b6 : (h.code == 6) = false := by simp [k6]
  by_cases kx : n = 0
  case pos =>
   have hcb : qz4w A h = false := by simp [qz4w, hn, kx]
   have bx0 : ((n : Int) == 0) = true := by simp [kx]
   have nbx0 : ((n : Int) != 0) = false := by simp [kx]
   go_upto_region 13 with (first | (go_at_call 101; refine (qzq _ _ _).mono ?_; rintro e w' ⟨rfl, hw⟩; obtain rfl := hw.symm) | (go_at_call 44; refine (qzd _ _ _ _).mono ?_; rintro e w' ⟨rfl, hw⟩; obtain rfl := hw.symm))
   by_cases hl : A.vers[v].next < 0
   ·obtain ⟨H', hH⟩ : ∃ H' : Hd, Hid (H' = h) := by exact ⟨_, rfl⟩
    have hv : Hid (useH A h = qz9 H' 4 h.out h.sum) := by show _ = _; rw [hH.out]; simp [useH, k7, qz66, hvr, hl, hcb]
    go_upto_region 19 with (first | (go_at_call 101; refine (qzq _ _ _).mono ?_; rintro e w' ⟨rfl, hw⟩; obtain rfl := hw.symm) | (go_at_call 44; refine (qzd _ _ _ _).mono ?_; rintro e w' ⟨rfl, hw⟩; obtain rfl := hw.symm))
    go_wp2_with (first | (refine Q6z rfl 56 (.tmp 3) rfl (Q6o + 1) 0 ?hxln22 (hdC H') _ ?hcn22 Q6x rfl (qz4 H') ?_))
    try (case hxln22 => rfl)
    case hcn22 => rw [hH.out]; exact H2
    refine (Q6i).mono ?_
    rintro e w9 ⟨rfl, b9⟩
    have F9 := qz5 F2 b9 (by first | omega | (simp; omega))
    have K9 := K2.trans (b9.mono (by first | omega | (simp; omega)))
    go_wp2_with (refine Q6t rfl 56 (.tmp 4) _ rfl (Q6o + 1 + 1) 0 (Q2m).toArray ?hxn22 ?hyn22 ?htn22 (qzc _) (qzk _) ?_)
    try (case hxn22 => rfl)
    try (case hyn22 => rfl)
    case htn22 => exact F9
    refine bodyPost_ret (v := .agg (Q2m).toArray) ?_ rfl ⟨by rw [hv.out], ?_⟩
    ·exact qz3 Tryz.results160 _ _ (Q6o + 1 + 1) 0 rfl Q2m _ (Q6u _ _ _ _ F9) Q6x rfl (qz4 _)
    ·exact Below.setCells (by omega) _ _ _ K9
   obtain ⟨nn, hnn⟩ : ∃ nn : Nat, A.vers[v].next = nn := ⟨A.vers[v].next.toNat, by omega⟩
   have hnnl : nn < Q6q := by omega
   have hnnl' : (nn : Int) < (Q6q : Int) := by omega
   have hnnl0 : (0 : Int) <= (nn : Int) := by omega
   have hnn3 : ¬ ((nn : Int) < 0) := by omega
   have hndn : ndOf A (vrOf A h.ver).next = A.nodes[nn] := by rw [hvr, hnn, qz1l A nn hnnl]
   rw [hnn] at v0
   have m0 : w2.cell? ⟨bn, on + nn * 3, none⟩ = some (.int .i64 A.nodes[nn].key) := by simpa using (qzi (sz := 3) (fun _ => rfl) RN2 nn hnnl) 0 _ rfl
   by_cases hk : h.value < A.nodes[nn].key
   ·obtain ⟨H', hH⟩ : ∃ H' : Hd, Hid (H' = h) := by exact ⟨_, rfl⟩
    have hv : Hid (useH A h = qz9 H' 4 h.out h.sum) := by show _ = _; rw [hH.out]; simp [useH, k7, qz66, hndn, hk, hcb]
    go_upto_region 19 with (first | (go_at_call 101; refine (qzq _ _ _).mono ?_; rintro e w' ⟨rfl, hw⟩; obtain rfl := hw.symm) | (go_at_call 44; refine (qzd _ _ _ _).mono ?_; rintro e w' ⟨rfl, hw⟩; obtain rfl := hw.symm))
    go_wp2_with (first | (refine Q6z rfl 56 (.tmp 3) rfl (Q6o + 1) 0 ?hxln23 (hdC H') _ ?hcn23 Q6x rfl (qz4 H') ?_))
    try (case hxln23 => rfl)
    case hcn23 => rw [hH.out]; exact H2
    refine (Q6i).mono ?_
    rintro e w9 ⟨rfl, b9⟩
    have F9 := qz5 F2 b9 (by first | omega | (simp; omega))
    have K9 := K2.trans (b9.mono (by first | omega | (simp; omega)))
    go_wp2_with (refine Q6t rfl 56 (.tmp 4) _ rfl (Q6o + 1 + 1) 0 (Q2m).toArray ?hxn23 ?hyn23 ?htn23 (qzc _) (qzk _) ?_)
    try (case hxn23 => rfl)
    try (case hyn23 => rfl)
    case htn23 => exact F9
    refine bodyPost_ret (v := .agg (Q2m).toArray) ?_ rfl ⟨by rw [hv.out], ?_⟩
    ·exact qz3 Tryz.results160 _ _ (Q6o + 1 + 1) 0 rfl Q2m _ (Q6u _ _ _ _ F9) Q6x rfl (qz4 _)
    ·exact Below.setCells (by omega) _ _ _ K9
   obtain ⟨H', hH⟩ : ∃ H' : Hd, Hid (H' = { h with x_ := (nn : Int), at_ := 2 }) := by exact ⟨_, rfl⟩
   have hv : Hid (useH A h = H') := by
    show _ = _
    rw [hH.out]
    have hlb : qz66 A h = false := by unfold qz66; rw [hndn, hvr, hnn]; simp [k7, hk]
    simp [useH, k7, hlb, hcb, hvr, hnn]
   go_upto_region 22 with (first | (go_at_call 101; refine (qzq _ _ _).mono ?_; rintro e w' ⟨rfl, hw⟩; obtain rfl := hw.symm) | (go_at_call 44; refine (qzd _ _ _ _).mono ?_; rintro e w' ⟨rfl, hw⟩; obtain rfl := hw.symm))
   go_wp2_with (first | (refine Q6z rfl 56 (.tmp 3) rfl (Q6o + 1) 0 ?hxln24 (hdC H') _ ?hcn24 Q6x rfl (qz4 H') ?_) | (refine Q6t rfl 56 (.tmp 4) _ rfl (Q6o + 1 + 1) 0 (hdC H').toArray ?hxn24 ?hyn24 ?htn24 (qzc _) (qzk _) ?_))
   try (case hxln24 => rfl)
   case hcn24 => rw [hH.out]; exact (qzb (qzb H2 10 (by simp [hdC]) _) 0 (by simp [hdC]) _)
   try (case hxn24 => rfl)
   try (case hyn24 => rfl)
   case htn24 => exact (qz2 (qz2 F2 _ _) _ _)
   refine bodyPost_ret (v := .agg (hdC H').toArray) ?_ rfl ⟨by rw [hv.out], ?_⟩
   ·exact qz3 Tryz.results160 _ _ (Q6o + 1 + 1) 0 rfl (hdC H') _ (Q6u _ _ _ _ (qz2 (qz2 F2 _ _) _ _)) Q6x rfl (qz4 _)
   ·exact Below.setCells (by omega) _ _ _ (Below.setCell (Below.setCell K2 (p := ⟨Q6o + 1, 10, none⟩) (by show Q6o <= Q6o + 1; omega) _) (p := ⟨Q6o + 1, 0, none⟩) (by show Q6o <= Q6o + 1; omega) _)
  have hnx : ¬ (h.x_ = 0) := by omega
  have bx : ((n : Int) == 0) = false := by simp [kx]
  have nbx : ((n : Int) != 0) = true := by simp [kx]
  cases kin : inB A.nodes[n].key h.key h.value
  case false =>
   have hcb : qz4w A h = false := by simp [qz4w, hnd, kin]
   go_upto_region 13 with (first | (go_at_call 101; refine (qzq _ _ _).mono ?_; rintro e w' ⟨rfl, hw⟩; obtain rfl := hw.symm) | (go_at_call 44; refine (qzd _ _ _ _).mono ?_; rintro e w' ⟨rfl, hw⟩; obtain rfl := hw.symm))
   by_cases hl : A.vers[v].next < 0
   ·obtain ⟨H', hH⟩ : ∃ H' : Hd, Hid (H' = h) := by exact ⟨_, rfl⟩
    have hv : Hid (useH A h = qz9 H' 4 h.out h.sum) := by show _ = _; rw [hH.out]; simp [useH, k7, qz66, hvr, hl, hcb]
    go_upto_region 19 with (first | (go_at_call 101; refine (qzq _ _ _).mono ?_; rintro e w' ⟨rfl, hw⟩; obtain rfl := hw.symm) | (go_at_call 44; refine (qzd _ _ _ _).mono ?_; rintro e w' ⟨rfl, hw⟩; obtain rfl := hw.symm))
    go_wp2_with (first | (refine Q6z rfl 56 (.tmp 3) rfl (Q6o + 1) 0 ?hxln25 (hdC H') _ ?hcn25 Q6x rfl (qz4 H') ?_))
    try (case hxln25 => rfl)
    case hcn25 => rw [hH.out]; exact H2
    refine (Q6i).mono ?_
    rintro e w9 ⟨rfl, b9⟩
    have F9 := qz5 F2 b9 (by first | omega | (simp; omega))
    have K9 := K2.trans (b9.mono (by first | omega | (simp; omega)))
    go_wp2_with (refine Q6t rfl 56 (.tmp 4) _ rfl (Q6o + 1 + 1) 0 (Q2m).toArray ?hxn25 ?hyn25 ?htn25 (qzc _) (qzk _) ?_)
    try (case hxn25 => rfl)
    try (case hyn25 => rfl)
    case htn25 => exact F9
    refine bodyPost_ret (v := .agg (Q2m).toArray) ?_ rfl ⟨by rw [hv.out], ?_⟩
    ·exact qz3 Tryz.results160 _ _ (Q6o + 1 + 1) 0 rfl Q2m _ (Q6u _ _ _ _ F9) Q6x rfl (qz4 _)
    ·exact Below.setCells (by omega) _ _ _ K9
   obtain ⟨nn, hnn⟩ : ∃ nn : Nat, A.vers[v].next = nn := ⟨A.vers[v].next.toNat, by omega⟩
   have hnnl : nn < Q6q := by omega
   have hnnl' : (nn : Int) < (Q6q : Int) := by omega
   have hnnl0 : (0 : Int) <= (nn : Int) := by omega
   have hnn3 : ¬ ((nn : Int) < 0) := by omega
   have hndn : ndOf A (vrOf A h.ver).next = A.nodes[nn] := by rw [hvr, hnn, qz1l A nn hnnl]
   rw [hnn] at v0
   have m0 : w2.cell? ⟨bn, on + nn * 3, none⟩ = some (.int .i64 A.nodes[nn].key) := by simpa using (qzi (sz := 3) (fun _ => rfl) RN2 nn hnnl) 0 _ rfl
   by_cases hk : h.value < A.nodes[nn].key
   ·obtain ⟨H', hH⟩ : ∃ H' : Hd, Hid (H' = h) := by exact ⟨_, rfl⟩
    have hv : Hid (useH A h = qz9 H' 4 h.out h.sum) := by show _ = _; rw [hH.out]; simp [useH, k7, qz66, hndn, hk, hcb]
    go_upto_region 19 with (first | (go_at_call 101; refine (qzq _ _ _).mono ?_; rintro e w' ⟨rfl, hw⟩; obtain rfl := hw.symm) | (go_at_call 44; refine (qzd _ _ _ _).mono ?_; rintro e w' ⟨rfl, hw⟩; obtain rfl := hw.symm))
    go_wp2_with (first | (refine Q6z rfl 56 (.tmp 3) rfl (Q6o + 1) 0 ?hxln26 (hdC H') _ ?hcn26 Q6x rfl (qz4 H') ?_))
    try (case hxln26 => rfl)
    case hcn26 => rw [hH.out]; exact H2
    refine (Q6i).mono ?_
    rintro e w9 ⟨rfl, b9⟩
    have F9 := qz5 F2 b9 (by first | omega | (simp; omega))
    have K9 := K2.trans (b9.mono (by first | omega | (simp; omega)))
    go_wp2_with (refine Q6t rfl 56 (.tmp 4) _ rfl (Q6o + 1 + 1) 0 (Q2m).toArray ?hxn26 ?hyn26 ?htn26 (qzc _) (qzk _) ?_)
    try (case hxn26 => rfl)
    try (case hyn26 => rfl)
    case htn26 => exact F9
    refine bodyPost_ret (v := .agg (Q2m).toArray) ?_ rfl ⟨by rw [hv.out], ?_⟩
    ·exact qz3 Tryz.results160 _ _ (Q6o + 1 + 1) 0 rfl Q2m _ (Q6u _ _ _ _ F9) Q6x rfl (qz4 _)
    ·exact Below.setCells (by omega) _ _ _ K9
   obtain ⟨H', hH⟩ : ∃ H' : Hd, Hid (H' = { h with x_ := (nn : Int), at_ := 2 }) := by exact ⟨_, rfl⟩
   have hv : Hid (useH A h = H') := by
    show _ = _
    rw [hH.out]
    have hlb : qz66 A h = false := by unfold qz66; rw [hndn, hvr, hnn]; simp [k7, hk]
    simp [useH, k7, hlb, hcb, hvr, hnn]
   go_upto_region 22 with (first | (go_at_call 101; refine (qzq _ _ _).mono ?_; rintro e w' ⟨rfl, hw⟩; obtain rfl := hw.symm) | (go_at_call 44; refine (qzd _ _ _ _).mono ?_; rintro e w' ⟨rfl, hw⟩; obtain rfl := hw.symm))
   go_wp2_with (first | (refine Q6z rfl 56 (.tmp 3) rfl (Q6o + 1) 0 ?hxln27 (hdC H') _ ?hcn27 Q6x rfl (qz4 H') ?_) | (refine Q6t rfl 56 (.tmp 4) _ rfl (Q6o + 1 + 1) 0 (hdC H').toArray ?hxn27 ?hyn27 ?htn27 (qzc _) (qzk _) ?_))
   try (case hxln27 => rfl)
   case hcn27 => rw [hH.out]; exact (qzb (qzb H2 10 (by simp [hdC]) _) 0 (by simp [hdC]) _)
   try (case hxn27 => rfl)
   try (case hyn27 => rfl)
   case htn27 => exact (qz2 (qz2 F2 _ _) _ _)
   refine bodyPost_ret (v := .agg (hdC H').toArray) ?_ rfl ⟨by rw [hv.out], ?_⟩
   ·exact qz3 Tryz.results160 _ _ (Q6o + 1 + 1) 0 rfl (hdC H') _ (Q6u _ _ _ _ (qz2 (qz2 F2 _ _) _ _)) Q6x rfl (qz4 _)
   ·exact Below.setCells (by omega) _ _ _ (Below.setCell (Below.setCell K2 (p := ⟨Q6o + 1, 10, none⟩) (by show Q6o <= Q6o + 1; omega) _) (p := ⟨Q6o + 1, 0, none⟩) (by show Q6o <= Q6o + 1; omega) _)
  cases kg : A.vers[v].gone
  case true =>
   have hcb : qz4w A h = false := by simp [qz4w, hvr, kg]
   go_upto_region 13 with (first | (go_at_call 101; refine (qzq _ _ _).mono ?_; rintro e w' ⟨rfl, hw⟩; obtain rfl := hw.symm) | (go_at_call 44; refine (qzd _ _ _ _).mono ?_; rintro e w' ⟨rfl, hw⟩; obtain rfl := hw.symm))
   by_cases hl : A.vers[v].next < 0
   ·obtain ⟨H', hH⟩ : ∃ H' : Hd, Hid (H' = h) := by exact ⟨_, rfl⟩
    have hv : Hid (useH A h = qz9 H' 4 h.out h.sum) := by show _ = _; rw [hH.out]; simp [useH, k7, qz66, hvr, hl, hcb]
    go_upto_region 19 with (first | (go_at_call 101; refine (qzq _ _ _).mono ?_; rintro e w' ⟨rfl, hw⟩; obtain rfl := hw.symm) | (go_at_call 44; refine (qzd _ _ _ _).mono ?_; rintro e w' ⟨rfl, hw⟩; obtain rfl := hw.symm))
    go_wp2_with (first | (refine Q6z rfl 56 (.tmp 3) rfl (Q6o + 1) 0 ?hxln28 (hdC H') _ ?hcn28 Q6x rfl (qz4 H') ?_))
    try (case hxln28 => rfl)
    case hcn28 => rw [hH.out]; exact H2
    refine (Q6i).mono ?_
    rintro e w9 ⟨rfl, b9⟩
    have F9 := qz5 F2 b9 (by first | omega | (simp; omega))
    have K9 := K2.trans (b9.mono (by first | omega | (simp; omega)))
    go_wp2_with (refine Q6t rfl 56 (.tmp 4) _ rfl (Q6o + 1 + 1) 0 (Q2m).toArray ?hxn28 ?hyn28 ?htn28 (qzc _) (qzk _) ?_)
    try (case hxn28 => rfl)
    try (case hyn28 => rfl)
    case htn28 => exact F9
    refine bodyPost_ret (v := .agg (Q2m).toArray) ?_ rfl ⟨by rw [hv.out], ?_⟩
    ·exact qz3 Tryz.results160 _ _ (Q6o + 1 + 1) 0 rfl Q2m _ (Q6u _ _ _ _ F9) Q6x rfl (qz4 _)
    ·exact Below.setCells (by omega) _ _ _ K9
   obtain ⟨nn, hnn⟩ : ∃ nn : Nat, A.vers[v].next = nn := ⟨A.vers[v].next.toNat, by omega⟩
   have hnnl : nn < Q6q := by omega
   have hnnl' : (nn : Int) < (Q6q : Int) := by omega
   have hnnl0 : (0 : Int) <= (nn : Int) := by omega
   have hnn3 : ¬ ((nn : Int) < 0) := by omega
   have hndn : ndOf A (vrOf A h.ver).next = A.nodes[nn] := by rw [hvr, hnn, qz1l A nn hnnl]
   rw [hnn] at v0
   have m0 : w2.cell? ⟨bn, on + nn * 3, none⟩ = some (.int .i64 A.nodes[nn].key) := by simpa using (qzi (sz := 3) (fun _ => rfl) RN2 nn hnnl) 0 _ rfl
   by_cases hk : h.value < A.nodes[nn].key
   ·obtain ⟨H', hH⟩ : ∃ H' : Hd, Hid (H' = h) := by exact ⟨_, rfl⟩
    have hv : Hid (useH A h = qz9 H' 4 h.out h.sum) := by show _ = _; rw [hH.out]; simp [useH, k7, qz66, hndn, hk, hcb]
    go_upto_region 19 with (first | (go_at_call 101; refine (qzq _ _ _).mono ?_; rintro e w' ⟨rfl, hw⟩; obtain rfl := hw.symm) | (go_at_call 44; refine (qzd _ _ _ _).mono ?_; rintro e w' ⟨rfl, hw⟩; obtain rfl := hw.symm))
    go_wp2_with (first | (refine Q6z rfl 56 (.tmp 3) rfl (Q6o + 1) 0 ?hxln29 (hdC H') _ ?hcn29 Q6x rfl (qz4 H') ?_))
    try (case hxln29 => rfl)
    case hcn29 => rw [hH.out]; exact H2
    refine (Q6i).mono ?_
    rintro e w9 ⟨rfl, b9⟩
    have F9 := qz5 F2 b9 (by first | omega | (simp; omega))
    have K9 := K2.trans (b9.mono (by first | omega | (simp; omega)))
    go_wp2_with (refine Q6t rfl 56 (.tmp 4) _ rfl (Q6o + 1 + 1) 0 (Q2m).toArray ?hxn29 ?hyn29 ?htn29 (qzc _) (qzk _) ?_)
    try (case hxn29 => rfl)
    try (case hyn29 => rfl)
    case htn29 => exact F9
    refine bodyPost_ret (v := .agg (Q2m).toArray) ?_ rfl ⟨by rw [hv.out], ?_⟩
    ·exact qz3 Tryz.results160 _ _ (Q6o + 1 + 1) 0 rfl Q2m _ (Q6u _ _ _ _ F9) Q6x rfl (qz4 _)
    ·exact Below.setCells (by omega) _ _ _ K9
   obtain ⟨H', hH⟩ : ∃ H' : Hd, Hid (H' = { h with x_ := (nn : Int), at_ := 2 }) := by exact ⟨_, rfl⟩
   have hv : Hid (useH A h = H') := by
    show _ = _
    rw [hH.out]
    have hlb : qz66 A h = false := by unfold qz66; rw [hndn, hvr, hnn]; simp [k7, hk]
    simp [useH, k7, hlb, hcb, hvr, hnn]
   go_upto_region 22 with (first | (go_at_call 101; refine (qzq _ _ _).mono ?_; rintro e w' ⟨rfl, hw⟩; obtain rfl := hw.symm) | (go_at_call 44; refine (qzd _ _ _ _).mono ?_; rintro e w' ⟨rfl, hw⟩; obtain rfl := hw.symm))
   go_wp2_with (first | (refine Q6z rfl 56 (.tmp 3) rfl (Q6o + 1) 0 ?hxln30 (hdC H') _ ?hcn30 Q6x rfl (qz4 H') ?_) | (refine Q6t rfl 56 (.tmp 4) _ rfl (Q6o + 1 + 1) 0 (hdC H').toArray ?hxn30 ?hyn30 ?htn30 (qzc _) (qzk _) ?_))
   try (case hxln30 => rfl)
   case hcn30 => rw [hH.out]; exact (qzb (qzb H2 10 (by simp [hdC]) _) 0 (by simp [hdC]) _)
   try (case hxn30 => rfl)
   try (case hyn30 => rfl)
   case htn30 => exact (qz2 (qz2 F2 _ _) _ _)
   refine bodyPost_ret (v := .agg (hdC H').toArray) ?_ rfl ⟨by rw [hv.out], ?_⟩
   ·exact qz3 Tryz.results160 _ _ (Q6o + 1 + 1) 0 rfl (hdC H') _ (Q6u _ _ _ _ (qz2 (qz2 F2 _ _) _ _)) Q6x rfl (qz4 _)
   ·exact Below.setCells (by omega) _ _ _ (Below.setCell (Below.setCell K2 (p := ⟨Q6o + 1, 10, none⟩) (by show Q6o <= Q6o + 1; omega) _) (p := ⟨Q6o + 1, 0, none⟩) (by show Q6o <= Q6o + 1; omega) _)
  have hcb : qz4w A h = true := by simp [qz4w, hnd, hvr, kin, kg, hnx, k7]
  go_upto_region 13 with (first | (go_at_call 101; refine (qzq _ _ _).mono ?_; rintro e w' ⟨rfl, hw⟩; obtain rfl := hw.symm) | (go_at_call 44; refine (qzd _ _ _ _).mono ?_; rintro e w' ⟨rfl, hw⟩; obtain rfl := hw.symm))
  by_cases hl : A.vers[v].next < 0
  ·obtain ⟨H', hH⟩ : ∃ H' : Hd, Hid (H' = { h with out := min (h.out + 1) (1000000 : Int), sum := min (h.sum + A.nodes[n].value) (1000000 : Int) }) := by exact ⟨_, rfl⟩
   have hv : Hid (useH A h = qz9 H' 4 (min (h.out + 1) 1000000) (min (h.sum + A.nodes[n].value) 1000000)) := by show _ = _; rw [hH.out]; simp [useH, k7, qz66, hvr, hl, hcb, qz68, hnd] <;> rfl
   go_upto_region 19 with (first | (go_at_call 101; refine (qzq _ _ _).mono ?_; rintro e w' ⟨rfl, hw⟩; obtain rfl := hw.symm) | (go_at_call 44; refine (qzd _ _ _ _).mono ?_; rintro e w' ⟨rfl, hw⟩; obtain rfl := hw.symm))
   go_wp2_with (first | (refine Q6z rfl 56 (.tmp 3) rfl (Q6o + 1) 0 ?hxln31 (hdC H') _ ?hcn31 Q6x rfl (qz4 H') ?_))
   try (case hxln31 => rfl)
   case hcn31 => rw [hH.out]; exact (qzb (qzb H2 7 (by simp [hdC]) _) 8 (by simp [hdC]) _)
   refine (qzt H' 4 (min (h.out + 1) 1000000) (min (h.sum + A.nodes[n].value) 1000000) _).mono ?_
   rintro e w9 ⟨rfl, b9⟩
   have F9 := qz5 (qz2 (qz2 F2 _ _) _ _) b9 (by first | omega | (simp; omega))
   have K9 := (Below.setCell (Below.setCell K2 (p := ⟨Q6o + 1, 7, none⟩) (by show Q6o <= Q6o + 1; omega) _) (p := ⟨Q6o + 1, 8, none⟩) (by show Q6o <= Q6o + 1; omega) _).trans (b9.mono (by first | omega | (simp; omega)))
   go_wp2_with (refine Q6t rfl 56 (.tmp 4) _ rfl (Q6o + 1 + 1) 0 (Q2p).toArray ?hxn31 ?hyn31 ?htn31 (qzc _) (qzk _) ?_)
   try (case hxn31 => rfl)
   try (case hyn31 => rfl)
   case htn31 => exact F9
   refine bodyPost_ret (v := .agg (Q2p).toArray) ?_ rfl ⟨by rw [hv.out], ?_⟩
   ·exact qz3 Tryz.results160 _ _ (Q6o + 1 + 1) 0 rfl Q2p _ (Q6u _ _ _ _ F9) Q6x rfl (qz4 _)
   ·exact Below.setCells (by omega) _ _ _ K9
  obtain ⟨nn, hnn⟩ : ∃ nn : Nat, A.vers[v].next = nn := ⟨A.vers[v].next.toNat, by omega⟩
  have hnnl : nn < Q6q := by omega
  have hnnl' : (nn : Int) < (Q6q : Int) := by omega
  have hnnl0 : (0 : Int) <= (nn : Int) := by omega
  have hnn3 : ¬ ((nn : Int) < 0) := by omega
  have hndn : ndOf A (vrOf A h.ver).next = A.nodes[nn] := by rw [hvr, hnn, qz1l A nn hnnl]
  rw [hnn] at v0
  have m0 : w2.cell? ⟨bn, on + nn * 3, none⟩ = some (.int .i64 A.nodes[nn].key) := by simpa using (qzi (sz := 3) (fun _ => rfl) RN2 nn hnnl) 0 _ rfl
  by_cases hk : h.value < A.nodes[nn].key
  ·obtain ⟨H', hH⟩ : ∃ H' : Hd, Hid (H' = { h with out := min (h.out + 1) (1000000 : Int), sum := min (h.sum + A.nodes[n].value) (1000000 : Int) }) := by exact ⟨_, rfl⟩
   have hv : Hid (useH A h = qz9 H' 4 (min (h.out + 1) 1000000) (min (h.sum + A.nodes[n].value) 1000000)) := by show _ = _; rw [hH.out]; simp [useH, k7, qz66, hndn, hk, hcb, qz68, hnd] <;> rfl
   go_upto_region 19 with (first | (go_at_call 101; refine (qzq _ _ _).mono ?_; rintro e w' ⟨rfl, hw⟩; obtain rfl := hw.symm) | (go_at_call 44; refine (qzd _ _ _ _).mono ?_; rintro e w' ⟨rfl, hw⟩; obtain rfl := hw.symm))
   go_wp2_with (first | (refine Q6z rfl 56 (.tmp 3) rfl (Q6o + 1) 0 ?hxln32 (hdC H') _ ?hcn32 Q6x rfl (qz4 H') ?_))
   try (case hxln32 => rfl)
   case hcn32 => rw [hH.out]; exact (qzb (qzb H2 7 (by simp [hdC]) _) 8 (by simp [hdC]) _)
   refine (qzt H' 4 (min (h.out + 1) 1000000) (min (h.sum + A.nodes[n].value) 1000000) _).mono ?_
   rintro e w9 ⟨rfl, b9⟩
   have F9 := qz5 (qz2 (qz2 F2 _ _) _ _) b9 (by first | omega | (simp; omega))
   have K9 := (Below.setCell (Below.setCell K2 (p := ⟨Q6o + 1, 7, none⟩) (by show Q6o <= Q6o + 1; omega) _) (p := ⟨Q6o + 1, 8, none⟩) (by show Q6o <= Q6o + 1; omega) _).trans (b9.mono (by first | omega | (simp; omega)))
   go_wp2_with (refine Q6t rfl 56 (.tmp 4) _ rfl (Q6o + 1 + 1) 0 (Q2p).toArray ?hxn32 ?hyn32 ?htn32 (qzc _) (qzk _) ?_)
   try (case hxn32 => rfl)
   try (case hyn32 => rfl)
   case htn32 => exact F9
   refine bodyPost_ret (v := .agg (Q2p).toArray) ?_ rfl ⟨by rw [hv.out], ?_⟩
   ·exact qz3 Tryz.results160 _ _ (Q6o + 1 + 1) 0 rfl Q2p _ (Q6u _ _ _ _ F9) Q6x rfl (qz4 _)
   ·exact Below.setCells (by omega) _ _ _ K9
  obtain ⟨H', hH⟩ : ∃ H' : Hd, Hid (H' = { h with out := min (h.out + 1) (1000000 : Int), sum := min (h.sum + A.nodes[n].value) (1000000 : Int), x_ := (nn : Int), at_ := 2 }) := by exact ⟨_, rfl⟩
  have hv : Hid (useH A h = H') := by
   show _ = _
   rw [hH.out]
   have hlb : qz66 A h = false := by unfold qz66; rw [hndn, hvr, hnn]; simp [k7, hk]
   simp [useH, k7, hlb, hcb, hvr, hnn, qz68, hnd]
  go_upto_region 22 with (first | (go_at_call 101; refine (qzq _ _ _).mono ?_; rintro e w' ⟨rfl, hw⟩; obtain rfl := hw.symm) | (go_at_call 44; refine (qzd _ _ _ _).mono ?_; rintro e w' ⟨rfl, hw⟩; obtain rfl := hw.symm))
  go_wp2_with (first | (refine Q6z rfl 56 (.tmp 3) rfl (Q6o + 1) 0 ?hxln33 (hdC H') _ ?hcn33 Q6x rfl (qz4 H') ?_) | (refine Q6t rfl 56 (.tmp 4) _ rfl (Q6o + 1 + 1) 0 (hdC H').toArray ?hxn33 ?hyn33 ?htn33 (qzc _) (qzk _) ?_))
  try (case hxln33 => rfl)
  case hcn33 => rw [hH.out]; exact (qzb (qzb (qzb (qzb H2 7 (by simp [hdC]) _) 8 (by simp [hdC]) _) 10 (by simp [hdC]) _) 0 (by simp [hdC]) _)
  try (case hxn33 => rfl)
  try (case hyn33 => rfl)
  case htn33 => exact (qz2 (qz2 (qz2 (qz2 F2 _ _) _ _) _ _) _ _)
  refine bodyPost_ret (v := .agg (hdC H').toArray) ?_ rfl ⟨by rw [hv.out], ?_⟩
  ·exact qz3 Tryz.results160 _ _ (Q6o + 1 + 1) 0 rfl (hdC H') _ (Q6u _ _ _ _ (qz2 (qz2 (qz2 (qz2 F2 _ _) _ _) _ _) _ _)) Q6x rfl (qz4 _)
  ·exact Below.setCells (by omega) _ _ _ (Below.setCell (Below.setCell (Below.setCell (Below.setCell K2 (p := ⟨Q6o + 1, 7, none⟩) (by show Q6o <= Q6o + 1; omega) _) (p := ⟨Q6o + 1, 8, none⟩) (by show Q6o <= Q6o + 1; omega) _) (p := ⟨Q6o + 1, 10, none⟩) (by show Q6o <= Q6o + 1; omega) _) (p := ⟨Q6o + 1, 0, none⟩) (by show Q6o <= Q6o + 1; omega) _)
 have b67 : (h.code == 7) = false := by simp [k6]
 have hcb : qz4w A h = false := by simp [qz4w, k6]
 by_cases kx : n = 0
 case pos =>
  have bx0 : ((n : Int) == 0) = true := by simp [kx]
  have nbx0 : ((n : Int) != 0) = false := by simp [kx]
  go_upto_region 13 with (first | (go_at_call 101; refine (qzq _ _ _).mono ?_; rintro e w' ⟨rfl, hw⟩; obtain rfl := hw.symm) | (go_at_call 44; refine (qzd _ _ _ _).mono ?_; rintro e w' ⟨rfl, hw⟩; obtain rfl := hw.symm))
  by_cases hl : A.vers[v].next < 0
  ·obtain ⟨H', hH⟩ : ∃ H' : Hd, Hid (H' = h) := by exact ⟨_, rfl⟩
   have hv : Hid (useH A h = qz9 H' 3 0 0) := by show _ = _; rw [hH.out]; simp [useH, k6, qz66, hvr, hl, hn, kx]
   go_upto_region 18 with (first | (go_at_call 101; refine (qzq _ _ _).mono ?_; rintro e w' ⟨rfl, hw⟩; obtain rfl := hw.symm) | (go_at_call 44; refine (qzd _ _ _ _).mono ?_; rintro e w' ⟨rfl, hw⟩; obtain rfl := hw.symm))
   go_wp2_with (first | (refine Q6z rfl 56 (.tmp 3) rfl (Q6o + 1) 0 ?hxln34 (hdC H') _ ?hcn34 Q6x rfl (qz4 H') ?_))
   try (case hxln34 => rfl)
   case hcn34 => rw [hH.out]; exact H2
   refine (qzt H' 3 0 0 _).mono ?_
   rintro e w9 ⟨rfl, b9⟩
   have F9 := qz5 F2 b9 (by first | omega | (simp; omega))
   have K9 := K2.trans (b9.mono (by first | omega | (simp; omega)))
   go_wp2_with (refine Q6t rfl 56 (.tmp 4) _ rfl (Q6o + 1 + 1) 0 (hdC (qz9 H' 3 0 0)).toArray ?hxn34 ?hyn34 ?htn34 (qzc _) (qzk _) ?_)
   try (case hxn34 => rfl)
   try (case hyn34 => rfl)
   case htn34 => exact F9
   refine bodyPost_ret (v := .agg (hdC (qz9 H' 3 0 0)).toArray) ?_ rfl ⟨by rw [hv.out], ?_⟩
   ·exact qz3 Tryz.results160 _ _ (Q6o + 1 + 1) 0 rfl (hdC (qz9 H' 3 0 0)) _ (Q6u _ _ _ _ F9) Q6x rfl (qz4 _)
   ·exact Below.setCells (by omega) _ _ _ K9
  obtain ⟨nn, hnn⟩ : ∃ nn : Nat, A.vers[v].next = nn := ⟨A.vers[v].next.toNat, by omega⟩
  have hnnl : nn < Q6q := by omega
  have hnnl' : (nn : Int) < (Q6q : Int) := by omega
  have hnnl0 : (0 : Int) <= (nn : Int) := by omega
  have hnn3 : ¬ ((nn : Int) < 0) := by omega
  have hndn : ndOf A (vrOf A h.ver).next = A.nodes[nn] := by rw [hvr, hnn, qz1l A nn hnnl]
  rw [hnn] at v0
  have m0 : w2.cell? ⟨bn, on + nn * 3, none⟩ = some (.int .i64 A.nodes[nn].key) := by simpa using (qzi (sz := 3) (fun _ => rfl) RN2 nn hnnl) 0 _ rfl
  by_cases hk : h.key < A.nodes[nn].key
  ·obtain ⟨H', hH⟩ : ∃ H' : Hd, Hid (H' = h) := by exact ⟨_, rfl⟩
   have hv : Hid (useH A h = qz9 H' 3 0 0) := by show _ = _; rw [hH.out]; simp [useH, k6, qz66, hndn, hk, hn, kx]
   go_upto_region 18 with (first | (go_at_call 101; refine (qzq _ _ _).mono ?_; rintro e w' ⟨rfl, hw⟩; obtain rfl := hw.symm) | (go_at_call 44; refine (qzd _ _ _ _).mono ?_; rintro e w' ⟨rfl, hw⟩; obtain rfl := hw.symm))
   go_wp2_with (first | (refine Q6z rfl 56 (.tmp 3) rfl (Q6o + 1) 0 ?hxln35 (hdC H') _ ?hcn35 Q6x rfl (qz4 H') ?_))
   try (case hxln35 => rfl)
   case hcn35 => rw [hH.out]; exact H2
   refine (qzt H' 3 0 0 _).mono ?_
   rintro e w9 ⟨rfl, b9⟩
   have F9 := qz5 F2 b9 (by first | omega | (simp; omega))
   have K9 := K2.trans (b9.mono (by first | omega | (simp; omega)))
   go_wp2_with (refine Q6t rfl 56 (.tmp 4) _ rfl (Q6o + 1 + 1) 0 (hdC (qz9 H' 3 0 0)).toArray ?hxn35 ?hyn35 ?htn35 (qzc _) (qzk _) ?_)
   try (case hxn35 => rfl)
   try (case hyn35 => rfl)
   case htn35 => exact F9
   refine bodyPost_ret (v := .agg (hdC (qz9 H' 3 0 0)).toArray) ?_ rfl ⟨by rw [hv.out], ?_⟩
   ·exact qz3 Tryz.results160 _ _ (Q6o + 1 + 1) 0 rfl (hdC (qz9 H' 3 0 0)) _ (Q6u _ _ _ _ F9) Q6x rfl (qz4 _)
   ·exact Below.setCells (by omega) _ _ _ K9
  obtain ⟨H', hH⟩ : ∃ H' : Hd, Hid (H' = { h with x_ := (nn : Int), at_ := 2 }) := by exact ⟨_, rfl⟩
  have hv : Hid (useH A h = H') := by
   show _ = _
   rw [hH.out]
   have hlb : qz66 A h = false := by unfold qz66; rw [hndn, hvr, hnn]; simp [k6, hk]
   simp [useH, k6, hlb, hcb, hvr, hnn, hn, kx]
  go_upto_region 22 with (first | (go_at_call 101; refine (qzq _ _ _).mono ?_; rintro e w' ⟨rfl, hw⟩; obtain rfl := hw.symm) | (go_at_call 44; refine (qzd _ _ _ _).mono ?_; rintro e w' ⟨rfl, hw⟩; obtain rfl := hw.symm))
  go_wp2_with (first | (refine Q6z rfl 56 (.tmp 3) rfl (Q6o + 1) 0 ?hxln36 (hdC H') _ ?hcn36 Q6x rfl (qz4 H') ?_) | (refine Q6t rfl 56 (.tmp 4) _ rfl (Q6o + 1 + 1) 0 (hdC H').toArray ?hxn36 ?hyn36 ?htn36 (qzc _) (qzk _) ?_))
  try (case hxln36 => rfl)
  case hcn36 => rw [hH.out]; exact (qzb (qzb H2 10 (by simp [hdC]) _) 0 (by simp [hdC]) _)
  try (case hxn36 => rfl)
  try (case hyn36 => rfl)
  case htn36 => exact (qz2 (qz2 F2 _ _) _ _)
  refine bodyPost_ret (v := .agg (hdC H').toArray) ?_ rfl ⟨by rw [hv.out], ?_⟩
  ·exact qz3 Tryz.results160 _ _ (Q6o + 1 + 1) 0 rfl (hdC H') _ (Q6u _ _ _ _ (qz2 (qz2 F2 _ _) _ _)) Q6x rfl (qz4 _)
  ·exact Below.setCells (by omega) _ _ _ (Below.setCell (Below.setCell K2 (p := ⟨Q6o + 1, 10, none⟩) (by show Q6o <= Q6o + 1; omega) _) (p := ⟨Q6o + 1, 0, none⟩) (by show Q6o <= Q6o + 1; omega) _)
 have hnx : ¬ (h.x_ = 0) := by omega
 have bx : ((n : Int) == 0) = false := by simp [kx]
 have nbx : ((n : Int) != 0) = true := by simp [kx]
 have hnd' : ndOf A (n : Int) = A.nodes[n] := qz1l A n hnl
 by_cases kk : A.nodes[n].key = h.key
 case neg =>
  have bk : (A.nodes[n].key == h.key) = false := by simp [kk]
  go_upto_region 13 with (first | (go_at_call 101; refine (qzq _ _ _).mono ?_; rintro e w' ⟨rfl, hw⟩; obtain rfl := hw.symm) | (go_at_call 44; refine (qzd _ _ _ _).mono ?_; rintro e w' ⟨rfl, hw⟩; obtain rfl := hw.symm))
  by_cases hl : A.vers[v].next < 0
  ·obtain ⟨H', hH⟩ : ∃ H' : Hd, Hid (H' = h) := by exact ⟨_, rfl⟩
   have hv : Hid (useH A h = qz9 H' 3 0 0) := by show _ = _; rw [hH.out]; simp [useH, k6, qz66, hvr, hl, hnd, kk]
   go_upto_region 18 with (first | (go_at_call 101; refine (qzq _ _ _).mono ?_; rintro e w' ⟨rfl, hw⟩; obtain rfl := hw.symm) | (go_at_call 44; refine (qzd _ _ _ _).mono ?_; rintro e w' ⟨rfl, hw⟩; obtain rfl := hw.symm))
   go_wp2_with (first | (refine Q6z rfl 56 (.tmp 3) rfl (Q6o + 1) 0 ?hxln37 (hdC H') _ ?hcn37 Q6x rfl (qz4 H') ?_))
   try (case hxln37 => rfl)
   case hcn37 => rw [hH.out]; exact H2
   refine (qzt H' 3 0 0 _).mono ?_
   rintro e w9 ⟨rfl, b9⟩
   have F9 := qz5 F2 b9 (by first | omega | (simp; omega))
   have K9 := K2.trans (b9.mono (by first | omega | (simp; omega)))
   go_wp2_with (refine Q6t rfl 56 (.tmp 4) _ rfl (Q6o + 1 + 1) 0 (hdC (qz9 H' 3 0 0)).toArray ?hxn37 ?hyn37 ?htn37 (qzc _) (qzk _) ?_)
   try (case hxn37 => rfl)
   try (case hyn37 => rfl)
   case htn37 => exact F9
   refine bodyPost_ret (v := .agg (hdC (qz9 H' 3 0 0)).toArray) ?_ rfl ⟨by rw [hv.out], ?_⟩
   ·exact qz3 Tryz.results160 _ _ (Q6o + 1 + 1) 0 rfl (hdC (qz9 H' 3 0 0)) _ (Q6u _ _ _ _ F9) Q6x rfl (qz4 _)
   ·exact Below.setCells (by omega) _ _ _ K9
  obtain ⟨nn, hnn⟩ : ∃ nn : Nat, A.vers[v].next = nn := ⟨A.vers[v].next.toNat, by omega⟩
  have hnnl : nn < Q6q := by omega
  have hnnl' : (nn : Int) < (Q6q : Int) := by omega
  have hnnl0 : (0 : Int) <= (nn : Int) := by omega
  have hnn3 : ¬ ((nn : Int) < 0) := by omega
  have hndn : ndOf A (vrOf A h.ver).next = A.nodes[nn] := by rw [hvr, hnn, qz1l A nn hnnl]
  rw [hnn] at v0
  have m0 : w2.cell? ⟨bn, on + nn * 3, none⟩ = some (.int .i64 A.nodes[nn].key) := by simpa using (qzi (sz := 3) (fun _ => rfl) RN2 nn hnnl) 0 _ rfl
  by_cases hk : h.key < A.nodes[nn].key
  ·obtain ⟨H', hH⟩ : ∃ H' : Hd, Hid (H' = h) := by exact ⟨_, rfl⟩
   have hv : Hid (useH A h = qz9 H' 3 0 0) := by show _ = _; rw [hH.out]; simp [useH, k6, qz66, hndn, hk, hnd, kk]
   go_upto_region 18 with (first | (go_at_call 101; refine (qzq _ _ _).mono ?_; rintro e w' ⟨rfl, hw⟩; obtain rfl := hw.symm) | (go_at_call 44; refine (qzd _ _ _ _).mono ?_; rintro e w' ⟨rfl, hw⟩; obtain rfl := hw.symm))
   go_wp2_with (first | (refine Q6z rfl 56 (.tmp 3) rfl (Q6o + 1) 0 ?hxln38 (hdC H') _ ?hcn38 Q6x rfl (qz4 H') ?_))
   try (case hxln38 => rfl)
   case hcn38 => rw [hH.out]; exact H2
   refine (qzt H' 3 0 0 _).mono ?_
   rintro e w9 ⟨rfl, b9⟩
   have F9 := qz5 F2 b9 (by first | omega | (simp; omega))
   have K9 := K2.trans (b9.mono (by first | omega | (simp; omega)))
   go_wp2_with (refine Q6t rfl 56 (.tmp 4) _ rfl (Q6o + 1 + 1) 0 (hdC (qz9 H' 3 0 0)).toArray ?hxn38 ?hyn38 ?htn38 (qzc _) (qzk _) ?_)
   try (case hxn38 => rfl)
   try (case hyn38 => rfl)
   case htn38 => exact F9
   refine bodyPost_ret (v := .agg (hdC (qz9 H' 3 0 0)).toArray) ?_ rfl ⟨by rw [hv.out], ?_⟩
   ·exact qz3 Tryz.results160 _ _ (Q6o + 1 + 1) 0 rfl (hdC (qz9 H' 3 0 0)) _ (Q6u _ _ _ _ F9) Q6x rfl (qz4 _)
   ·exact Below.setCells (by omega) _ _ _ K9
  obtain ⟨H', hH⟩ : ∃ H' : Hd, Hid (H' = { h with x_ := (nn : Int), at_ := 2 }) := by exact ⟨_, rfl⟩
  have hv : Hid (useH A h = H') := by
   show _ = _
   rw [hH.out]
   have hlb : qz66 A h = false := by unfold qz66; rw [hndn, hvr, hnn]; simp [k6, hk]
   simp [useH, k6, hlb, hcb, hvr, hnn, hnd, kk]
  go_upto_region 22 with (first | (go_at_call 101; refine (qzq _ _ _).mono ?_; rintro e w' ⟨rfl, hw⟩; obtain rfl := hw.symm) | (go_at_call 44; refine (qzd _ _ _ _).mono ?_; rintro e w' ⟨rfl, hw⟩; obtain rfl := hw.symm))
  go_wp2_with (first | (refine Q6z rfl 56 (.tmp 3) rfl (Q6o + 1) 0 ?hxln39 (hdC H') _ ?hcn39 Q6x rfl (qz4 H') ?_) | (refine Q6t rfl 56 (.tmp 4) _ rfl (Q6o + 1 + 1) 0 (hdC H').toArray ?hxn39 ?hyn39 ?htn39 (qzc _) (qzk _) ?_))
  try (case hxln39 => rfl)
  case hcn39 => rw [hH.out]; exact (qzb (qzb H2 10 (by simp [hdC]) _) 0 (by simp [hdC]) _)
  try (case hxn39 => rfl)
  try (case hyn39 => rfl)
  case htn39 => exact (qz2 (qz2 F2 _ _) _ _)
  refine bodyPost_ret (v := .agg (hdC H').toArray) ?_ rfl ⟨by rw [hv.out], ?_⟩
  ·exact qz3 Tryz.results160 _ _ (Q6o + 1 + 1) 0 rfl (hdC H') _ (Q6u _ _ _ _ (qz2 (qz2 F2 _ _) _ _)) Q6x rfl (qz4 _)
  ·exact Below.setCells (by omega) _ _ _ (Below.setCell (Below.setCell K2 (p := ⟨Q6o + 1, 10, none⟩) (by show Q6o <= Q6o + 1; omega) _) (p := ⟨Q6o + 1, 0, none⟩) (by show Q6o <= Q6o + 1; omega) _)
 cases kg : A.vers[v].gone
 ·obtain ⟨H', hH⟩ : ∃ H' : Hd, Hid (H' = h) := by exact ⟨_, rfl⟩
  have hv : Hid (useH A h = qz9 H' 2 A.nodes[n].value 0) := by show _ = _; rw [hH.out]; simp [useH, k6, hnx, hnd, kk, hvr, kg]
  go_upto_region 9 with (first | (go_at_call 101; refine (qzq _ _ _).mono ?_; rintro e w' ⟨rfl, hw⟩; obtain rfl := hw.symm) | (go_at_call 44; refine (qzd _ _ _ _).mono ?_; rintro e w' ⟨rfl, hw⟩; obtain rfl := hw.symm))
  go_wp2_with (first | (refine Q6z rfl 56 (.tmp 3) rfl (Q6o + 1) 0 ?hxln40 (hdC H') _ ?hcn40 Q6x rfl (qz4 H') ?_))
  try (case hxln40 => rfl)
  case hcn40 => rw [hH.out]; exact H2
  refine (qzt H' 2 A.nodes[n].value 0 _).mono ?_
  rintro e w9 ⟨rfl, b9⟩
  have F9 := qz5 F2 b9 (by first | omega | (simp; omega))
  have K9 := K2.trans (b9.mono (by first | omega | (simp; omega)))
  go_wp2_with (refine Q6t rfl 56 (.tmp 4) _ rfl (Q6o + 1 + 1) 0 (hdC (qz9 H' 2 A.nodes[n].value 0)).toArray ?hxn40 ?hyn40 ?htn40 (qzc _) (qzk _) ?_)
  try (case hxn40 => rfl)
  try (case hyn40 => rfl)
  case htn40 => exact F9
  refine bodyPost_ret (v := .agg (hdC (qz9 H' 2 A.nodes[n].value 0)).toArray) ?_ rfl ⟨by rw [hv.out], ?_⟩
  ·exact qz3 Tryz.results160 _ _ (Q6o + 1 + 1) 0 rfl (hdC (qz9 H' 2 A.nodes[n].value 0)) _ (Q6u _ _ _ _ F9) Q6x rfl (qz4 _)
  ·exact Below.setCells (by omega) _ _ _ K9
 ·obtain ⟨H', hH⟩ : ∃ H' : Hd, Hid (H' = h) := by exact ⟨_, rfl⟩
  have hv : Hid (useH A h = qz9 H' 3 0 0) := by show _ = _; rw [hH.out]; simp [useH, k6, hnx, hnd, kk, hvr, kg]
  go_upto_region 8 with (first | (go_at_call 101; refine (qzq _ _ _).mono ?_; rintro e w' ⟨rfl, hw⟩; obtain rfl := hw.symm) | (go_at_call 44; refine (qzd _ _ _ _).mono ?_; rintro e w' ⟨rfl, hw⟩; obtain rfl := hw.symm))
  go_wp2_with (first | (refine Q6z rfl 56 (.tmp 3) rfl (Q6o + 1) 0 ?hxln41 (hdC H') _ ?hcn41 Q6x rfl (qz4 H') ?_))
  try (case hxln41 => rfl)
  case hcn41 => rw [hH.out]; exact H2
  refine (qzt H' 3 0 0 _).mono ?_
  rintro e w9 ⟨rfl, b9⟩
  have F9 := qz5 F2 b9 (by first | omega | (simp; omega))
  have K9 := K2.trans (b9.mono (by first | omega | (simp; omega)))
  go_wp2_with (refine Q6t rfl 56 (.tmp 4) _ rfl (Q6o + 1 + 1) 0 (hdC (qz9 H' 3 0 0)).toArray ?hxn41 ?hyn41 ?htn41 (qzc _) (qzk _) ?_)
  try (case hxn41 => rfl)
  try (case hyn41 => rfl)
  case htn41 => exact F9
  refine bodyPost_ret (v := .agg (hdC (qz9 H' 3 0 0)).toArray) ?_ rfl ⟨by rw [hv.out], ?_⟩
  ·exact qz3 Tryz.results160 _ _ (Q6o + 1 + 1) 0 rfl (hdC (qz9 H' 3 0 0)) _ (Q6u _ _ _ _ F9) Q6x rfl (qz4 _)
  ·exact Below.setCells (by omega) _ _ _ K9
end
end Go.Proofs.YthjkdnlmopafkaaGreatDoor
