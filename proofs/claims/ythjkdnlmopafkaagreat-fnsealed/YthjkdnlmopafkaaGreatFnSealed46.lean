/-
  What the law's proof goes by, part 47.
-/
import Derived.Test.YthjkdnlmopafkaaGreatFnSealed00
import Derived.Test.YthjkdnlmopafkaaGreatFnSealed09
import Derived.Test.YthjkdnlmopafkaaGreatFnSealed44
namespace Go.Proofs.YthjkdnlmopafkaaGreat
open Go.ChangeShapes Go.WideShapes Go.ChangeAt Go.RowKit
set_option maxRecDepth 100000
set_option maxHeartbeats 16000000
set_option linter.unusedVariables false
set_option linter.unusedSimpArgs false
set_option linter.unnecessarySimpa false
set_option linter.unusedSectionVars false
section
attribute [local go_sem ↓] Go.wp_at_zero Go.wp_at_succ
theorem qz4b (h : Hd) (n : Int) (w : World)  :
  Calls Tryz.prog 174 #[.agg (hdC h).toArray, .int .i64 n] w fun e w' => e = .returned (.agg (hdC (qz1k { h with x_ := n } 2)).toArray) /\ Below Q7b w w' := by
 have H0 := Q7n (qz6 w (hdC h) 53) (.cells Q00 53)
 have G0 := Q80 (qza w (hdC h).toArray 53 22 (by simp [hdC])) (.cells Q00 53)
 have F0 := qza (w.alloc Q0d) Q00 53 22 (by decide)
 have K0 := (((Q7g Q7b w).alloc (Q7l _) Q0d).alloc (by simp) (.cells Q00 53))
 have hz0 : Q7b + 1 < (Q4g).heap.size := by simp
 simp only [World.size_alloc] at F0
 go_enter Tryz.func174, Tryz.ntmps174
 have tok : True := trivial
 go_wp2_with (clear tok; refine qz1q Q4g ?_)
 generalize hw0 : (w.alloc Q0d).alloc (.cells Q00 53) = w0 at *
 clear hw0
 show wpList _ _ _ _ _ w0
 have q10 : w0.cell? ⟨Q7b, 10, none⟩ = some (.int .i64 h.x_) := by simpa using H0 10 (.int .i64 h.x_) rfl
 have f10 : w0.frozen? ⟨Q7b, 10, none⟩ = false := by simpa using (G0 10 (by decide)).2
 obtain ⟨H', hH⟩ : ∃ H' : Hd, Hid (H' = { h with x_ := n }) := by exact ⟨_, rfl⟩
 have hv : Hid (qz1k { h with x_ := n } 2 = qz1k H' 2) := by show _ = _; rw [hH.out]; skip
 go_wp2_with (first | (refine Q7j rfl 53 (.tmp 2) rfl (Q7b) 0 ?hxln38 (hdC H') _ ?hcn38 Q7d rfl (qz1 H') ?_))
 try (case hxln38 => rfl)
 case hcn38 => rw [hH.out]; exact (qzb H0 10 (by simp [hdC]) _)
 refine (qz1g H' 2 _).mono ?_
 rintro e w9 ⟨rfl, b9⟩
 have F9 := qz2 (qz5 F0 _ _) b9 (by first | omega | (simp; omega))
 have K9 := (Below.setCell K0 (p := ⟨Q7b, 10, none⟩) (by show Q7b <= Q7b; omega) _).trans (b9.mono (by first | omega | (simp; omega)))
 go_wp2_with (refine Q7e rfl 53 (.tmp 4) _ rfl (Q7b + 1) 0 (hdC (qz1k H' 2)).toArray ?hxn38 ?hyn38 ?htn38 (qz7 _) (qzd _) ?_)
 try (case hxn38 => rfl)
 try (case hyn38 => rfl)
 case htn38 => exact F9
 refine bodyPost_ret (v := .agg (hdC (qz1k H' 2)).toArray) ?_ rfl ⟨by rw [hv.out], ?_⟩
 ·exact qz3 Tryz.results174 _ _ (Q7b + 1) 0 rfl (hdC (qz1k H' 2)) _ (Q7c _ _ _ _ F9) Q7d rfl (qz1 _)
 ·exact Below.setCells (by omega) _ _ _ K9
theorem qz6b (B : Nat) (A : Ar) (n k : Int) (a0 a1 a2 a3 : Option Addr) (c0 c1 c2 c3 : Nat) (w : World) (hB : B <= Q7b) (hA : A.size <= 1048576) (I : qzv B w Q0u Q0s Q0v Q14 A) (hn0 : -1 <= n) (hn1 : n < (Q7f : Int)) :
  Calls Tryz.prog 173 #[.agg Q02, .int .i64 n, .int .i64 k] w fun e w' => e = .returned (.bool (decide (n < 0) || decide (k < (ndOf A n).key))) /\ Below Q7b w w' := by
 have hA' := hA
 unfold Ar.size at hA
 have X0 := qz6 w Q0j 33
 have K0 := ((Q7g Q7b w).alloc (Q7l _) (.cells Q02 33))
 have hz0 : Q7b < (Q26).heap.size := by simp
 have I0 := I.below (K0.mono hB)
 go_enter Tryz.func173, Tryz.ntmps173
 have tok : True := trivial
 go_wp2_with (clear tok; refine qz1q Q26 ?_)
 generalize hw0 : w.alloc (.cells Q02 33) = w0 at *
 clear hw0 I
 show wpList _ _ _ _ _ w0
 obtain ⟨x0, x1, x2, x3, x4⟩ := row5 X0
 by_cases hn : n = -1
 ·subst hn
  have hv : Hid ((decide ((-1 : Int) < 0) || decide (k < (ndOf A (-1)).key)) = true) := by show _ = _; simp
  go_wp2
  go_ret
  exact ⟨by rw [hv.out]; rfl, K0⟩
 obtain ⟨m, hcm⟩ : ∃ m : Nat, n = m := ⟨n.toNat, by omega⟩
 subst hcm
 have hm : m < Q7f := by omega
 have hm' : (m : Int) < (Q7f : Int) := by omega
 have hm0 : (0 : Int) <= (m : Int) := by omega
 have bm : ((m : Int) == -1) = false := by simp <;> omega
 obtain ⟨bb, off, rfl, hbb, R⟩ := qzq.at I0.n (by omega)
 have z0 : w0.cell? ⟨bb, off + m * 3 + 0, none⟩ = some (.int .i64 A.nodes[m].key) := (qze (sz := 3) (fun _ => rfl) R m hm) 0 _ rfl
 simp only [Nat.add_zero] at z0
 clear R
 by_cases kk : k < A.nodes[m].key
 ·have hv : Hid ((decide ((m : Int) < 0) || decide (k < (ndOf A (m : Int)).key)) = true) := by show _ = _; rw [qz1d A m hm]; simp [kk]
  go_wp2
  go_ret
  exact ⟨by rw [hv.out]; rfl, K0⟩
 ·have hv : Hid ((decide ((m : Int) < 0) || decide (k < (ndOf A (m : Int)).key)) = false) := by show _ = _; rw [qz1d A m hm]; simp [kk] <;> omega
  go_wp2
  go_ret
  exact ⟨by rw [hv.out]; rfl, K0⟩
theorem qzdd (B : Nat) (A : Ar) (h : Hd) (m : Vr) (a0 a1 a2 a3 : Option Addr) (c0 c1 c2 c3 : Nat) (w : World) (hB : B <= Q7b) (hA : A.size <= 1048576) (I : qzv B w Q0u Q0s Q0v Q14 A) (h6 : h.code = 6) (hvm : vrOf A h.ver = m) (hx0 : 0 <= h.x_) (hx1 : h.x_ < (Q7f : Int)) (hm0 : -1 <= m.next) (hm1 : m.next < (Q7f : Int)) :
  Calls Tryz.prog 162 Q1x w fun e w' => e = .returned (.agg (hdC (useH A h)).toArray) /\ Below Q7b w w' := by
 have hA' := hA
 unfold Ar.size at hA
 have X0 := Q7n (Q7n (Q7n (qz6 w Q0j 33) Q0d) Q0a) (.cells Q00 53)
 have H0 := Q7n (Q7n (qz6 Q26 (hdC h) 53) Q0a) (.cells Q00 53)
 have G0 := Q80 (Q80 (qza Q26 (hdC h).toArray 53 22 (by simp [hdC])) Q0a) (.cells Q00 53)
 have M0 := Q7n Q1o (.cells Q00 53)
 have F0 := qza (((Q26).alloc Q0d).alloc Q0a) Q00 53 22 (by decide)
 have K0 := (((((Q7g Q7b w).alloc (Q7l _) (.cells Q02 33)).alloc (by simp) Q0d).alloc (by simp <;> omega) Q0a).alloc (by simp <;> omega) (.cells Q00 53))
 have hz0 : Q7b + 1 + 1 + 1 < (Q1k).heap.size := by simp
 simp only [World.size_alloc] at H0 G0 M0 F0
 have I0 := I.below (K0.mono hB)
 go_enter Tryz.func162, Tryz.ntmps162
 have tok : True := trivial
 go_wp2_with (clear tok; refine qz1q Q1k ?_)
 generalize hw0 : (((Q26).alloc Q0d).alloc Q0a).alloc (.cells Q00 53) = w0 at *
 clear hw0 I
 show wpList _ _ _ _ _ w0
 obtain ⟨n, hn⟩ : ∃ n : Nat, h.x_ = n := ⟨h.x_.toNat, by omega⟩
 have hnl : n < Q7f := by omega
 have hnl' : (n : Int) < (Q7f : Int) := by omega
 have hnl0 : (0 : Int) <= (n : Int) := by omega
 have hnd : ndOf A h.x_ = A.nodes[n] := by rw [hn, qz1d A n hnl]
 obtain ⟨bn, on, rfl, hbn, RN⟩ := qzq.at I0.n (by omega)
 have n0 : w0.cell? ⟨bn, on + n * 3, none⟩ = some (.int .i64 A.nodes[n].key) := by simpa using (qze (sz := 3) (fun _ => rfl) RN n hnl) 0 _ rfl
 have n1 : w0.cell? ⟨bn, on + n * 3 + 1, none⟩ = some (.int .i64 A.nodes[n].value) := (qze (sz := 3) (fun _ => rfl) RN n hnl) 1 _ rfl
 have n2 : w0.cell? ⟨bn, on + n * 3 + 2, none⟩ = some (.int .i64 A.nodes[n].head) := (qze (sz := 3) (fun _ => rfl) RN n hnl) 2 _ rfl
 have x3 : w0.cell? ⟨Q7b, 3, none⟩ = some Q40 := by simpa using X0 3 _ rfl
 have q10 : w0.cell? ⟨Q7b + 1, 10, none⟩ = some (.int .i64 h.x_) := by simpa using H0 10 (.int .i64 h.x_) rfl
 rw [hn] at q10
 clear RN
 have tok : True := trivial
 go_wp2_with (clear tok; refine qz1q (w0.alloc Q1p) ?_)
 have al := (Q7g Q7r w0).alloc (Q7l _) Q1p
 have NB1 := qz6 w0 Q5x 99
 have X1 := qz0 X0 al (by omega)
 have H1 := qz0 H0 al (by omega)
 have G1 := qz2 G0 al (by omega)
 have F1 := qz2 F0 al (by omega)
 have K1 := K0.trans (al.mono (by omega))
 have I1 := I0.below (al.mono (by omega))
 have hz1 := Q7o hz0 al.size
 have hl1 : Q7r < (w0.alloc Q1p).heap.size := by simp
 have M1 := qz0 M0 al (by omega)
 generalize hw1 : w0.alloc Q1p = w1 at *
 show wpList _ _ _ _ _ w1
 clear hw1 al X0 H0 G0 F0 K0 I0
 clear n0 n1 n2 x3 q10
 have q3 : w1.cell? ⟨Q7b + 1, 3, none⟩ = some (.int .i64 h.key) := by simpa using H1 3 (.int .i64 h.key) rfl
 have q10 : w1.cell? ⟨Q7b + 1, 10, none⟩ = some (.int .i64 h.x_) := by simpa using H1 10 (.int .i64 h.x_) rfl
 have f10 : w1.frozen? ⟨Q7b + 1, 10, none⟩ = false := by simpa using (G1 10 (by decide)).2
 rw [hn] at q10
 obtain ⟨x0, x1, x2, x3, x4⟩ := row5 X1
 obtain ⟨v0, v1, v2, v3, v4⟩ := row5 M1
 have n0 : w1.cell? ⟨Q7r, 0, none⟩ = some (.int .i64 A.nodes[n].key) := by simpa using NB1 0 _ rfl
 have n1 : w1.cell? ⟨Q7r, 1, none⟩ = some (.int .i64 A.nodes[n].value) := by simpa using NB1 1 _ rfl
 have e1 : ¬ (Q7b + 1 = Q7r) := by omega
 have e2 : ¬ Q68 := by omega
 have e3 : ¬ Q62 := by omega
 clear NB1 hl1 hz0
 have hnH : Hid (h.x_ = n) := hn
 clear hn hnl' hnl0
 have hcb : qz3z A h = false := by simp [qz3z, h6]
 have h6' : Hid (h.code = 6) := h6
 clear h6
 by_cases kx : n = 0
 case pos =>
  have nbx0 : ((n : Int) != 0) = false := by simp [kx]
  have hx0' : Hid (h.x_ = 0) := by show _ = _; rw [hnH.out, kx]; rfl
  go_wp2_with fail
  refine (qz6b B A m.next h.key _ _ _ _ _ _ _ _ _ (by first | omega | (simp; omega)) hA' I1 hm0 hm1).mono ?_
  rintro e w5 ⟨rfl, b5⟩
  have H5 := qz0 H1 b5 (by first | omega | (simp; omega))
  have F5 := qz2 F1 b5 (by first | omega | (simp; omega))
  have M5 := qz0 M1 b5 (by first | omega | (simp; omega))
  have K5 := K1.trans (b5.mono (by first | omega | (simp; omega)))
  have hz5 : Q7b + 1 + 1 + 1 < Q84 := Nat.lt_of_lt_of_le (m := Q7k) (by first | omega | (simp; omega)) b5.size
  clear x0 x1 x2 x3 x4 v0 v1 v2 v3 v4 n0 n1
  obtain ⟨v0, v1, v2, v3, v4⟩ := row5 M5
  cases hl : (decide (m.next < 0) || decide (h.key < (ndOf A m.next).key))
  case true =>
   have hlb : qz47 A h = true := by unfold qz47; rw [hvm, if_neg (by rw [h6'.out]; decide)]; exact hl
   obtain ⟨H', hH⟩ : ∃ H' : Hd, Hid (H' = h) := by exact ⟨_, rfl⟩
   have hv : Hid (useH A h = qz9 H' 3 0 0) := by show _ = _; rw [hH.out]; have h6 := h6'.out; simp [useH, h6, hlb, hx0'.out]
   go_wp2_with (first | (refine Q7j rfl 53 (.tmp 4) rfl (Q7b + 1) 0 ?hxln62 (hdC H') _ ?hcn62 Q7d rfl (qz1 H') ?_))
   try (case hxln62 => rfl)
   case hcn62 => rw [hH.out]; exact H5
   refine (qz28 H' 3 0 0 _).mono ?_
   rintro e w9 ⟨rfl, b9⟩
   have F9 := qz2 F5 b9 (by first | omega | (simp; omega))
   have K9 := K5.trans (b9.mono (by first | omega | (simp; omega)))
   go_wp2_with (refine Q7e rfl 53 (.tmp 6) _ rfl Q18 0 (hdC (qz9 H' 3 0 0)).toArray ?hxn62 ?hyn62 ?htn62 (qz7 _) (qzd _) ?_)
   try (case hxn62 => rfl)
   try (case hyn62 => rfl)
   case htn62 => exact F9
   refine bodyPost_ret (v := .agg (hdC (qz9 H' 3 0 0)).toArray) ?_ rfl ⟨by rw [hv.out], ?_⟩
   ·exact qz3 Tryz.results162 _ _ Q18 0 rfl (hdC (qz9 H' 3 0 0)) _ (Q7c _ _ _ _ F9) Q7d rfl (qz1 _)
   ·exact Below.setCells (by omega) _ _ _ K9
  have hlb : qz47 A h = false := by unfold qz47; rw [hvm, if_neg (by rw [h6'.out]; decide)]; exact hl
  obtain ⟨H', hH⟩ : ∃ H' : Hd, Hid (H' = h) := by exact ⟨_, rfl⟩
  have hv : Hid (useH A h = qz1k { H' with x_ := m.next } 2) := by show _ = _; rw [hH.out]; have h6 := h6'.out; simp [useH, h6, hlb, hcb, hvm, qz1k, hx0'.out]
  go_wp2_with (first | (refine Q7j rfl 53 (.tmp 4) rfl (Q7b + 1) 0 ?hxln63 (hdC H') _ ?hcn63 Q7d rfl (qz1 H') ?_))
  try (case hxln63 => rfl)
  case hcn63 => rw [hH.out]; exact H5
  refine (qz4b H' m.next _).mono ?_
  rintro e w9 ⟨rfl, b9⟩
  have F9 := qz2 F5 b9 (by first | omega | (simp; omega))
  have K9 := K5.trans (b9.mono (by first | omega | (simp; omega)))
  go_wp2_with (refine Q7e rfl 53 (.tmp 6) _ rfl Q18 0 (hdC (qz1k { H' with x_ := m.next } 2)).toArray ?hxn63 ?hyn63 ?htn63 (qz7 _) (qzd _) ?_)
  try (case hxn63 => rfl)
  try (case hyn63 => rfl)
  case htn63 => exact F9
  refine bodyPost_ret (v := .agg (hdC (qz1k { H' with x_ := m.next } 2)).toArray) ?_ rfl ⟨by rw [hv.out], ?_⟩
  ·exact qz3 Tryz.results162 _ _ Q18 0 rfl (hdC (qz1k { H' with x_ := m.next } 2)) _ (Q7c _ _ _ _ F9) Q7d rfl (qz1 _)
  ·exact Below.setCells (by omega) _ _ _ K9
 have hnx : Hid (¬ (h.x_ = 0)) := by have := hnH.out; show ¬ _; omega
 have nbx : ((n : Int) != 0) = true := by simp [kx]
 by_cases kk : A.nodes[n].key = h.key
 case neg =>
  have bk : (A.nodes[n].key == h.key) = false := by simp [kk]
  go_wp2_with fail
  refine (qz6b B A m.next h.key _ _ _ _ _ _ _ _ _ (by first | omega | (simp; omega)) hA' I1 hm0 hm1).mono ?_
  rintro e w5 ⟨rfl, b5⟩
  have H5 := qz0 H1 b5 (by first | omega | (simp; omega))
  have F5 := qz2 F1 b5 (by first | omega | (simp; omega))
  have M5 := qz0 M1 b5 (by first | omega | (simp; omega))
  have K5 := K1.trans (b5.mono (by first | omega | (simp; omega)))
  have hz5 : Q7b + 1 + 1 + 1 < Q84 := Nat.lt_of_lt_of_le (m := Q7k) (by first | omega | (simp; omega)) b5.size
  clear x0 x1 x2 x3 x4 v0 v1 v2 v3 v4 n0 n1
  obtain ⟨v0, v1, v2, v3, v4⟩ := row5 M5
  cases hl : (decide (m.next < 0) || decide (h.key < (ndOf A m.next).key))
  case true =>
   have hlb : qz47 A h = true := by unfold qz47; rw [hvm, if_neg (by rw [h6'.out]; decide)]; exact hl
   obtain ⟨H', hH⟩ : ∃ H' : Hd, Hid (H' = h) := by exact ⟨_, rfl⟩
   have hv : Hid (useH A h = qz9 H' 3 0 0) := by show _ = _; rw [hH.out]; have h6 := h6'.out; simp [useH, h6, hlb, hnd, kk]
   go_wp2_with (first | (refine Q7j rfl 53 (.tmp 4) rfl (Q7b + 1) 0 ?hxln64 (hdC H') _ ?hcn64 Q7d rfl (qz1 H') ?_))
   try (case hxln64 => rfl)
   case hcn64 => rw [hH.out]; exact H5
   refine (qz28 H' 3 0 0 _).mono ?_
   rintro e w9 ⟨rfl, b9⟩
   have F9 := qz2 F5 b9 (by first | omega | (simp; omega))
   have K9 := K5.trans (b9.mono (by first | omega | (simp; omega)))
   go_wp2_with (refine Q7e rfl 53 (.tmp 6) _ rfl Q18 0 (hdC (qz9 H' 3 0 0)).toArray ?hxn64 ?hyn64 ?htn64 (qz7 _) (qzd _) ?_)
   try (case hxn64 => rfl)
   try (case hyn64 => rfl)
   case htn64 => exact F9
   refine bodyPost_ret (v := .agg (hdC (qz9 H' 3 0 0)).toArray) ?_ rfl ⟨by rw [hv.out], ?_⟩
   ·exact qz3 Tryz.results162 _ _ Q18 0 rfl (hdC (qz9 H' 3 0 0)) _ (Q7c _ _ _ _ F9) Q7d rfl (qz1 _)
   ·exact Below.setCells (by omega) _ _ _ K9
  have hlb : qz47 A h = false := by unfold qz47; rw [hvm, if_neg (by rw [h6'.out]; decide)]; exact hl
  obtain ⟨H', hH⟩ : ∃ H' : Hd, Hid (H' = h) := by exact ⟨_, rfl⟩
  have hv : Hid (useH A h = qz1k { H' with x_ := m.next } 2) := by show _ = _; rw [hH.out]; have h6 := h6'.out; simp [useH, h6, hlb, hcb, hvm, qz1k, hnd, kk]
  go_wp2_with (first | (refine Q7j rfl 53 (.tmp 4) rfl (Q7b + 1) 0 ?hxln65 (hdC H') _ ?hcn65 Q7d rfl (qz1 H') ?_))
  try (case hxln65 => rfl)
  case hcn65 => rw [hH.out]; exact H5
  refine (qz4b H' m.next _).mono ?_
  rintro e w9 ⟨rfl, b9⟩
  have F9 := qz2 F5 b9 (by first | omega | (simp; omega))
  have K9 := K5.trans (b9.mono (by first | omega | (simp; omega)))
  go_wp2_with (refine Q7e rfl 53 (.tmp 6) _ rfl Q18 0 (hdC (qz1k { H' with x_ := m.next } 2)).toArray ?hxn65 ?hyn65 ?htn65 (qz7 _) (qzd _) ?_)
  try (case hxn65 => rfl)
  try (case hyn65 => rfl)
  case htn65 => exact F9
  refine bodyPost_ret (v := .agg (hdC (qz1k { H' with x_ := m.next } 2)).toArray) ?_ rfl ⟨by rw [hv.out], ?_⟩
  ·exact qz3 Tryz.results162 _ _ Q18 0 rfl (hdC (qz1k { H' with x_ := m.next } 2)) _ (Q7c _ _ _ _ F9) Q7d rfl (qz1 _)
  ·exact Below.setCells (by omega) _ _ _ K9
 have bk : (A.nodes[n].key == h.key) = true := by simp [kk]
 have kkH : Hid (A.nodes[n].key = h.key) := kk
 clear kk
 cases kg : m.gone
 ·obtain ⟨H', hH⟩ : ∃ H' : Hd, Hid (H' = h) := by exact ⟨_, rfl⟩
  have hv : Hid (useH A h = qz9 H' 2 A.nodes[n].value 0) := by show _ = _; rw [hH.out]; have h6 := h6'.out; have hnx := hnx.out; have kk := kkH.out; simp [useH, h6, hnx, hnd, kk, hvm, kg]
  go_wp2_with (first | (refine Q7j rfl 53 (.tmp 4) rfl (Q7b + 1) 0 ?hxln66 (hdC H') _ ?hcn66 Q7d rfl (qz1 H') ?_))
  try (case hxln66 => rfl)
  case hcn66 => rw [hH.out]; exact H1
  refine (qz28 H' 2 A.nodes[n].value 0 _).mono ?_
  rintro e w9 ⟨rfl, b9⟩
  have F9 := qz2 F1 b9 (by first | omega | (simp; omega))
  have K9 := K1.trans (b9.mono (by first | omega | (simp; omega)))
  go_wp2_with (refine Q7e rfl 53 (.tmp 6) _ rfl Q18 0 (Q5v).toArray ?hxn66 ?hyn66 ?htn66 (qz7 _) (qzd _) ?_)
  try (case hxn66 => rfl)
  try (case hyn66 => rfl)
  case htn66 => exact F9
  refine bodyPost_ret (v := .agg (Q5v).toArray) ?_ rfl ⟨by rw [hv.out], ?_⟩
  ·exact qz3 Tryz.results162 _ _ Q18 0 rfl Q5v _ (Q7c _ _ _ _ F9) Q7d rfl (qz1 _)
  ·exact Below.setCells (by omega) _ _ _ K9
 ·obtain ⟨H', hH⟩ : ∃ H' : Hd, Hid (H' = h) := by exact ⟨_, rfl⟩
  have hv : Hid (useH A h = qz9 H' 3 0 0) := by show _ = _; rw [hH.out]; have h6 := h6'.out; have hnx := hnx.out; have kk := kkH.out; simp [useH, h6, hnx, hnd, kk, hvm, kg]
  go_wp2_with (first | (refine Q7j rfl 53 (.tmp 4) rfl (Q7b + 1) 0 ?hxln67 (hdC H') _ ?hcn67 Q7d rfl (qz1 H') ?_))
  try (case hxln67 => rfl)
  case hcn67 => rw [hH.out]; exact H1
  refine (qz28 H' 3 0 0 _).mono ?_
  rintro e w9 ⟨rfl, b9⟩
  have F9 := qz2 F1 b9 (by first | omega | (simp; omega))
  have K9 := K1.trans (b9.mono (by first | omega | (simp; omega)))
  go_wp2_with (refine Q7e rfl 53 (.tmp 6) _ rfl Q18 0 (hdC (qz9 H' 3 0 0)).toArray ?hxn67 ?hyn67 ?htn67 (qz7 _) (qzd _) ?_)
  try (case hxn67 => rfl)
  try (case hyn67 => rfl)
  case htn67 => exact F9
  refine bodyPost_ret (v := .agg (hdC (qz9 H' 3 0 0)).toArray) ?_ rfl ⟨by rw [hv.out], ?_⟩
  ·exact qz3 Tryz.results162 _ _ Q18 0 rfl (hdC (qz9 H' 3 0 0)) _ (Q7c _ _ _ _ F9) Q7d rfl (qz1 _)
  ·exact Below.setCells (by omega) _ _ _ K9
end
end Go.Proofs.YthjkdnlmopafkaaGreat
