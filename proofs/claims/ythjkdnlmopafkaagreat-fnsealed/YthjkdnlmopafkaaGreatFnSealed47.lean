/-
  What the law's proof goes by, part 48.
-/
import Derived.Test.YthjkdnlmopafkaaGreatFnSealed00
import Derived.Test.YthjkdnlmopafkaaGreatFnSealed37
import Derived.Test.YthjkdnlmopafkaaGreatFnSealed46
namespace Go.Proofs.YthjkdnlmopafkaaGreat
open Go.ChangeShapes Go.WideShapes Go.ChangeAt Go.RowKit
set_option maxRecDepth 100000
set_option maxHeartbeats 16000000
set_option linter.unusedVariables false
set_option linter.unusedSimpArgs false
set_option linter.unnecessarySimpa false
set_option linter.unusedSectionVars false
section
attribute [local go_sem ↓] Go.wp_at_zero Go.wp_at_succ
def cntJ (w1 : World) (b : Nat) (v : Value) (L : Nat -> Bool) (V : World) : Prop := ∃ d, V = { (if L 11 = true then w1.setCell ⟨b, 7, none⟩ v else w1) with drawn := d }
def cntG (b nb : Nat) (o s val u1 u2 : Int) : Nat -> Value -> Prop
 | 0, v => v = .pointer (some ⟨b, 7, none⟩)
 | 1, v => v = .int .i64 o
 | 2, v => v = .int .i64 (o + 1)
 | 3, v => v = .int .i64 u1
 | 4, v => v = .pointer (some ⟨b, 8, none⟩)
 | 5, v => v = .int .i64 s
 | 6, v => v = .pointer (some ⟨nb, 1, none⟩)
 | 7, v => v = .int .i64 val
 | 8, v => v = .int .i64 (s + val)
 | 9, v => v = .int .i64 u2
 | 10, v => v = .pointer (some ⟨b, 7, none⟩)
 | _, _ => True
theorem qzc2 (B : Nat) (A : Ar) (h : Hd) (m : Vr) (a0 a1 a2 a3 : Option Addr) (c0 c1 c2 c3 : Nat) (w : World) (hB : B <= Q7b) (hA : A.size <= 1048576) (I : qzv B w Q0u Q0s Q0v Q14 A) (h7 : h.code = 7) (hvm : vrOf A h.ver = m) (hx0 : 0 <= h.x_) (hx1 : h.x_ < (Q7f : Int)) (hm0 : -1 <= m.next) (hm1 : m.next < (Q7f : Int)) (ho0 : 0 <= h.out) (ho1 : h.out <= 1000000) (hs0 : 0 <= h.sum) (hs1 : h.sum <= 1000000) (hval : ∀ n (hn : n < Q7f), 0 <= A.nodes[n].value /\ A.nodes[n].value <= 9999) :
  Calls Tryz.prog 163 Q1x w fun e w' => e = .returned (.agg (hdC (useH A h)).toArray) /\ Below Q7b w w' := by
 have hA' := hA
 unfold Ar.size at hA
 have X0 := Q7n (Q7n (Q7n (qz6 w Q0j 33) Q0d) Q0a) (.cells Q00 53)
 have H0 := Q7n (Q7n (qz6 Q26 (hdC h) 53) Q0a) (.cells Q00 53)
 have G0 := Q80 (Q80 (qza Q26 (hdC h).toArray 53 22 (by simp [hdC])) Q0a) (.cells Q00 53)
 have M0 := Q7n Q1o (.cells Q00 53)
 have F0 := qza (((Q26).alloc Q0d).alloc Q0a) Q00 53 22 (by decide)
 have K0 := (((((Q7g Q7b w).alloc (Q7l _) (.cells Q02 33)).alloc (by simp) Q0d).alloc (by simp <;> omega) Q0a).alloc (by simp <;> omega) (.cells Q00 53))
 have hz0 : Q7b + 1 + 1 + 1 < (Q1k).heap.size := by simp
 simp only [World.size_alloc] at H0 G0 M0 F0
 have I0 := I.below (K0.mono hB)
 go_enter Tryz.func163, Tryz.ntmps163
 have tok : True := trivial
 go_wp2_with (clear tok; refine qz1q Q1k ?_)
 generalize hw0 : (((Q26).alloc Q0d).alloc Q0a).alloc (.cells Q00 53) = w0 at *
 clear hw0 I
 show wpList _ _ _ _ _ w0
 obtain ⟨n, hn⟩ : ∃ n : Nat, h.x_ = n := ⟨h.x_.toNat, by omega⟩
 have hnl : n < Q7f := by omega
 have hnl' : (n : Int) < (Q7f : Int) := by omega
 have hnl0 : (0 : Int) <= (n : Int) := by omega
 have hnd : ndOf A h.x_ = A.nodes[n] := by rw [hn, qz1d A n hnl]
 obtain ⟨bn, on, rfl, hbn, RN⟩ := qzq.at I0.n (by omega)
 have n0 : w0.cell? ⟨bn, on + n * 3, none⟩ = some (.int .i64 A.nodes[n].key) := by simpa using (qze (sz := 3) (fun _ => rfl) RN n hnl) 0 _ rfl
 have n1 : w0.cell? ⟨bn, on + n * 3 + 1, none⟩ = some (.int .i64 A.nodes[n].value) := (qze (sz := 3) (fun _ => rfl) RN n hnl) 1 _ rfl
 have n2 : w0.cell? ⟨bn, on + n * 3 + 2, none⟩ = some (.int .i64 A.nodes[n].head) := (qze (sz := 3) (fun _ => rfl) RN n hnl) 2 _ rfl
 have x3 : w0.cell? ⟨Q7b, 3, none⟩ = some Q40 := by simpa using X0 3 _ rfl
 have q10 : w0.cell? ⟨Q7b + 1, 10, none⟩ = some (.int .i64 h.x_) := by simpa using H0 10 (.int .i64 h.x_) rfl
 rw [hn] at q10
 clear RN
 have tok : True := trivial
 go_wp2_with (clear tok; refine qz1q (w0.alloc Q1p) ?_)
 have al := (Q7g Q7r w0).alloc (Q7l _) Q1p
 have NB1 := qz6 w0 Q5x 99
 have X1 := qz0 X0 al (by omega)
 have H1 := qz0 H0 al (by omega)
 have G1 := qz2 G0 al (by omega)
 have F1 := qz2 F0 al (by omega)
 have K1 := K0.trans (al.mono (by omega))
 have I1 := I0.below (al.mono (by omega))
 have hz1 := Q7o hz0 al.size
 have hl1 : Q7r < (w0.alloc Q1p).heap.size := by simp
 have M1 := qz0 M0 al (by omega)
 generalize hw1 : w0.alloc Q1p = w1 at *
 show wpList _ _ _ _ _ w1
 clear hw1 al X0 H0 G0 F0 K0 I0
 clear n0 n1 n2 x3 q10
 have q3 : w1.cell? ⟨Q7b + 1, 3, none⟩ = some (.int .i64 h.key) := by simpa using H1 3 (.int .i64 h.key) rfl
 have q4 : w1.cell? ⟨Q7b + 1, 4, none⟩ = some (.int .i64 h.value) := by simpa using H1 4 (.int .i64 h.value) rfl
 have q7 : w1.cell? ⟨Q7b + 1, 7, none⟩ = some (.int .i64 h.out) := by simpa using H1 7 (.int .i64 h.out) rfl
 have q8 : w1.cell? ⟨Q7b + 1, 8, none⟩ = some (.int .i64 h.sum) := by simpa using H1 8 (.int .i64 h.sum) rfl
 have q10 : w1.cell? ⟨Q7b + 1, 10, none⟩ = some (.int .i64 h.x_) := by simpa using H1 10 (.int .i64 h.x_) rfl
 have f10 : w1.frozen? ⟨Q7b + 1, 10, none⟩ = false := by simpa using (G1 10 (by decide)).2
 have f7 : w1.frozen? ⟨Q7b + 1, 7, none⟩ = false := by simpa using (G1 7 (by decide)).2
 have f8 : w1.frozen? ⟨Q7b + 1, 8, none⟩ = false := by simpa using (G1 8 (by decide)).2
 rw [hn] at q10
 obtain ⟨x0, x1, x2, x3, x4⟩ := row5 X1
 obtain ⟨v0, v1, v2, v3, v4⟩ := row5 M1
 have n0 : w1.cell? ⟨Q7r, 0, none⟩ = some (.int .i64 A.nodes[n].key) := by simpa using NB1 0 _ rfl
 have n1 : w1.cell? ⟨Q7r, 1, none⟩ = some (.int .i64 A.nodes[n].value) := by simpa using NB1 1 _ rfl
 have e1 : ¬ (Q7b + 1 = Q7r) := by omega
 have e2 : ¬ Q68 := by omega
 have e3 : ¬ Q62 := by omega
 clear NB1 hl1 hz0
 have hnH : Hid (h.x_ = n) := hn
 clear hn hnl' hnl0
 have hval := hval n hnl
 have h7' : Hid (h.code = 7) := h7
 clear h7
 by_cases kx : n = 0
 case pos =>
  have hcb : qz3z A h = false := by simp [qz3z, hnH.out, kx]
  have nbx0 : ((n : Int) != 0) = false := by simp [kx]
  obtain ⟨g, hg⟩ : ∃ g : Hd, Hid (g = h) := by exact ⟨_, rfl⟩
  rw [<- hg.out] at H1
  go_upto_region 4 with (first | (go_at_call 105; refine (qzl _ _ _ _).mono ?_; rintro e w' ⟨rfl, hw⟩; obtain rfl := hw.symm))
  go_wp2_with fail
  refine (qz6b B A m.next h.value _ _ _ _ _ _ _ _ _ (by first | omega | (simp; omega)) hA' I1 hm0 hm1).mono ?_
  rintro e w5 ⟨rfl, b5⟩
  have H5 := qz0 H1 b5 (by first | omega | (simp; omega))
  have F5 := qz2 F1 b5 (by first | omega | (simp; omega))
  have M5 := qz0 M1 b5 (by first | omega | (simp; omega))
  have K5 := K1.trans (b5.mono (by first | omega | (simp; omega)))
  have hz5 : Q7b + 1 + 1 + 1 < Q84 := Nat.lt_of_lt_of_le (m := Q7k) (by first | omega | (simp; omega)) b5.size
  clear x0 x1 x2 x3 x4 v0 v1 v2 v3 v4 n0 n1
  obtain ⟨v0, v1, v2, v3, v4⟩ := row5 M5
  have q7 : w5.cell? ⟨Q7b + 1, 7, none⟩ = some (.int .i64 g.out) := by simpa using H5 7 (.int .i64 g.out) rfl
  have q8 : w5.cell? ⟨Q7b + 1, 8, none⟩ = some (.int .i64 g.sum) := by simpa using H5 8 (.int .i64 g.sum) rfl
  cases hl : (decide (m.next < 0) || decide (h.value < (ndOf A m.next).key))
  case true =>
   have hlb : qz47 A h = true := by unfold qz47; rw [hvm, if_pos h7'.out]; exact hl
   obtain ⟨H', hH⟩ : ∃ H' : Hd, Hid (H' = g) := by exact ⟨_, rfl⟩
   have hv : Hid (useH A h = qz9 H' 4 g.out g.sum) := by show _ = _; rw [hH.out]; rw [hg.out]; have h7 := h7'.out; simp [useH, h7, hlb, qz9, hcb]
   go_wp2_with (first | (refine Q7j rfl 53 (.tmp 4) rfl (Q7b + 1) 0 ?hxln68 (hdC H') _ ?hcn68 Q7d rfl (qz1 H') ?_))
   try (case hxln68 => rfl)
   case hcn68 => rw [hH.out]; exact H5
   refine (qz28 H' 4 g.out g.sum _).mono ?_
   rintro e w9 ⟨rfl, b9⟩
   have F9 := qz2 F5 b9 (by first | omega | (simp; omega))
   have K9 := K5.trans (b9.mono (by first | omega | (simp; omega)))
   go_wp2_with (refine Q7e rfl 53 (.tmp 6) _ rfl Q18 0 (Q4e).toArray ?hxn68 ?hyn68 ?htn68 (qz7 _) (qzd _) ?_)
   try (case hxn68 => rfl)
   try (case hyn68 => rfl)
   case htn68 => exact F9
   refine bodyPost_ret (v := .agg (Q4e).toArray) ?_ rfl ⟨by rw [hv.out], ?_⟩
   ·exact qz3 Tryz.results163 _ _ Q18 0 rfl Q4e _ (Q7c _ _ _ _ F9) Q7d rfl (qz1 _)
   ·exact Below.setCells (by omega) _ _ _ K9
  have hlb : qz47 A h = false := by unfold qz47; rw [hvm, if_pos h7'.out]; exact hl
  obtain ⟨H', hH⟩ : ∃ H' : Hd, Hid (H' = g) := by exact ⟨_, rfl⟩
  have hv : Hid (useH A h = qz1k { H' with x_ := m.next } 2) := by show _ = _; rw [hH.out]; rw [hg.out]; have h7 := h7'.out; simp [useH, h7, hlb, hvm, qz1k, hcb]
  go_wp2_with (first | (refine Q7j rfl 53 (.tmp 4) rfl (Q7b + 1) 0 ?hxln69 (hdC H') _ ?hcn69 Q7d rfl (qz1 H') ?_))
  try (case hxln69 => rfl)
  case hcn69 => rw [hH.out]; exact H5
  refine (qz4b H' m.next _).mono ?_
  rintro e w9 ⟨rfl, b9⟩
  have F9 := qz2 F5 b9 (by first | omega | (simp; omega))
  have K9 := K5.trans (b9.mono (by first | omega | (simp; omega)))
  go_wp2_with (refine Q7e rfl 53 (.tmp 6) _ rfl Q18 0 (hdC (qz1k { H' with x_ := m.next } 2)).toArray ?hxn69 ?hyn69 ?htn69 (qz7 _) (qzd _) ?_)
  try (case hxn69 => rfl)
  try (case hyn69 => rfl)
  case htn69 => exact F9
  refine bodyPost_ret (v := .agg (hdC (qz1k { H' with x_ := m.next } 2)).toArray) ?_ rfl ⟨by rw [hv.out], ?_⟩
  ·exact qz3 Tryz.results163 _ _ Q18 0 rfl (hdC (qz1k { H' with x_ := m.next } 2)) _ (Q7c _ _ _ _ F9) Q7d rfl (qz1 _)
  ·exact Below.setCells (by omega) _ _ _ K9
 have nbx : ((n : Int) != 0) = true := by simp [kx]
 have hnx : Hid (¬ (h.x_ = 0)) := by have := hnH.out; show ¬ _; omega
 cases kg : m.gone
 case true =>
  have hcb : qz3z A h = false := by simp [qz3z, hvm, kg]
  obtain ⟨g, hg⟩ : ∃ g : Hd, Hid (g = h) := by exact ⟨_, rfl⟩
  rw [<- hg.out] at H1
  go_upto_region 4 with (first | (go_at_call 105; refine (qzl _ _ _ _).mono ?_; rintro e w' ⟨rfl, hw⟩; obtain rfl := hw.symm))
  go_wp2_with fail
  refine (qz6b B A m.next h.value _ _ _ _ _ _ _ _ _ (by first | omega | (simp; omega)) hA' I1 hm0 hm1).mono ?_
  rintro e w5 ⟨rfl, b5⟩
  have H5 := qz0 H1 b5 (by first | omega | (simp; omega))
  have F5 := qz2 F1 b5 (by first | omega | (simp; omega))
  have M5 := qz0 M1 b5 (by first | omega | (simp; omega))
  have K5 := K1.trans (b5.mono (by first | omega | (simp; omega)))
  have hz5 : Q7b + 1 + 1 + 1 < Q84 := Nat.lt_of_lt_of_le (m := Q7k) (by first | omega | (simp; omega)) b5.size
  clear x0 x1 x2 x3 x4 v0 v1 v2 v3 v4 n0 n1
  obtain ⟨v0, v1, v2, v3, v4⟩ := row5 M5
  have q7 : w5.cell? ⟨Q7b + 1, 7, none⟩ = some (.int .i64 g.out) := by simpa using H5 7 (.int .i64 g.out) rfl
  have q8 : w5.cell? ⟨Q7b + 1, 8, none⟩ = some (.int .i64 g.sum) := by simpa using H5 8 (.int .i64 g.sum) rfl
  cases hl : (decide (m.next < 0) || decide (h.value < (ndOf A m.next).key))
  case true =>
   have hlb : qz47 A h = true := by unfold qz47; rw [hvm, if_pos h7'.out]; exact hl
   obtain ⟨H', hH⟩ : ∃ H' : Hd, Hid (H' = g) := by exact ⟨_, rfl⟩
   have hv : Hid (useH A h = qz9 H' 4 g.out g.sum) := by show _ = _; rw [hH.out]; rw [hg.out]; have h7 := h7'.out; simp [useH, h7, hlb, qz9, hcb]
   go_wp2_with (first | (refine Q7j rfl 53 (.tmp 4) rfl (Q7b + 1) 0 ?hxln70 (hdC H') _ ?hcn70 Q7d rfl (qz1 H') ?_))
   try (case hxln70 => rfl)
   case hcn70 => rw [hH.out]; exact H5
   refine (qz28 H' 4 g.out g.sum _).mono ?_
   rintro e w9 ⟨rfl, b9⟩
   have F9 := qz2 F5 b9 (by first | omega | (simp; omega))
   have K9 := K5.trans (b9.mono (by first | omega | (simp; omega)))
   go_wp2_with (refine Q7e rfl 53 (.tmp 6) _ rfl Q18 0 (Q4e).toArray ?hxn70 ?hyn70 ?htn70 (qz7 _) (qzd _) ?_)
   try (case hxn70 => rfl)
   try (case hyn70 => rfl)
   case htn70 => exact F9
   refine bodyPost_ret (v := .agg (Q4e).toArray) ?_ rfl ⟨by rw [hv.out], ?_⟩
   ·exact qz3 Tryz.results163 _ _ Q18 0 rfl Q4e _ (Q7c _ _ _ _ F9) Q7d rfl (qz1 _)
   ·exact Below.setCells (by omega) _ _ _ K9
  have hlb : qz47 A h = false := by unfold qz47; rw [hvm, if_pos h7'.out]; exact hl
  obtain ⟨H', hH⟩ : ∃ H' : Hd, Hid (H' = g) := by exact ⟨_, rfl⟩
  have hv : Hid (useH A h = qz1k { H' with x_ := m.next } 2) := by show _ = _; rw [hH.out]; rw [hg.out]; have h7 := h7'.out; simp [useH, h7, hlb, hvm, qz1k, hcb]
  go_wp2_with (first | (refine Q7j rfl 53 (.tmp 4) rfl (Q7b + 1) 0 ?hxln71 (hdC H') _ ?hcn71 Q7d rfl (qz1 H') ?_))
  try (case hxln71 => rfl)
  case hcn71 => rw [hH.out]; exact H5
  refine (qz4b H' m.next _).mono ?_
  rintro e w9 ⟨rfl, b9⟩
  have F9 := qz2 F5 b9 (by first | omega | (simp; omega))
  have K9 := K5.trans (b9.mono (by first | omega | (simp; omega)))
  go_wp2_with (refine Q7e rfl 53 (.tmp 6) _ rfl Q18 0 (hdC (qz1k { H' with x_ := m.next } 2)).toArray ?hxn71 ?hyn71 ?htn71 (qz7 _) (qzd _) ?_)
  try (case hxn71 => rfl)
  try (case hyn71 => rfl)
  case htn71 => exact F9
  refine bodyPost_ret (v := .agg (hdC (qz1k { H' with x_ := m.next } 2)).toArray) ?_ rfl ⟨by rw [hv.out], ?_⟩
  ·exact qz3 Tryz.results163 _ _ Q18 0 rfl (hdC (qz1k { H' with x_ := m.next } 2)) _ (Q7c _ _ _ _ F9) Q7d rfl (qz1 _)
  ·exact Below.setCells (by omega) _ _ _ K9
 cases kin : inB A.nodes[n].key h.key h.value
 case false =>
  have hcb : qz3z A h = false := by simp [qz3z, hnd, kin]
  obtain ⟨g, hg⟩ : ∃ g : Hd, Hid (g = h) := by exact ⟨_, rfl⟩
  rw [<- hg.out] at H1
  go_upto_region 4 with (first | (go_at_call 105; refine (qzl _ _ _ _).mono ?_; rintro e w' ⟨rfl, hw⟩; obtain rfl := hw.symm))
  go_wp2_with fail
  refine (qz6b B A m.next h.value _ _ _ _ _ _ _ _ _ (by first | omega | (simp; omega)) hA' I1 hm0 hm1).mono ?_
  rintro e w5 ⟨rfl, b5⟩
  have H5 := qz0 H1 b5 (by first | omega | (simp; omega))
  have F5 := qz2 F1 b5 (by first | omega | (simp; omega))
  have M5 := qz0 M1 b5 (by first | omega | (simp; omega))
  have K5 := K1.trans (b5.mono (by first | omega | (simp; omega)))
  have hz5 : Q7b + 1 + 1 + 1 < Q84 := Nat.lt_of_lt_of_le (m := Q7k) (by first | omega | (simp; omega)) b5.size
  clear x0 x1 x2 x3 x4 v0 v1 v2 v3 v4 n0 n1
  obtain ⟨v0, v1, v2, v3, v4⟩ := row5 M5
  have q7 : w5.cell? ⟨Q7b + 1, 7, none⟩ = some (.int .i64 g.out) := by simpa using H5 7 (.int .i64 g.out) rfl
  have q8 : w5.cell? ⟨Q7b + 1, 8, none⟩ = some (.int .i64 g.sum) := by simpa using H5 8 (.int .i64 g.sum) rfl
  cases hl : (decide (m.next < 0) || decide (h.value < (ndOf A m.next).key))
  case true =>
   have hlb : qz47 A h = true := by unfold qz47; rw [hvm, if_pos h7'.out]; exact hl
   obtain ⟨H', hH⟩ : ∃ H' : Hd, Hid (H' = g) := by exact ⟨_, rfl⟩
   have hv : Hid (useH A h = qz9 H' 4 g.out g.sum) := by show _ = _; rw [hH.out]; rw [hg.out]; have h7 := h7'.out; simp [useH, h7, hlb, qz9, hcb]
   go_wp2_with (first | (refine Q7j rfl 53 (.tmp 4) rfl (Q7b + 1) 0 ?hxln72 (hdC H') _ ?hcn72 Q7d rfl (qz1 H') ?_))
   try (case hxln72 => rfl)
   case hcn72 => rw [hH.out]; exact H5
   refine (qz28 H' 4 g.out g.sum _).mono ?_
   rintro e w9 ⟨rfl, b9⟩
   have F9 := qz2 F5 b9 (by first | omega | (simp; omega))
   have K9 := K5.trans (b9.mono (by first | omega | (simp; omega)))
   go_wp2_with (refine Q7e rfl 53 (.tmp 6) _ rfl Q18 0 (Q4e).toArray ?hxn72 ?hyn72 ?htn72 (qz7 _) (qzd _) ?_)
   try (case hxn72 => rfl)
   try (case hyn72 => rfl)
   case htn72 => exact F9
   refine bodyPost_ret (v := .agg (Q4e).toArray) ?_ rfl ⟨by rw [hv.out], ?_⟩
   ·exact qz3 Tryz.results163 _ _ Q18 0 rfl Q4e _ (Q7c _ _ _ _ F9) Q7d rfl (qz1 _)
   ·exact Below.setCells (by omega) _ _ _ K9
  have hlb : qz47 A h = false := by unfold qz47; rw [hvm, if_pos h7'.out]; exact hl
  obtain ⟨H', hH⟩ : ∃ H' : Hd, Hid (H' = g) := by exact ⟨_, rfl⟩
  have hv : Hid (useH A h = qz1k { H' with x_ := m.next } 2) := by show _ = _; rw [hH.out]; rw [hg.out]; have h7 := h7'.out; simp [useH, h7, hlb, hvm, qz1k, hcb]
  go_wp2_with (first | (refine Q7j rfl 53 (.tmp 4) rfl (Q7b + 1) 0 ?hxln73 (hdC H') _ ?hcn73 Q7d rfl (qz1 H') ?_))
  try (case hxln73 => rfl)
  case hcn73 => rw [hH.out]; exact H5
  refine (qz4b H' m.next _).mono ?_
  rintro e w9 ⟨rfl, b9⟩
  have F9 := qz2 F5 b9 (by first | omega | (simp; omega))
  have K9 := K5.trans (b9.mono (by first | omega | (simp; omega)))
  go_wp2_with (refine Q7e rfl 53 (.tmp 6) _ rfl Q18 0 (hdC (qz1k { H' with x_ := m.next } 2)).toArray ?hxn73 ?hyn73 ?htn73 (qz7 _) (qzd _) ?_)
  try (case hxn73 => rfl)
  try (case hyn73 => rfl)
  case htn73 => exact F9
  refine bodyPost_ret (v := .agg (hdC (qz1k { H' with x_ := m.next } 2)).toArray) ?_ rfl ⟨by rw [hv.out], ?_⟩
  ·exact qz3 Tryz.results163 _ _ Q18 0 rfl (hdC (qz1k { H' with x_ := m.next } 2)) _ (Q7c _ _ _ _ F9) Q7d rfl (qz1 _)
  ·exact Below.setCells (by omega) _ _ _ K9
 have hcb : qz3z A h = true := by
  have := hnx.out
  have := h7'.out
  simp [qz3z, hnd, hvm, kin, kg, *]
 obtain ⟨u1, hu1⟩ : ∃ u1 : Int, Hid (u1 = min (h.out + 1) 1000000) := by exact ⟨_, rfl⟩
 obtain ⟨u2, hu2⟩ : ∃ u2 : Int, Hid (u2 = min (h.sum + A.nodes[n].value) 1000000) := by exact ⟨_, rfl⟩
 have mn1 : (if (1000000 : Int) < h.out + 1 then (1000000 : Int) else h.out + 1) = u1 := by rw [hu1.out]; omega
 have wr1 : IntKind.i64.wrap (h.out + 1) = h.out + 1 := IntWalk.i64_in _ (by omega)
 have wr2 : IntKind.i64.wrap (h.sum + A.nodes[n].value) = h.sum + A.nodes[n].value := IntWalk.i64_in _ (by omega)
 have mn2 : (if (1000000 : Int) < h.sum + A.nodes[n].value then (1000000 : Int) else h.sum + A.nodes[n].value) = u2 := by rw [hu2.out]; omega
 go_upto_region 3 with (first | (go_at_call 105; refine (qzl _ _ _ _).mono ?_; rintro e w' ⟨rfl, hw⟩; obtain rfl := hw.symm))
 clear q3 q4 q10 f10 x0 x1 x2 x3 x4 v0 v1 v2 v3 v4 n0
 refine qz6a 12 (by kernel_rfl) (cntJ w1 (Q7b + 1) (.int .i64 u1)) ⟨w1.drawn + 1, rfl⟩ (fun _ i v _ => cntG (Q7b + 1) Q7r h.out h.sum A.nodes[n].value u1 u2 i v) (by kernel_rfl) (by kernel_rfl) (by kernel_rfl) (by kernel_rfl) (by rfl) ?step ?final
 case step =>
  intro i o hik ho L a V hLi hLk hcl hJ hnn hd K hK
  have y8 : V.cell? ⟨Q7b + 1, 8, none⟩ = some (.int .i64 h.sum) := by
   obtain ⟨d, hd⟩ := hJ
   rw [hd]
   show World.cell? (if L 11 = true then _ else _) _ = _
   split
   ·exact (World.cell?_setCell_other _ _ _ _ (by simp)).trans q8
   ·exact q8
  have yn : V.cell? ⟨Q7r, 1, none⟩ = some (.int .i64 A.nodes[n].value) := by
   obtain ⟨d, hd⟩ := hJ
   rw [hd]
   show World.cell? (if L 11 = true then _ else _) _ = _
   split
   ·exact (World.cell?_setCell_other _ _ _ _ (by simp <;> omega)).trans n1
   ·exact n1
  have y7 : L 11 = false -> V.cell? ⟨Q7b + 1, 7, none⟩ = some (.int .i64 h.out) := by
   intro hl
   obtain ⟨d, hd⟩ := hJ
   rw [hd]
   show World.cell? (if L 11 = true then _ else _) _ = _
   rw [if_neg (by rw [hl]; decide)]
   exact q7
  have y7f : L 11 = false -> V.frozen? ⟨Q7b + 1, 7, none⟩ = false := by
   intro hl
   obtain ⟨d, hd⟩ := hJ
   rw [hd]
   show World.frozen? (if L 11 = true then _ else _) _ = _
   rw [if_neg (by rw [hl]; decide)]
   exact f7
  match i, ho with
  | 0, ho =>
   obtain rfl := Q7i ho
   have e0 : a.eval (.tmp 4) = .pointer (some ⟨Q7b + 1, 0, none⟩) := hnn 4 rfl
   refine qz4 (v := .pointer (some ⟨Q7b + 1, 7, none⟩)) (w' := V) ?_ (hK _ _ rfl hJ (fun j v' _ _ h => h))
   generalize a.eval = ev at *
   go_simp
  | 1, ho =>
   have hl : L 11 = false := by
    cases hl : L 11
    ·rfl
    ·have := hcl 11 _ rfl hl ⟨1, .phase⟩ (by simp) rfl
     rw [hLi] at this
     cases this
   have y7 := y7 hl
   obtain rfl := Q7i ho
   have e0 : a.eval (.tmp 31) = .pointer (some ⟨Q7b + 1, 7, none⟩) := (hd ⟨0, .data⟩ (by simp) rfl 31 rfl).2
   refine qz4 (v := .int .i64 h.out) (w' := V) ?_ (hK _ _ rfl hJ (fun j v' _ _ h => h))
   generalize a.eval = ev at *
   go_simp
  | 2, ho =>
   obtain rfl := Q7i ho
   have e0 : a.eval (.tmp 32) = .int .i64 h.out := (hd ⟨1, .data⟩ (by simp) rfl 32 rfl).2
   have ec : a.eval (.const (.int .i64 1)) = .int .i64 1 := rfl
   refine qz4 (v := .int .i64 (h.out + 1)) (w' := V) ?_ (hK _ _ rfl hJ (fun j v' _ _ h => h))
   generalize a.eval = ev at *
   go_simp
  | 3, ho =>
   obtain rfl := Q7i ho
   have e0 : a.eval (.tmp 33) = .int .i64 (h.out + 1) := (hd ⟨2, .data⟩ (by simp) rfl 33 rfl).2
   have ec : a.eval (.const (.int .i64 1000000)) = .int .i64 1000000 := rfl
   refine qz4 (v := .int .i64 u1) (w' := V) ?_ (hK _ _ rfl hJ (fun j v' _ _ h => h))
   generalize a.eval = ev at *
   go_simp
  | 4, ho =>
   obtain rfl := Q7i ho
   have e0 : a.eval (.tmp 4) = .pointer (some ⟨Q7b + 1, 0, none⟩) := hnn 4 rfl
   refine qz4 (v := .pointer (some ⟨Q7b + 1, 8, none⟩)) (w' := V) ?_ (hK _ _ rfl hJ (fun j v' _ _ h => h))
   generalize a.eval = ev at *
   go_simp
  | 5, ho =>
   obtain rfl := Q7i ho
   have e0 : a.eval (.tmp 35) = .pointer (some ⟨Q7b + 1, 8, none⟩) := (hd ⟨4, .data⟩ (by simp) rfl 35 rfl).2
   refine qz4 (v := .int .i64 h.sum) (w' := V) ?_ (hK _ _ rfl hJ (fun j v' _ _ h => h))
   generalize a.eval = ev at *
   go_simp
  | 6, ho =>
   obtain rfl := Q7i ho
   have e0 : a.eval (.tmp 7) = .pointer (some ⟨Q7r, 0, none⟩) := hnn 7 rfl
   refine qz4 (v := .pointer (some ⟨Q7r, 1, none⟩)) (w' := V) ?_ (hK _ _ rfl hJ (fun j v' _ _ h => h))
   generalize a.eval = ev at *
   go_simp
  | 7, ho =>
   obtain rfl := Q7i ho
   have e0 : a.eval (.tmp 37) = .pointer (some ⟨Q7r, 1, none⟩) := (hd ⟨6, .data⟩ (by simp) rfl 37 rfl).2
   refine qz4 (v := .int .i64 A.nodes[n].value) (w' := V) ?_ (hK _ _ rfl hJ (fun j v' _ _ h => h))
   generalize a.eval = ev at *
   go_simp
  | 8, ho =>
   obtain rfl := Q7i ho
   have e0 : a.eval (.tmp 36) = .int .i64 h.sum := (hd ⟨5, .data⟩ (by simp) rfl 36 rfl).2
   have e1 : a.eval (.tmp 38) = .int .i64 A.nodes[n].value := (hd ⟨7, .data⟩ (by simp) rfl 38 rfl).2
   refine qz4 (v := .int .i64 (h.sum + A.nodes[n].value)) (w' := V) ?_ (hK _ _ rfl hJ (fun j v' _ _ h => h))
   generalize a.eval = ev at *
   go_simp
  | 9, ho =>
   obtain rfl := Q7i ho
   have e0 : a.eval (.tmp 39) = .int .i64 (h.sum + A.nodes[n].value) := (hd ⟨8, .data⟩ (by simp) rfl 39 rfl).2
   have ec : a.eval (.const (.int .i64 1000000)) = .int .i64 1000000 := rfl
   refine qz4 (v := .int .i64 u2) (w' := V) ?_ (hK _ _ rfl hJ (fun j v' _ _ h => h))
   generalize a.eval = ev at *
   go_simp
  | 10, ho =>
   obtain rfl := Q7i ho
   have e0 : a.eval (.tmp 4) = .pointer (some ⟨Q7b + 1, 0, none⟩) := hnn 4 rfl
   refine qz4 (v := .pointer (some ⟨Q7b + 1, 7, none⟩)) (w' := V) ?_ (hK _ _ rfl hJ (fun j v' _ _ h => h))
   generalize a.eval = ev at *
   go_simp
  | 11, ho =>
   have y7 := y7 hLi
   have y7f := y7f hLi
   obtain rfl := Q7i ho
   have e0 : a.eval (.tmp 41) = .pointer (some ⟨Q7b + 1, 7, none⟩) := (hd ⟨10, .data⟩ (by simp) rfl 41 rfl).2
   have e1 : a.eval (.tmp 34) = .int .i64 u1 := (hd ⟨3, .data⟩ (by simp) rfl 34 rfl).2
   refine qzej (w' := V.setCell ⟨Q7b + 1, 7, none⟩ (.int .i64 u1)) ?_ (hK _ _ trivial ?_ (fun j v' _ _ h => h))
   ·generalize a.eval = ev at *
    go_simp
   ·obtain ⟨d, hd⟩ := hJ
    refine ⟨d, ?_⟩
    rw [hd, if_neg (by rw [hLi]; decide)]
    rfl
  | n + 12, ho => omega
 intro L vs V hall hJ hG
 obtain ⟨d, hd⟩ := hJ
 rw [if_pos (hall 11 (by decide))] at hd
 obtain ⟨g, hg⟩ : ∃ g : Hd, Hid (g = { h with out := u1, sum := u2 }) := by exact ⟨_, rfl⟩
 have g9 : vs 9 = .int .i64 u2 := hG 9 (by decide)
 have X3 : V.rangeAt Q7b 0 Q3n := by rw [hd]; exact qz1l X1 (a := ⟨Q7b + 1, 7, none⟩) (by show Q7b + 1 ≠ Q7b; omega) _
 have H3 : V.rangeAt (Q7b + 1) 0 (hdC { h with out := u1 }) := by rw [hd]; exact qzb H1 7 (by simp [hdC]) _
 have G3 : V.there (Q7b + 1) 0 22 := by rw [hd]; exact qz5 G1 _ _
 have F3 : V.there Q18 0 22 := by rw [hd]; exact qz5 F1 _ _
 have M3 : V.rangeAt (Q7b + 1 + 1) 0 [.int .i64 m.next, .bool false, .int .i64 m.stamp, .int .i64 m.prev, .int .i64 m.kind] := by rw [hd, <- kg]; exact qz1l M1 (a := ⟨Q7b + 1, 7, none⟩) (by show Q7b + 1 ≠ Q7b + 1 + 1; omega) _
 have KS := Below.setCell K1 (p := ⟨Q7b + 1, 7, none⟩) (by show Q7b <= Q7b + 1; omega) (.int .i64 u1)
 have K3 : Below Q7b w V := by rw [hd]; exact ⟨KS.os, KS.tape, KS.output, KS.size, KS.block⟩
 have hz3 : Q7b + 1 + 1 + 1 < V.heap.size := by rw [hd]; show _ < (w1.setCell _ _).heap.size; rw [World.size_setCell]; exact hz1
 have KT := Below.setCell (Q7g B w1) (p := ⟨Q7b + 1, 7, none⟩) (by show B <= Q7b + 1; omega) (.int .i64 u1)
 have I3 : qzv B V Q0u Q0s Q40 Q14 A := I1.below (by rw [hd]; exact ⟨KT.os, KT.tape, KT.output, KT.size, KT.block⟩)
 have y8 : V.cell? ⟨Q7b + 1, 8, none⟩ = some (.int .i64 h.sum) := by simpa using H3 8 (.int .i64 h.sum) rfl
 have f8' : V.frozen? ⟨Q7b + 1, 8, none⟩ = false := by simpa using (G3 8 (by decide)).2
 generalize hl : laid _ vs _ _ _ = A'
 have hA' : A' = { tmps := #[.agg #[.int .i64 Q7m, .slice a0 Q7w c0, .slice a1 Q7v c1, .slice (some ⟨bn, on, none⟩) Q7f c2, .slice a3 Q7h c3], .agg (hdC h).toArray, .agg #[.int .i64 m.next, .bool false, .int .i64 m.stamp, .int .i64 m.prev, .int .i64 m.kind], .pointer (some ⟨Q7b, 0, none⟩), .pointer (some ⟨Q7b + 1, 0, none⟩), .pointer (some ⟨Q7b + 1 + 1, 0, none⟩), .pointer (some ⟨Q7b + 1 + 1 + 1, 0, none⟩), .pointer (some ⟨Q7r, 0, none⟩), .pointer (some ⟨Q7b, 3, none⟩), .slice (some ⟨bn, on, none⟩) Q7f c2, .pointer (some ⟨Q7b + 1, 10, none⟩), .int .i64 (n : Int), .pointer (some ⟨bn, on + n * 3, none⟩), .agg #[.int .i64 A.nodes[n].key, .int .i64 A.nodes[n].value, .int .i64 A.nodes[n].head], .pointer (some ⟨Q7b + 1, 10, none⟩), .int .i64 (n : Int), .bool true, .bool true, .pointer (some ⟨Q7b + 1 + 1, 1, none⟩), .bool false, .bool true, .bool true, .bool true, .pointer (some ⟨Q7r, 0, none⟩), .int .i64 A.nodes[n].key, .pointer (some ⟨Q7b + 1, 3, none⟩), .int .i64 h.key, .pointer (some ⟨Q7b + 1, 4, none⟩), .int .i64 h.value, .bool true, .bool true, vs 0, vs 1, vs 2, vs 3, vs 4, vs 5, vs 6, vs 7, vs 8, vs 9, vs 10, undef, undef, undef, undef, undef, undef, undef, undef, undef, undef, undef, undef, undef, undef, undef, undef, undef], defers := [] } := by
  rw [<- hl]
  kernel_rfl
 subst hA'
 rw [g9]
 clear hl hG g9 hd KS KT X1 H1 G1 F1 M1 K1 hz1 I1 n1 q7 q8 f7 f8 mn1 mn2 wr1 wr2 hall
 simp only [List.drop_succ_cons, List.drop_zero]
 have tok : True := trivial
 go_wp2_with (clear tok; refine qz1q (V.setCell ⟨Q7b + 1, 8, none⟩ (.int .i64 u2)) ?_)
 have X4 := qz1l X3 (a := ⟨Q7b + 1, 8, none⟩) (by show Q7b + 1 ≠ Q7b; omega) (.int .i64 u2)
 have M4 := qz1l M3 (a := ⟨Q7b + 1, 8, none⟩) (by show Q7b + 1 ≠ Q7b + 1 + 1; omega) (.int .i64 u2)
 have H4 : (V.setCell ⟨Q7b + 1, 8, none⟩ (.int .i64 u2)).rangeAt (Q7b + 1) 0 (hdC g) := by rw [hg.out]; exact qzb H3 8 (by simp [hdC]) _
 have F4 := qz5 F3 ⟨Q7b + 1, 8, none⟩ (.int .i64 u2)
 have K4 := Below.setCell K3 (p := ⟨Q7b + 1, 8, none⟩) (by show Q7b <= Q7b + 1; omega) (.int .i64 u2)
 have I4 := I3.below (Below.setCell (Q7g B V) (p := ⟨Q7b + 1, 8, none⟩) (by show B <= Q7b + 1; omega) (.int .i64 u2))
 have hz4 : Q7b + 1 + 1 + 1 < (V.setCell ⟨Q7b + 1, 8, none⟩ (.int .i64 u2)).heap.size := by simp only [World.size_setCell]; exact hz3
 generalize hw4 : V.setCell ⟨Q7b + 1, 8, none⟩ (.int .i64 u2) = w4 at *
 show wpList _ _ _ _ _ w4
 clear hw4 X3 M3 H3 F3 K3 I3 hz3 G3 y8 f8'
 obtain ⟨x0, x1, x2, x3, x4⟩ := row5 X4
 obtain ⟨v0, v1, v2, v3, v4⟩ := row5 M4
 have gv : g.value = h.value := by rw [hg.out]
 have q4 : w4.cell? ⟨Q7b + 1, 4, none⟩ = some (.int .i64 g.value) := by simpa using H4 4 (.int .i64 g.value) rfl
 rw [gv] at q4
 clear gv
 go_wp2_with fail
 refine (qz6b B A m.next h.value _ _ _ _ _ _ _ _ _ (by first | omega | (simp; omega)) hA' I4 hm0 hm1).mono ?_
 rintro e w5 ⟨rfl, b5⟩
 have H5 := qz0 H4 b5 (by first | omega | (simp; omega))
 have F5 := qz2 F4 b5 (by first | omega | (simp; omega))
 have M5 := qz0 M4 b5 (by first | omega | (simp; omega))
 have K5 := K4.trans (b5.mono (by first | omega | (simp; omega)))
 have hz5 : Q7b + 1 + 1 + 1 < Q84 := Nat.lt_of_lt_of_le (m := w4.heap.size) (by first | omega | (simp; omega)) b5.size
 clear x0 x1 x2 x3 x4 v0 v1 v2 v3 v4
 obtain ⟨v0, v1, v2, v3, v4⟩ := row5 M5
 have q7 : w5.cell? ⟨Q7b + 1, 7, none⟩ = some (.int .i64 g.out) := by simpa using H5 7 (.int .i64 g.out) rfl
 have q8 : w5.cell? ⟨Q7b + 1, 8, none⟩ = some (.int .i64 g.sum) := by simpa using H5 8 (.int .i64 g.sum) rfl
 cases hl : (decide (m.next < 0) || decide (h.value < (ndOf A m.next).key))
 case true =>
  have hlb : qz47 A h = true := by unfold qz47; rw [hvm, if_pos h7'.out]; exact hl
  obtain ⟨H', hH⟩ : ∃ H' : Hd, Hid (H' = g) := by exact ⟨_, rfl⟩
  have hv : Hid (useH A h = qz9 H' 4 g.out g.sum) := by show _ = _; rw [hH.out]; rw [hg.out]; have h7 := h7'.out; simp [useH, h7, hlb, qz9, hcb, qz63, hnd, hu1.out, hu2.out]
  go_wp2_with (first | (refine Q7j rfl 53 (.tmp 4) rfl (Q7b + 1) 0 ?hxln74 (hdC H') _ ?hcn74 Q7d rfl (qz1 H') ?_))
  try (case hxln74 => rfl)
  case hcn74 => rw [hH.out]; exact H5
  refine (qz28 H' 4 g.out g.sum _).mono ?_
  rintro e w9 ⟨rfl, b9⟩
  have F9 := qz2 F5 b9 (by first | omega | (simp; omega))
  have K9 := K5.trans (b9.mono (by first | omega | (simp; omega)))
  go_wp2_with (refine Q7e rfl 53 (.tmp 6) _ rfl Q18 0 (Q4e).toArray ?hxn74 ?hyn74 ?htn74 (qz7 _) (qzd _) ?_)
  try (case hxn74 => rfl)
  try (case hyn74 => rfl)
  case htn74 => exact F9
  refine bodyPost_ret (v := .agg (Q4e).toArray) ?_ rfl ⟨by rw [hv.out], ?_⟩
  ·exact qz3 Tryz.results163 _ _ Q18 0 rfl Q4e _ (Q7c _ _ _ _ F9) Q7d rfl (qz1 _)
  ·exact Below.setCells (by omega) _ _ _ K9
 have hlb : qz47 A h = false := by unfold qz47; rw [hvm, if_pos h7'.out]; exact hl
 obtain ⟨H', hH⟩ : ∃ H' : Hd, Hid (H' = g) := by exact ⟨_, rfl⟩
 have hv : Hid (useH A h = qz1k { H' with x_ := m.next } 2) := by show _ = _; rw [hH.out]; rw [hg.out]; have h7 := h7'.out; simp [useH, h7, hlb, hvm, qz1k, hcb, qz63, hnd, hu1.out, hu2.out]
 go_wp2_with (first | (refine Q7j rfl 53 (.tmp 4) rfl (Q7b + 1) 0 ?hxln75 (hdC H') _ ?hcn75 Q7d rfl (qz1 H') ?_))
 try (case hxln75 => rfl)
 case hcn75 => rw [hH.out]; exact H5
 refine (qz4b H' m.next _).mono ?_
 rintro e w9 ⟨rfl, b9⟩
 have F9 := qz2 F5 b9 (by first | omega | (simp; omega))
 have K9 := K5.trans (b9.mono (by first | omega | (simp; omega)))
 go_wp2_with (refine Q7e rfl 53 (.tmp 6) _ rfl Q18 0 (hdC (qz1k { H' with x_ := m.next } 2)).toArray ?hxn75 ?hyn75 ?htn75 (qz7 _) (qzd _) ?_)
 try (case hxn75 => rfl)
 try (case hyn75 => rfl)
 case htn75 => exact F9
 refine bodyPost_ret (v := .agg (hdC (qz1k { H' with x_ := m.next } 2)).toArray) ?_ rfl ⟨by rw [hv.out], ?_⟩
 ·exact qz3 Tryz.results163 _ _ Q18 0 rfl (hdC (qz1k { H' with x_ := m.next } 2)) _ (Q7c _ _ _ _ F9) Q7d rfl (qz1 _)
 ·exact Below.setCells (by omega) _ _ _ K9
end
end Go.Proofs.YthjkdnlmopafkaaGreat
