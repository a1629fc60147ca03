/-
  What the law's proof goes by, part 50.
-/
import Derived.Test.YthjkdnlmopafkaaGreatFnSealed00
import Derived.Test.YthjkdnlmopafkaaGreatFnSealed09
import Derived.Test.YthjkdnlmopafkaaGreatFnSealed45
import Derived.Test.YthjkdnlmopafkaaGreatFnSealed48
namespace Go.Proofs.YthjkdnlmopafkaaGreat
open Go.ChangeShapes Go.WideShapes Go.ChangeAt Go.RowKit
set_option maxRecDepth 100000
set_option maxHeartbeats 16000000
set_option linter.unusedVariables false
set_option linter.unusedSimpArgs false
set_option linter.unnecessarySimpa false
set_option linter.unusedSectionVars false
section
attribute [local go_sem ↓] Go.wp_at_zero Go.wp_at_succ
def qz7v (A : Ar) (h : Hd) (m : Vr) : Hd := if m.gone then { h with x_ := 0, at_ := 2 } else qz3q A { h with pred := h.x_, predVer := h.ver } m.next
def goH (A : Ar) (h : Hd) (m : Vr) : Hd := if m.gone then { h with currVer := h.ver, at_ := 6 } else if 0 <= h.curr /\ h.key <= (ndOf A h.curr).key then qz1b A { h with currVer := h.ver } else qz3q A { h with currVer := h.ver, pred := max h.curr 0, predVer := h.ver } m.next
def qz5g (A : Ar) (h : Hd) (m : Vr) : Hd := if m.stamp <= h.held then useH A h else { h with at_ := 19 }
def qze8 (h : Hd) (m : Vr) : Hd := { h with at_ := if m.stamp <= h.least then 23 else 22 }
theorem qz6d (B : Nat) (A : Ar) (h : Hd) (m : Vr) (b : Nat) (n : Int) (a0 a1 a2 a3 : Option Addr) (c0 c1 c2 c3 : Nat) (w : World) (hB : B <= Q7b) (hA : A.size <= 1048576) (I : qzv B w Q0u Q0s Q0v Q14 A) (hb : b < Q7b) (hc : w.cell? ⟨b, 0, none⟩ = some (.int .i64 n)) :
  Calls Tryz.prog 150 #[.agg Q02, .agg (hdC h).toArray, .agg #[.int .i64 m.next, .bool m.gone, .int .i64 m.stamp, .int .i64 m.prev, .int .i64 m.kind], .pointer (some ⟨b, 0, none⟩)] w fun e w' => e = .returned (.agg (hdC (qz1k h n)).toArray) /\ Below Q7b w w' := by
 have hA' := hA
 unfold Ar.size at hA
 have X0 := Q7n (Q7n (Q7n (qz6 w Q0j 33) Q0d) Q0a) (.cells Q00 53)
 have H0 := Q7n (Q7n (qz6 Q26 (hdC h) 53) Q0a) (.cells Q00 53)
 have G0 := Q80 (Q80 (qza Q26 (hdC h).toArray 53 22 (by simp [hdC])) Q0a) (.cells Q00 53)
 have M0 := Q7n Q1o (.cells Q00 53)
 have F0 := qza (((Q26).alloc Q0d).alloc Q0a) Q00 53 22 (by decide)
 have K0 := (((((Q7g Q7b w).alloc (Q7l _) (.cells Q02 33)).alloc (by simp) Q0d).alloc (by simp <;> omega) Q0a).alloc (by simp <;> omega) (.cells Q00 53))
 have hz0 : Q7b + 1 + 1 + 1 < (Q1k).heap.size := by simp
 simp only [World.size_alloc] at H0 G0 M0 F0
 have I0 := I.below (K0.mono hB)
 go_enter Tryz.func150, Tryz.ntmps150
 have tok : True := trivial
 go_wp2_with (clear tok; refine qz1q Q1k ?_)
 generalize hw0 : (((Q26).alloc Q0d).alloc Q0a).alloc (.cells Q00 53) = w0 at *
 clear hw0 I
 show wpList _ _ _ _ _ w0
 have qc : w0.cell? ⟨b, 0, none⟩ = some (.int .i64 n) := (K0.cell (p := ⟨b, 0, none⟩) (by show b < Q7b; exact hb)).trans hc
 obtain ⟨H', hH⟩ : ∃ H' : Hd, Hid (H' = h) := by exact ⟨_, rfl⟩
 have hv : Hid (qz1k h n = qz1k H' n) := by show _ = _; rw [hH.out]; skip
 go_wp2_with (first | (refine Q7j rfl 53 (.tmp 5) rfl (Q7b + 1) 0 ?hxln79 (hdC H') _ ?hcn79 Q7d rfl (qz1 H') ?_))
 try (case hxln79 => rfl)
 case hcn79 => rw [hH.out]; exact H0
 refine (qz1g H' n _).mono ?_
 rintro e w9 ⟨rfl, b9⟩
 have F9 := qz2 F0 b9 (by first | omega | (simp; omega))
 have K9 := K0.trans (b9.mono (by first | omega | (simp; omega)))
 go_wp2_with (refine Q7e rfl 53 (.tmp 7) _ rfl Q18 0 (hdC (qz1k H' n)).toArray ?hxn79 ?hyn79 ?htn79 (qz7 _) (qzd _) ?_)
 try (case hxn79 => rfl)
 try (case hyn79 => rfl)
 case htn79 => exact F9
 refine bodyPost_ret (v := .agg (hdC (qz1k H' n)).toArray) ?_ rfl ⟨by rw [hv.out], ?_⟩
 ·exact qz3 Tryz.results150 _ _ Q18 0 rfl (hdC (qz1k H' n)) _ (Q7c _ _ _ _ F9) Q7d rfl (qz1 _)
 ·exact Below.setCells (by omega) _ _ _ K9
theorem qzcd (B : Nat) (A : Ar) (h : Hd) (m : Vr) (a0 a1 a2 a3 : Option Addr) (c0 c1 c2 c3 : Nat) (w : World) (hB : B <= Q7b) (hA : A.size <= 1048576) (I : qzv B w Q0u Q0s Q0v Q14 A) (hn0 : -1 <= h.new_) :
  Calls Tryz.prog 133 Q1x w fun e w' => e = .returned (.agg (hdC (qz7v A h m)).toArray) /\ Below Q7b w w' := by
 have hA' := hA
 unfold Ar.size at hA
 have X0 := Q7n (Q7n (Q7n (qz6 w Q0j 33) Q0d) Q0a) (.cells Q00 53)
 have H0 := Q7n (Q7n (qz6 Q26 (hdC h) 53) Q0a) (.cells Q00 53)
 have G0 := Q80 (Q80 (qza Q26 (hdC h).toArray 53 22 (by simp [hdC])) Q0a) (.cells Q00 53)
 have M0 := Q7n Q1o (.cells Q00 53)
 have F0 := qza (((Q26).alloc Q0d).alloc Q0a) Q00 53 22 (by decide)
 have K0 := (((((Q7g Q7b w).alloc (Q7l _) (.cells Q02 33)).alloc (by simp) Q0d).alloc (by simp <;> omega) Q0a).alloc (by simp <;> omega) (.cells Q00 53))
 have hz0 : Q7b + 1 + 1 + 1 < (Q1k).heap.size := by simp
 simp only [World.size_alloc] at H0 G0 M0 F0
 have I0 := I.below (K0.mono hB)
 go_enter Tryz.func133, Tryz.ntmps133
 have tok : True := trivial
 go_wp2_with (clear tok; refine qz1q Q1k ?_)
 generalize hw0 : (((Q26).alloc Q0d).alloc Q0a).alloc (.cells Q00 53) = w0 at *
 clear hw0 I
 show wpList _ _ _ _ _ w0
 obtain ⟨x0, x1, x2, x3, x4⟩ := row5 X0
 obtain ⟨v0, v1, v2, v3, v4⟩ := row5 M0
 have e2 : ¬ Q68 := by omega
 have e3 : ¬ Q62 := by omega
 have q10 : w0.cell? ⟨Q7b + 1, 10, none⟩ = some (.int .i64 h.x_) := by simpa using H0 10 (.int .i64 h.x_) rfl
 have q11 : w0.cell? ⟨Q7b + 1, 11, none⟩ = some (.int .i64 h.ver) := by simpa using H0 11 (.int .i64 h.ver) rfl
 have q14 : w0.cell? ⟨Q7b + 1, 14, none⟩ = some (.int .i64 h.pred) := by simpa using H0 14 (.int .i64 h.pred) rfl
 have q15 : w0.cell? ⟨Q7b + 1, 15, none⟩ = some (.int .i64 h.predVer) := by simpa using H0 15 (.int .i64 h.predVer) rfl
 have f10 : w0.frozen? ⟨Q7b + 1, 10, none⟩ = false := by simpa using (G0 10 (by decide)).2
 have f14 : w0.frozen? ⟨Q7b + 1, 14, none⟩ = false := by simpa using (G0 14 (by decide)).2
 have f15 : w0.frozen? ⟨Q7b + 1, 15, none⟩ = false := by simpa using (G0 15 (by decide)).2
 cases kg : m.gone
 case true =>
  obtain ⟨H', hH⟩ : ∃ H' : Hd, Hid (H' = { h with x_ := 0 }) := by exact ⟨_, rfl⟩
  have hv : Hid (qz7v A h m = qz1k H' 2) := by show _ = _; rw [hH.out]; simp [qz7v, kg, qz1k]
  go_wp2_with (first | (refine Q7j rfl 53 (.tmp 4) rfl (Q7b + 1) 0 ?hxln80 (hdC H') _ ?hcn80 Q7d rfl (qz1 H') ?_))
  try (case hxln80 => rfl)
  case hcn80 => rw [hH.out]; exact (qzb H0 10 (by simp [hdC]) _)
  refine (qz1g H' 2 _).mono ?_
  rintro e w9 ⟨rfl, b9⟩
  have F9 := qz2 (qz5 F0 _ _) b9 (by first | omega | (simp; omega))
  have K9 := (Below.setCell K0 (p := ⟨Q7b + 1, 10, none⟩) (by show Q7b <= Q7b + 1; omega) _).trans (b9.mono (by first | omega | (simp; omega)))
  go_wp2_with (refine Q7e rfl 53 (.tmp 6) _ rfl Q18 0 (hdC (qz1k H' 2)).toArray ?hxn80 ?hyn80 ?htn80 (qz7 _) (qzd _) ?_)
  try (case hxn80 => rfl)
  try (case hyn80 => rfl)
  case htn80 => exact F9
  refine bodyPost_ret (v := .agg (hdC (qz1k H' 2)).toArray) ?_ rfl ⟨by rw [hv.out], ?_⟩
  ·exact qz3 Tryz.results133 _ _ Q18 0 rfl (hdC (qz1k H' 2)) _ (Q7c _ _ _ _ F9) Q7d rfl (qz1 _)
  ·exact Below.setCells (by omega) _ _ _ K9
 obtain ⟨H', hH⟩ : ∃ H' : Hd, Hid (H' = { h with pred := h.x_, predVer := h.ver }) := by exact ⟨_, rfl⟩
 have hv : Hid (qz7v A h m = qz3q A H' m.next) := by show _ = _; rw [hH.out]; simp [qz7v, kg]
 go_wp2_with (first | (refine Q7j rfl 53 (.tmp 4) rfl (Q7b + 1) 0 ?hxln81 (hdC H') _ ?hcn81 Q7d rfl (qz1 H') ?_))
 try (case hxln81 => rfl)
 case hcn81 => rw [hH.out]; exact (qzb (qzb H0 14 (by simp [hdC]) _) 15 (by simp [hdC]) _)
 refine (qz69 B A H' m.next _ _ _ _ _ _ _ _ _ (by first | omega | (simp; omega)) hA' (I0.below (Below.setCell (Below.setCell (Q7g B w0) (p := ⟨Q7b + 1, 14, none⟩) (by show B <= Q7b + 1; omega) _) (p := ⟨Q7b + 1, 15, none⟩) (by show B <= Q7b + 1; omega) _)) (by rw [hH.out]; exact hn0)).mono ?_
 rintro e w9 ⟨rfl, b9⟩
 have F9 := qz2 (qz5 (qz5 F0 _ _) _ _) b9 (by first | omega | (simp; omega))
 have K9 := (Below.setCell (Below.setCell K0 (p := ⟨Q7b + 1, 14, none⟩) (by show Q7b <= Q7b + 1; omega) _) (p := ⟨Q7b + 1, 15, none⟩) (by show Q7b <= Q7b + 1; omega) _).trans (b9.mono (by first | omega | (simp; omega)))
 go_wp2_with (refine Q7e rfl 53 (.tmp 6) _ rfl Q18 0 (Q4w).toArray ?hxn81 ?hyn81 ?htn81 (qz7 _) (qzd _) ?_)
 try (case hxn81 => rfl)
 try (case hyn81 => rfl)
 case htn81 => exact F9
 refine bodyPost_ret (v := .agg (Q4w).toArray) ?_ rfl ⟨by rw [hv.out], ?_⟩
 ·exact qz3 Tryz.results133 _ _ Q18 0 rfl Q4w _ (Q7c _ _ _ _ F9) Q7d rfl (qz1 _)
 ·exact Below.setCells (by omega) _ _ _ K9
theorem qzb7 (B : Nat) (A : Ar) (h : Hd) (m : Vr) (a0 a1 a2 a3 : Option Addr) (c0 c1 c2 c3 : Nat) (w : World) (hB : B <= Q7b) (hA : A.size <= 1048576) (I : qzv B w Q0u Q0s Q0v Q14 A) (hn0 : -1 <= h.new_) :
  Calls Tryz.prog 135 Q1x w fun e w' => e = .returned (.agg (hdC (qz3q A { h with predVer := h.ver } m.next)).toArray) /\ Below Q7b w w' := by
 have hA' := hA
 unfold Ar.size at hA
 have X0 := Q7n (Q7n (Q7n (qz6 w Q0j 33) Q0d) Q0a) (.cells Q00 53)
 have H0 := Q7n (Q7n (qz6 Q26 (hdC h) 53) Q0a) (.cells Q00 53)
 have G0 := Q80 (Q80 (qza Q26 (hdC h).toArray 53 22 (by simp [hdC])) Q0a) (.cells Q00 53)
 have M0 := Q7n Q1o (.cells Q00 53)
 have F0 := qza (((Q26).alloc Q0d).alloc Q0a) Q00 53 22 (by decide)
 have K0 := (((((Q7g Q7b w).alloc (Q7l _) (.cells Q02 33)).alloc (by simp) Q0d).alloc (by simp <;> omega) Q0a).alloc (by simp <;> omega) (.cells Q00 53))
 have hz0 : Q7b + 1 + 1 + 1 < (Q1k).heap.size := by simp
 simp only [World.size_alloc] at H0 G0 M0 F0
 have I0 := I.below (K0.mono hB)
 go_enter Tryz.func135, Tryz.ntmps135
 have tok : True := trivial
 go_wp2_with (clear tok; refine qz1q Q1k ?_)
 generalize hw0 : (((Q26).alloc Q0d).alloc Q0a).alloc (.cells Q00 53) = w0 at *
 clear hw0 I
 show wpList _ _ _ _ _ w0
 obtain ⟨x0, x1, x2, x3, x4⟩ := row5 X0
 obtain ⟨v0, v1, v2, v3, v4⟩ := row5 M0
 have e2 : ¬ Q68 := by omega
 have e3 : ¬ Q62 := by omega
 have q11 : w0.cell? ⟨Q7b + 1, 11, none⟩ = some (.int .i64 h.ver) := by simpa using H0 11 (.int .i64 h.ver) rfl
 have q15 : w0.cell? ⟨Q7b + 1, 15, none⟩ = some (.int .i64 h.predVer) := by simpa using H0 15 (.int .i64 h.predVer) rfl
 have f15 : w0.frozen? ⟨Q7b + 1, 15, none⟩ = false := by simpa using (G0 15 (by decide)).2
 obtain ⟨H', hH⟩ : ∃ H' : Hd, Hid (H' = { h with predVer := h.ver }) := by exact ⟨_, rfl⟩
 have hv : Hid (qz3q A { h with predVer := h.ver } m.next = qz3q A H' m.next) := by show _ = _; rw [hH.out]; skip
 go_wp2_with (first | (refine Q7j rfl 53 (.tmp 4) rfl (Q7b + 1) 0 ?hxln82 (hdC H') _ ?hcn82 Q7d rfl (qz1 H') ?_))
 try (case hxln82 => rfl)
 case hcn82 => rw [hH.out]; exact (qzb H0 15 (by simp [hdC]) _)
 refine (qz69 B A H' m.next _ _ _ _ _ _ _ _ _ (by first | omega | (simp; omega)) hA' (I0.below (Below.setCell (Q7g B w0) (p := ⟨Q7b + 1, 15, none⟩) (by show B <= Q7b + 1; omega) _)) (by rw [hH.out]; exact hn0)).mono ?_
 rintro e w9 ⟨rfl, b9⟩
 have F9 := qz2 (qz5 F0 _ _) b9 (by first | omega | (simp; omega))
 have K9 := (Below.setCell K0 (p := ⟨Q7b + 1, 15, none⟩) (by show Q7b <= Q7b + 1; omega) _).trans (b9.mono (by first | omega | (simp; omega)))
 go_wp2_with (refine Q7e rfl 53 (.tmp 6) _ rfl Q18 0 (Q4w).toArray ?hxn82 ?hyn82 ?htn82 (qz7 _) (qzd _) ?_)
 try (case hxn82 => rfl)
 try (case hyn82 => rfl)
 case htn82 => exact F9
 refine bodyPost_ret (v := .agg (Q4w).toArray) ?_ rfl ⟨by rw [hv.out], ?_⟩
 ·exact qz3 Tryz.results135 _ _ Q18 0 rfl Q4w _ (Q7c _ _ _ _ F9) Q7d rfl (qz1 _)
 ·exact Below.setCells (by omega) _ _ _ K9
theorem qzc1 (B : Nat) (A : Ar) (h : Hd) (m : Vr) (a0 a1 a2 a3 : Option Addr) (c0 c1 c2 c3 : Nat) (w : World) (hB : B <= Q7b) (hA : A.size <= 1048576) (I : qzv B w Q0u Q0s Q0v Q14 A)  :
  Calls Tryz.prog 137 Q1x w fun e w' => e = .returned (.agg (hdC (qze8 h m)).toArray) /\ Below Q7b w w' := by
 have hA' := hA
 unfold Ar.size at hA
 have X0 := Q7n (Q7n (Q7n (qz6 w Q0j 33) Q0d) Q0a) (.cells Q00 53)
 have H0 := Q7n (Q7n (qz6 Q26 (hdC h) 53) Q0a) (.cells Q00 53)
 have G0 := Q80 (Q80 (qza Q26 (hdC h).toArray 53 22 (by simp [hdC])) Q0a) (.cells Q00 53)
 have M0 := Q7n Q1o (.cells Q00 53)
 have F0 := qza (((Q26).alloc Q0d).alloc Q0a) Q00 53 22 (by decide)
 have K0 := (((((Q7g Q7b w).alloc (Q7l _) (.cells Q02 33)).alloc (by simp) Q0d).alloc (by simp <;> omega) Q0a).alloc (by simp <;> omega) (.cells Q00 53))
 have hz0 : Q7b + 1 + 1 + 1 < (Q1k).heap.size := by simp
 simp only [World.size_alloc] at H0 G0 M0 F0
 have I0 := I.below (K0.mono hB)
 go_enter Tryz.func137, Tryz.ntmps137
 have tok : True := trivial
 go_wp2_with (clear tok; refine qz1q Q1k ?_)
 generalize hw0 : (((Q26).alloc Q0d).alloc Q0a).alloc (.cells Q00 53) = w0 at *
 clear hw0 I
 show wpList _ _ _ _ _ w0
 obtain ⟨v0, v1, v2, v3, v4⟩ := row5 M0
 have q19 : w0.cell? ⟨Q7b + 1, 19, none⟩ = some (.int .i64 h.least) := by simpa using H0 19 (.int .i64 h.least) rfl
 by_cases ks : m.stamp <= h.least
 ·obtain ⟨H', hH⟩ : ∃ H' : Hd, Hid (H' = h) := by exact ⟨_, rfl⟩
  have hv : Hid (qze8 h m = qz1k H' 23) := by show _ = _; rw [hH.out]; simp [qze8, ks, qz1k]
  go_wp2_with (first | (refine Q7j rfl 53 (.tmp 4) rfl (Q7b + 1) 0 ?hxln83 (hdC H') _ ?hcn83 Q7d rfl (qz1 H') ?_))
  try (case hxln83 => rfl)
  case hcn83 => rw [hH.out]; exact H0
  refine (qz1g H' 23 _).mono ?_
  rintro e w9 ⟨rfl, b9⟩
  have F9 := qz2 F0 b9 (by first | omega | (simp; omega))
  have K9 := K0.trans (b9.mono (by first | omega | (simp; omega)))
  go_wp2_with (refine Q7e rfl 53 (.tmp 6) _ rfl Q18 0 (hdC (qz1k H' 23)).toArray ?hxn83 ?hyn83 ?htn83 (qz7 _) (qzd _) ?_)
  try (case hxn83 => rfl)
  try (case hyn83 => rfl)
  case htn83 => exact F9
  refine bodyPost_ret (v := .agg (hdC (qz1k H' 23)).toArray) ?_ rfl ⟨by rw [hv.out], ?_⟩
  ·exact qz3 Tryz.results137 _ _ Q18 0 rfl (hdC (qz1k H' 23)) _ (Q7c _ _ _ _ F9) Q7d rfl (qz1 _)
  ·exact Below.setCells (by omega) _ _ _ K9
 obtain ⟨H', hH⟩ : ∃ H' : Hd, Hid (H' = h) := by exact ⟨_, rfl⟩
 have hv : Hid (qze8 h m = qz1k H' 22) := by show _ = _; rw [hH.out]; simp [qze8, ks, qz1k]
 go_wp2_with (first | (refine Q7j rfl 53 (.tmp 4) rfl (Q7b + 1) 0 ?hxln84 (hdC H') _ ?hcn84 Q7d rfl (qz1 H') ?_))
 try (case hxln84 => rfl)
 case hcn84 => rw [hH.out]; exact H0
 refine (qz1g H' 22 _).mono ?_
 rintro e w9 ⟨rfl, b9⟩
 have F9 := qz2 F0 b9 (by first | omega | (simp; omega))
 have K9 := K0.trans (b9.mono (by first | omega | (simp; omega)))
 go_wp2_with (refine Q7e rfl 53 (.tmp 6) _ rfl Q18 0 (hdC (qz1k H' 22)).toArray ?hxn84 ?hyn84 ?htn84 (qz7 _) (qzd _) ?_)
 try (case hxn84 => rfl)
 try (case hyn84 => rfl)
 case htn84 => exact F9
 refine bodyPost_ret (v := .agg (hdC (qz1k H' 22)).toArray) ?_ rfl ⟨by rw [hv.out], ?_⟩
 ·exact qz3 Tryz.results137 _ _ Q18 0 rfl (hdC (qz1k H' 22)) _ (Q7c _ _ _ _ F9) Q7d rfl (qz1 _)
 ·exact Below.setCells (by omega) _ _ _ K9
theorem qz9e (B : Nat) (A : Ar) (h : Hd) (m : Vr) (a0 a1 a2 a3 : Option Addr) (c0 c1 c2 c3 : Nat) (w : World) (hB : B <= Q7b) (hA : A.size <= 1048576) (I : qzv B w Q0u Q0s Q0v Q14 A) (hvm : vrOf A h.ver = m) (hx0 : 0 <= h.x_) (hx1 : h.x_ < (Q7f : Int)) (hm0 : -1 <= m.next) (hm1 : m.next < (Q7f : Int)) (ho0 : 0 <= h.out) (ho1 : h.out <= 1000000) (hs0 : 0 <= h.sum) (hs1 : h.sum <= 1000000) (hval : ∀ n (hn : n < Q7f), 0 <= A.nodes[n].value /\ A.nodes[n].value <= 9999) :
  Calls Tryz.prog 136 Q1x w fun e w' => e = .returned (.agg (hdC (qz5g A h m)).toArray) /\ Below Q7b w w' := by
 have hA' := hA
 unfold Ar.size at hA
 have X0 := Q7n (Q7n (Q7n (qz6 w Q0j 33) Q0d) Q0a) (.cells Q00 53)
 have H0 := Q7n (Q7n (qz6 Q26 (hdC h) 53) Q0a) (.cells Q00 53)
 have G0 := Q80 (Q80 (qza Q26 (hdC h).toArray 53 22 (by simp [hdC])) Q0a) (.cells Q00 53)
 have M0 := Q7n Q1o (.cells Q00 53)
 have F0 := qza (((Q26).alloc Q0d).alloc Q0a) Q00 53 22 (by decide)
 have K0 := (((((Q7g Q7b w).alloc (Q7l _) (.cells Q02 33)).alloc (by simp) Q0d).alloc (by simp <;> omega) Q0a).alloc (by simp <;> omega) (.cells Q00 53))
 have hz0 : Q7b + 1 + 1 + 1 < (Q1k).heap.size := by simp
 simp only [World.size_alloc] at H0 G0 M0 F0
 have I0 := I.below (K0.mono hB)
 go_enter Tryz.func136, Tryz.ntmps136
 have tok : True := trivial
 go_wp2_with (clear tok; refine qz1q Q1k ?_)
 generalize hw0 : (((Q26).alloc Q0d).alloc Q0a).alloc (.cells Q00 53) = w0 at *
 clear hw0 I
 show wpList _ _ _ _ _ w0
 obtain ⟨x0, x1, x2, x3, x4⟩ := row5 X0
 obtain ⟨v0, v1, v2, v3, v4⟩ := row5 M0
 have q9 : w0.cell? ⟨Q7b + 1, 9, none⟩ = some (.int .i64 h.held) := by simpa using H0 9 (.int .i64 h.held) rfl
 by_cases ks : m.stamp <= h.held
 ·obtain ⟨H', hH⟩ : ∃ H' : Hd, Hid (H' = h) := by exact ⟨_, rfl⟩
  have hv : Hid (qz5g A h m = useH A H') := by show _ = _; rw [hH.out]; simp [qz5g, ks]
  go_wp2_with (first | (refine Q7j rfl 53 (.tmp 4) rfl (Q7b + 1) 0 ?hxln85 (hdC H') _ ?hcn85 Q7d rfl (qz1 H') ?_))
  try (case hxln85 => rfl)
  case hcn85 => rw [hH.out]; exact H0
  refine (qzfz B A H' m _ _ _ _ _ _ _ _ _ (by first | omega | (simp; omega)) hA' (I0.below (Q7g B w0)) (by rw [hH.out]; exact hvm) (by rw [hH.out]; exact hx0) (by rw [hH.out]; exact hx1) hm0 hm1 (by rw [hH.out]; exact ho0) (by rw [hH.out]; exact ho1) (by rw [hH.out]; exact hs0) (by rw [hH.out]; exact hs1) hval).mono ?_
  rintro e w9 ⟨rfl, b9⟩
  have F9 := qz2 F0 b9 (by first | omega | (simp; omega))
  have K9 := K0.trans (b9.mono (by first | omega | (simp; omega)))
  go_wp2_with (refine Q7e rfl 53 (.tmp 6) _ rfl Q18 0 (hdC (useH A H')).toArray ?hxn85 ?hyn85 ?htn85 (qz7 _) (qzd _) ?_)
  try (case hxn85 => rfl)
  try (case hyn85 => rfl)
  case htn85 => exact F9
  refine bodyPost_ret (v := .agg (hdC (useH A H')).toArray) ?_ rfl ⟨by rw [hv.out], ?_⟩
  ·exact qz3 Tryz.results136 _ _ Q18 0 rfl (hdC (useH A H')) _ (Q7c _ _ _ _ F9) Q7d rfl (qz1 _)
  ·exact Below.setCells (by omega) _ _ _ K9
 obtain ⟨H', hH⟩ : ∃ H' : Hd, Hid (H' = h) := by exact ⟨_, rfl⟩
 have hv : Hid (qz5g A h m = qz1k H' 19) := by show _ = _; rw [hH.out]; simp [qz5g, ks, qz1k]
 go_wp2_with (first | (refine Q7j rfl 53 (.tmp 4) rfl (Q7b + 1) 0 ?hxln86 (hdC H') _ ?hcn86 Q7d rfl (qz1 H') ?_))
 try (case hxln86 => rfl)
 case hcn86 => rw [hH.out]; exact H0
 refine (qz1g H' 19 _).mono ?_
 rintro e w9 ⟨rfl, b9⟩
 have F9 := qz2 F0 b9 (by first | omega | (simp; omega))
 have K9 := K0.trans (b9.mono (by first | omega | (simp; omega)))
 go_wp2_with (refine Q7e rfl 53 (.tmp 6) _ rfl Q18 0 (hdC (qz1k H' 19)).toArray ?hxn86 ?hyn86 ?htn86 (qz7 _) (qzd _) ?_)
 try (case hxn86 => rfl)
 try (case hyn86 => rfl)
 case htn86 => exact F9
 refine bodyPost_ret (v := .agg (hdC (qz1k H' 19)).toArray) ?_ rfl ⟨by rw [hv.out], ?_⟩
 ·exact qz3 Tryz.results136 _ _ Q18 0 rfl (hdC (qz1k H' 19)) _ (Q7c _ _ _ _ F9) Q7d rfl (qz1 _)
 ·exact Below.setCells (by omega) _ _ _ K9
theorem qzas (B : Nat) (A : Ar) (h : Hd) (m : Vr) (a0 a1 a2 a3 : Option Addr) (c0 c1 c2 c3 : Nat) (w : World) (hB : B <= Q7b) (hA : A.size <= 1048576) (I : qzv B w Q0u Q0s Q0v Q14 A) (hc0 : -1 <= h.curr) (hcu : h.curr < (Q7f : Int)) (hn0 : -1 <= h.new_) :
  Calls Tryz.prog 134 Q1x w fun e w' => e = .returned (.agg (hdC (goH A h m)).toArray) /\ Below Q7b w w' := by
 have hA' := hA
 unfold Ar.size at hA
 have X0 := Q7n (Q7n (Q7n (qz6 w Q0j 33) Q0d) Q0a) (.cells Q00 53)
 have H0 := Q7n (Q7n (qz6 Q26 (hdC h) 53) Q0a) (.cells Q00 53)
 have G0 := Q80 (Q80 (qza Q26 (hdC h).toArray 53 22 (by simp [hdC])) Q0a) (.cells Q00 53)
 have M0 := Q7n Q1o (.cells Q00 53)
 have F0 := qza (((Q26).alloc Q0d).alloc Q0a) Q00 53 22 (by decide)
 have K0 := (((((Q7g Q7b w).alloc (Q7l _) (.cells Q02 33)).alloc (by simp) Q0d).alloc (by simp <;> omega) Q0a).alloc (by simp <;> omega) (.cells Q00 53))
 have hz0 : Q7b + 1 + 1 + 1 < (Q1k).heap.size := by simp
 simp only [World.size_alloc] at H0 G0 M0 F0
 have I0 := I.below (K0.mono hB)
 go_enter Tryz.func134, Tryz.ntmps134
 have tok : True := trivial
 go_wp2_with (clear tok; refine qz1q Q1k ?_)
 generalize hw0 : (((Q26).alloc Q0d).alloc Q0a).alloc (.cells Q00 53) = w0 at *
 clear hw0 I
 show wpList _ _ _ _ _ w0
 have e2 : ¬ Q68 := by omega
 have e3 : ¬ Q62 := by omega
 have q11 : w0.cell? ⟨Q7b + 1, 11, none⟩ = some (.int .i64 h.ver) := by simpa using H0 11 (.int .i64 h.ver) rfl
 have q17 : w0.cell? ⟨Q7b + 1, 17, none⟩ = some (.int .i64 h.currVer) := by simpa using H0 17 (.int .i64 h.currVer) rfl
 have f17 : w0.frozen? ⟨Q7b + 1, 17, none⟩ = false := by simpa using (G0 17 (by decide)).2
 obtain ⟨g, hg⟩ : ∃ g : Hd, Hid (g = { h with currVer := h.ver }) := by exact ⟨_, rfl⟩
 have tok : True := trivial
 go_wp2_with (clear tok; refine qz1q Q6q ?_)
 have X1 := qz1l X0 (a := ⟨Q7b + 1, 17, none⟩) (by show Q7b + 1 ≠ Q7b; omega) (.int .i64 h.ver)
 have M1 := qz1l M0 (a := ⟨Q7b + 1, 17, none⟩) (by show Q7b + 1 ≠ Q7b + 1 + 1; omega) (.int .i64 h.ver)
 have H1 : (Q6q).rangeAt (Q7b + 1) 0 (hdC g) := by rw [hg.out]; exact qzb H0 17 (by simp [hdC]) _
 have G1 := qz5 G0 ⟨Q7b + 1, 17, none⟩ (.int .i64 h.ver)
 have F1 := qz5 F0 ⟨Q7b + 1, 17, none⟩ (.int .i64 h.ver)
 have K1 := Below.setCell K0 (p := ⟨Q7b + 1, 17, none⟩) (by show Q7b <= Q7b + 1; omega) (.int .i64 h.ver)
 have I1 := I0.below (Below.setCell (Q7g B w0) (p := ⟨Q7b + 1, 17, none⟩) (by show B <= Q7b + 1; omega) (.int .i64 h.ver))
 have hz1 : Q7b + 1 + 1 + 1 < (Q6q).heap.size := by rw [World.size_setCell]; exact hz0
 generalize hw1 : w0.setCell ⟨Q7b + 1, 17, none⟩ (.int .i64 h.ver) = w1 at *
 show wpList _ _ _ _ _ w1
 clear hw1 X0 M0 H0 G0 F0 K0 I0 hz0 q11 q17 f17
 have gcur : g.curr = h.curr := by rw [hg.out]
 have gkey : g.key = h.key := by rw [hg.out]
 have gnew : -1 <= g.new_ := by rw [hg.out]; exact hn0
 have gver : g.currVer = h.ver := by rw [hg.out]
 obtain ⟨x0, x1, x2, x3, x4⟩ := row5 X1
 obtain ⟨v0, v1, v2, v3, v4⟩ := row5 M1
 have q3 : w1.cell? ⟨Q7b + 1, 3, none⟩ = some (.int .i64 g.key) := by simpa using H1 3 (.int .i64 g.key) rfl
 have q16 : w1.cell? ⟨Q7b + 1, 16, none⟩ = some (.int .i64 g.curr) := by simpa using H1 16 (.int .i64 g.curr) rfl
 have gcH : Hid (g.curr = h.curr) := gcur
 have gkH : Hid (g.key = h.key) := gkey
 clear gver gkey
 cases kg : m.gone
 case true =>
  clear gcur
  obtain ⟨H', hH⟩ : ∃ H' : Hd, Hid (H' = g) := by exact ⟨_, rfl⟩
  have hv : Hid (goH A h m = qz1k H' 6) := by show _ = _; rw [hH.out]; rw [hg.out]; simp [goH, kg, qz1k]
  go_wp2_with (first | (refine Q7j rfl 53 (.tmp 4) rfl (Q7b + 1) 0 ?hxln87 (hdC H') _ ?hcn87 Q7d rfl (qz1 H') ?_))
  try (case hxln87 => rfl)
  case hcn87 => rw [hH.out]; exact H1
  refine (qz1g H' 6 _).mono ?_
  rintro e w9 ⟨rfl, b9⟩
  have F9 := qz2 F1 b9 (by first | omega | (simp; omega))
  have K9 := K1.trans (b9.mono (by first | omega | (simp; omega)))
  go_wp2_with (refine Q7e rfl 53 (.tmp 6) _ rfl Q18 0 (hdC (qz1k H' 6)).toArray ?hxn87 ?hyn87 ?htn87 (qz7 _) (qzd _) ?_)
  try (case hxn87 => rfl)
  try (case hyn87 => rfl)
  case htn87 => exact F9
  refine bodyPost_ret (v := .agg (hdC (qz1k H' 6)).toArray) ?_ rfl ⟨by rw [hv.out], ?_⟩
  ·exact qz3 Tryz.results134 _ _ Q18 0 rfl (hdC (qz1k H' 6)) _ (Q7c _ _ _ _ F9) Q7d rfl (qz1 _)
  ·exact Below.setCells (by omega) _ _ _ K9
 go_upto_region 4 with fail
 by_cases hcm : g.curr = -1
 case pos =>
  rw [hcm] at q16
  go_quiet (fail)
  have X2 : (w1.drewN nq).rangeAt Q7b 0 Q0j := X1
  have H2 : (w1.drewN nq).rangeAt (Q7b + 1) 0 (hdC g) := H1
  have G2 : (w1.drewN nq).there (Q7b + 1) 0 22 := G1
  have F2 : (w1.drewN nq).there Q18 0 22 := F1
  have M2 : (w1.drewN nq).rangeAt (Q7b + 1 + 1) 0 Q5o := M1
  have K2 : Below Q7b w (w1.drewN nq) := ⟨K1.os, K1.tape, K1.output, K1.size, K1.block⟩
  have hz2 : Q7b + 1 + 1 + 1 < (w1.drewN nq).heap.size := hz1
  have I2 : qzv B (w1.drewN nq) Q0u Q0s Q0v Q14 A := I1.below ⟨rfl, rfl, rfl, Q7l _, fun _ _ => rfl⟩
  generalize hw2 : w1.drewN nq = w2 at *
  clear hw2 X1 H1 G1 F1 M1 K1 hz1 I1 x0 x1 x2 x3 x4 v0 v1 v2 v3 v4 q3 q16
  obtain ⟨x0, x1, x2, x3, x4⟩ := row5 X2
  obtain ⟨v0, v1, v2, v3, v4⟩ := row5 M2
  have q14 : w2.cell? ⟨Q7b + 1, 14, none⟩ = some (.int .i64 g.pred) := by simpa using H2 14 (.int .i64 g.pred) rfl
  have q15 : w2.cell? ⟨Q7b + 1, 15, none⟩ = some (.int .i64 g.predVer) := by simpa using H2 15 (.int .i64 g.predVer) rfl
  have q16 : w2.cell? ⟨Q7b + 1, 16, none⟩ = some (.int .i64 g.curr) := by simpa using H2 16 (.int .i64 g.curr) rfl
  have q17 : w2.cell? ⟨Q7b + 1, 17, none⟩ = some (.int .i64 g.currVer) := by simpa using H2 17 (.int .i64 g.currVer) rfl
  have f14 : w2.frozen? ⟨Q7b + 1, 14, none⟩ = false := by simpa using (G2 14 (by decide)).2
  have f15 : w2.frozen? ⟨Q7b + 1, 15, none⟩ = false := by simpa using (G2 15 (by decide)).2
  rw [hcm] at q16
  clear gcur
  obtain ⟨H', hH⟩ : ∃ H' : Hd, Hid (H' = { g with pred := 0, predVer := g.currVer }) := by exact ⟨_, rfl⟩
  have hv : Hid (goH A h m = qz3q A H' m.next) := by show _ = _; rw [hH.out]; have hc1 := gcH.out; rw [hcm] at hc1; rw [hg.out]; simp [goH, kg, <- hc1, (by decide : max (-1 : Int) 0 = 0)]
  go_wp2_with (first | (refine Q7j rfl 53 (.tmp 4) rfl (Q7b + 1) 0 ?hxln88 (hdC H') _ ?hcn88 Q7d rfl (qz1 H') ?_))
  try (case hxln88 => rfl)
  case hcn88 => rw [hH.out]; exact (qzb (qzb H2 14 (by simp [hdC]) _) 15 (by simp [hdC]) _)
  refine (qz69 B A H' m.next _ _ _ _ _ _ _ _ _ (by first | omega | (simp; omega)) hA' (I2.below (Below.setCell (Below.setCell (Q7g B w2) (p := ⟨Q7b + 1, 14, none⟩) (by show B <= Q7b + 1; omega) _) (p := ⟨Q7b + 1, 15, none⟩) (by show B <= Q7b + 1; omega) _)) (by rw [hH.out]; exact gnew)).mono ?_
  rintro e w9 ⟨rfl, b9⟩
  have F9 := qz2 (qz5 (qz5 F2 _ _) _ _) b9 (by first | omega | (simp; omega))
  have K9 := (Below.setCell (Below.setCell K2 (p := ⟨Q7b + 1, 14, none⟩) (by show Q7b <= Q7b + 1; omega) _) (p := ⟨Q7b + 1, 15, none⟩) (by show Q7b <= Q7b + 1; omega) _).trans (b9.mono (by first | omega | (simp; omega)))
  go_wp2_with (refine Q7e rfl 53 (.tmp 6) _ rfl Q18 0 (Q4w).toArray ?hxn88 ?hyn88 ?htn88 (qz7 _) (qzd _) ?_)
  try (case hxn88 => rfl)
  try (case hyn88 => rfl)
  case htn88 => exact F9
  refine bodyPost_ret (v := .agg (Q4w).toArray) ?_ rfl ⟨by rw [hv.out], ?_⟩
  ·exact qz3 Tryz.results134 _ _ Q18 0 rfl Q4w _ (Q7c _ _ _ _ F9) Q7d rfl (qz1 _)
  ·exact Below.setCells (by omega) _ _ _ K9
 obtain ⟨n, hn⟩ : ∃ n : Nat, g.curr = n := ⟨g.curr.toNat, by omega⟩
 have hnl : n < Q7f := by omega
 have hnl' : (n : Int) < (Q7f : Int) := by omega
 have hnl0 : (0 : Int) <= (n : Int) := by omega
 have hn3 : ¬ ((n : Int) < 0) := by omega
 have bm : ((n : Int) != -1) = true := by simp <;> omega
 have bm' : ((n : Int) == -1) = false := by simp <;> omega
 obtain ⟨bn, on, rfl, hbn, RN⟩ := qzq.at I1.n (by omega)
 have m0 : w1.cell? ⟨bn, on + n * 3, none⟩ = some (.int .i64 A.nodes[n].key) := by simpa using (qze (sz := 3) (fun _ => rfl) RN n hnl) 0 _ rfl
 rw [hn] at q16
 have hnH : Hid (g.curr = n) := hn
 have hcH : Hid (h.curr = n) := by show _ = _; rw [<- gcur]; exact hn
 clear RN hn gcur hcm
 by_cases kk : g.key <= A.nodes[n].key
 case neg =>
  have kkH : Hid (¬ (h.key <= A.nodes[n].key)) := by show ¬ _; rw [<- gkH.out]; exact kk
  go_quiet (fail)
  have X2 : (w1.drewN nq).rangeAt Q7b 0 Q3n := X1
  have H2 : (w1.drewN nq).rangeAt (Q7b + 1) 0 (hdC g) := H1
  have G2 : (w1.drewN nq).there (Q7b + 1) 0 22 := G1
  have F2 : (w1.drewN nq).there Q18 0 22 := F1
  have M2 : (w1.drewN nq).rangeAt (Q7b + 1 + 1) 0 Q5o := M1
  have K2 : Below Q7b w (w1.drewN nq) := ⟨K1.os, K1.tape, K1.output, K1.size, K1.block⟩
  have hz2 : Q7b + 1 + 1 + 1 < (w1.drewN nq).heap.size := hz1
  have I2 : qzv B (w1.drewN nq) Q0u Q0s Q40 Q14 A := I1.below ⟨rfl, rfl, rfl, Q7l _, fun _ _ => rfl⟩
  generalize hw2 : w1.drewN nq = w2 at *
  clear hw2 X1 H1 G1 F1 M1 K1 hz1 I1 x0 x1 x2 x3 x4 v0 v1 v2 v3 v4 q3 q16 m0
  obtain ⟨x0, x1, x2, x3, x4⟩ := row5 X2
  obtain ⟨v0, v1, v2, v3, v4⟩ := row5 M2
  have q14 : w2.cell? ⟨Q7b + 1, 14, none⟩ = some (.int .i64 g.pred) := by simpa using H2 14 (.int .i64 g.pred) rfl
  have q15 : w2.cell? ⟨Q7b + 1, 15, none⟩ = some (.int .i64 g.predVer) := by simpa using H2 15 (.int .i64 g.predVer) rfl
  have q16 : w2.cell? ⟨Q7b + 1, 16, none⟩ = some (.int .i64 g.curr) := by simpa using H2 16 (.int .i64 g.curr) rfl
  have q17 : w2.cell? ⟨Q7b + 1, 17, none⟩ = some (.int .i64 g.currVer) := by simpa using H2 17 (.int .i64 g.currVer) rfl
  have f14 : w2.frozen? ⟨Q7b + 1, 14, none⟩ = false := by simpa using (G2 14 (by decide)).2
  have f15 : w2.frozen? ⟨Q7b + 1, 15, none⟩ = false := by simpa using (G2 15 (by decide)).2
  rw [hnH.out] at q16
  clear kk
  obtain ⟨H', hH⟩ : ∃ H' : Hd, Hid (H' = { g with pred := (n : Int), predVer := g.currVer }) := by exact ⟨_, rfl⟩
  have hv : Hid (goH A h m = qz3q A H' m.next) := by
   show _ = _
   rw [hH.out]
   have hc1 := hcH.out; have kk := kkH.out; have hmx : max (n : Int) 0 = n := by omega
   rw [hg.out]; simp [goH, kg, hc1, qz1d A n hnl, kk, hmx]
  go_wp2_with (first | (refine Q7j rfl 53 (.tmp 4) rfl (Q7b + 1) 0 ?hxln89 (hdC H') _ ?hcn89 Q7d rfl (qz1 H') ?_))
  try (case hxln89 => rfl)
  case hcn89 => rw [hH.out]; exact (qzb (qzb H2 14 (by simp [hdC]) _) 15 (by simp [hdC]) _)
  refine (qz69 B A H' m.next _ _ _ _ _ _ _ _ _ (by first | omega | (simp; omega)) hA' (I2.below (Below.setCell (Below.setCell (Q7g B w2) (p := ⟨Q7b + 1, 14, none⟩) (by show B <= Q7b + 1; omega) _) (p := ⟨Q7b + 1, 15, none⟩) (by show B <= Q7b + 1; omega) _)) (by rw [hH.out]; exact gnew)).mono ?_
  rintro e w9 ⟨rfl, b9⟩
  have F9 := qz2 (qz5 (qz5 F2 _ _) _ _) b9 (by first | omega | (simp; omega))
  have K9 := (Below.setCell (Below.setCell K2 (p := ⟨Q7b + 1, 14, none⟩) (by show Q7b <= Q7b + 1; omega) _) (p := ⟨Q7b + 1, 15, none⟩) (by show Q7b <= Q7b + 1; omega) _).trans (b9.mono (by first | omega | (simp; omega)))
  go_wp2_with (refine Q7e rfl 53 (.tmp 6) _ rfl Q18 0 (Q4w).toArray ?hxn89 ?hyn89 ?htn89 (qz7 _) (qzd _) ?_)
  try (case hxn89 => rfl)
  try (case hyn89 => rfl)
  case htn89 => exact F9
  refine bodyPost_ret (v := .agg (Q4w).toArray) ?_ rfl ⟨by rw [hv.out], ?_⟩
  ·exact qz3 Tryz.results134 _ _ Q18 0 rfl Q4w _ (Q7c _ _ _ _ F9) Q7d rfl (qz1 _)
  ·exact Below.setCells (by omega) _ _ _ K9
 have kkH : Hid (h.key <= A.nodes[n].key) := by show _ <= _; rw [<- gkH.out]; exact kk
 go_quiet (fail)
 have X2 : (w1.drewN nq).rangeAt Q7b 0 Q3n := X1
 have H2 : (w1.drewN nq).rangeAt (Q7b + 1) 0 (hdC g) := H1
 have G2 : (w1.drewN nq).there (Q7b + 1) 0 22 := G1
 have F2 : (w1.drewN nq).there Q18 0 22 := F1
 have M2 : (w1.drewN nq).rangeAt (Q7b + 1 + 1) 0 Q5o := M1
 have K2 : Below Q7b w (w1.drewN nq) := ⟨K1.os, K1.tape, K1.output, K1.size, K1.block⟩
 have hz2 : Q7b + 1 + 1 + 1 < (w1.drewN nq).heap.size := hz1
 have I2 : qzv B (w1.drewN nq) Q0u Q0s Q40 Q14 A := I1.below ⟨rfl, rfl, rfl, Q7l _, fun _ _ => rfl⟩
 generalize hw2 : w1.drewN nq = w2 at *
 clear hw2 X1 H1 G1 F1 M1 K1 hz1 I1 x0 x1 x2 x3 x4 v0 v1 v2 v3 v4 q3 q16 m0
 obtain ⟨x0, x1, x2, x3, x4⟩ := row5 X2
 obtain ⟨v0, v1, v2, v3, v4⟩ := row5 M2
 have q14 : w2.cell? ⟨Q7b + 1, 14, none⟩ = some (.int .i64 g.pred) := by simpa using H2 14 (.int .i64 g.pred) rfl
 have q15 : w2.cell? ⟨Q7b + 1, 15, none⟩ = some (.int .i64 g.predVer) := by simpa using H2 15 (.int .i64 g.predVer) rfl
 have q16 : w2.cell? ⟨Q7b + 1, 16, none⟩ = some (.int .i64 g.curr) := by simpa using H2 16 (.int .i64 g.curr) rfl
 have q17 : w2.cell? ⟨Q7b + 1, 17, none⟩ = some (.int .i64 g.currVer) := by simpa using H2 17 (.int .i64 g.currVer) rfl
 have f14 : w2.frozen? ⟨Q7b + 1, 14, none⟩ = false := by simpa using (G2 14 (by decide)).2
 have f15 : w2.frozen? ⟨Q7b + 1, 15, none⟩ = false := by simpa using (G2 15 (by decide)).2
 rw [hnH.out] at q16
 clear kk
 obtain ⟨H', hH⟩ : ∃ H' : Hd, Hid (H' = g) := by exact ⟨_, rfl⟩
 have hv : Hid (goH A h m = qz1b A H') := by
  show _ = _
  rw [hH.out]
  have hc1 := hcH.out; have kk := kkH.out; have hmx : max (n : Int) 0 = n := by omega
  rw [hg.out]; simp [goH, kg, hc1, qz1d A n hnl, kk, hmx]
 go_wp2_with (first | (refine Q7j rfl 53 (.tmp 4) rfl (Q7b + 1) 0 ?hxln90 (hdC H') _ ?hcn90 Q7d rfl (qz1 H') ?_))
 try (case hxln90 => rfl)
 case hcn90 => rw [hH.out]; exact H2
 refine (qzbe B A H' _ _ _ _ _ _ _ _ _ (by first | omega | (simp; omega)) hA' (I2.below (Q7g B w2)) (by rw [hH.out, hnH.out]; omega) (by rw [hH.out, hnH.out]; exact hnl') (by rw [hH.out]; exact gnew)).mono ?_
 rintro e w9 ⟨rfl, b9⟩
 have F9 := qz2 F2 b9 (by first | omega | (simp; omega))
 have K9 := K2.trans (b9.mono (by first | omega | (simp; omega)))
 go_wp2_with (refine Q7e rfl 53 (.tmp 6) _ rfl Q18 0 (hdC (qz1b A H')).toArray ?hxn90 ?hyn90 ?htn90 (qz7 _) (qzd _) ?_)
 try (case hxn90 => rfl)
 try (case hyn90 => rfl)
 case htn90 => exact F9
 refine bodyPost_ret (v := .agg (hdC (qz1b A H')).toArray) ?_ rfl ⟨by rw [hv.out], ?_⟩
 ·exact qz3 Tryz.results134 _ _ Q18 0 rfl (hdC (qz1b A H')) _ (Q7c _ _ _ _ F9) Q7d rfl (qz1 _)
 ·exact Below.setCells (by omega) _ _ _ K9
end
end Go.Proofs.YthjkdnlmopafkaaGreat
