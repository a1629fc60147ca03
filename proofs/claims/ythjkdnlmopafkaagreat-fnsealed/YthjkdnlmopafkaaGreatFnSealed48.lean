/-
  What the law's proof goes by, part 49.
-/
import Derived.Test.YthjkdnlmopafkaaGreatFnSealed00
import Derived.Test.YthjkdnlmopafkaaGreatFnSealed47
namespace Go.Proofs.YthjkdnlmopafkaaGreat
open Go.ChangeShapes Go.WideShapes Go.ChangeAt Go.RowKit
set_option maxRecDepth 100000
set_option maxHeartbeats 16000000
set_option linter.unusedVariables false
set_option linter.unusedSimpArgs false
set_option linter.unnecessarySimpa false
set_option linter.unusedSectionVars false
section
attribute [local go_sem ↓] Go.wp_at_zero Go.wp_at_succ
theorem qzfz (B : Nat) (A : Ar) (h : Hd) (m : Vr) (a0 a1 a2 a3 : Option Addr) (c0 c1 c2 c3 : Nat) (w : World) (hB : B <= Q7b) (hA : A.size <= 1048576) (I : qzv B w Q0u Q0s Q0v Q14 A) (hvm : vrOf A h.ver = m) (hx0 : 0 <= h.x_) (hx1 : h.x_ < (Q7f : Int)) (hm0 : -1 <= m.next) (hm1 : m.next < (Q7f : Int)) (ho0 : 0 <= h.out) (ho1 : h.out <= 1000000) (hs0 : 0 <= h.sum) (hs1 : h.sum <= 1000000) (hval : ∀ n (hn : n < Q7f), 0 <= A.nodes[n].value /\ A.nodes[n].value <= 9999) :
  Calls Tryz.prog 153 Q1x w fun e w' => e = .returned (.agg (hdC (useH A h)).toArray) /\ Below Q7b w w' := by
 have hA' := hA
 unfold Ar.size at hA
 have X0 := Q7n (Q7n (Q7n (qz6 w Q0j 33) Q0d) Q0a) (.cells Q00 53)
 have H0 := Q7n (Q7n (qz6 Q26 (hdC h) 53) Q0a) (.cells Q00 53)
 have G0 := Q80 (Q80 (qza Q26 (hdC h).toArray 53 22 (by simp [hdC])) Q0a) (.cells Q00 53)
 have M0 := Q7n Q1o (.cells Q00 53)
 have F0 := qza (((Q26).alloc Q0d).alloc Q0a) Q00 53 22 (by decide)
 have K0 := (((((Q7g Q7b w).alloc (Q7l _) (.cells Q02 33)).alloc (by simp) Q0d).alloc (by simp <;> omega) Q0a).alloc (by simp <;> omega) (.cells Q00 53))
 have hz0 : Q7b + 1 + 1 + 1 < (Q1k).heap.size := by simp
 simp only [World.size_alloc] at H0 G0 M0 F0
 have I0 := I.below (K0.mono hB)
 go_enter Tryz.func153, Tryz.ntmps153
 have tok : True := trivial
 go_wp2_with (clear tok; refine qz1q Q1k ?_)
 generalize hw0 : (((Q26).alloc Q0d).alloc Q0a).alloc (.cells Q00 53) = w0 at *
 clear hw0 I
 show wpList _ _ _ _ _ w0
 obtain ⟨x0, x1, x2, x3, x4⟩ := row5 X0
 obtain ⟨v0, v1, v2, v3, v4⟩ := row5 M0
 have q2 : w0.cell? ⟨Q7b + 1, 2, none⟩ = some (.int .i64 h.code) := by simpa using H0 2 (.int .i64 h.code) rfl
 by_cases k6 : h.code = 6
 ·obtain ⟨H', hH⟩ : ∃ H' : Hd, Hid (H' = h) := by exact ⟨_, rfl⟩
  have hv : Hid (useH A h = useH A H') := by show _ = _; rw [hH.out]; skip
  go_wp2_with (first | (refine Q7j rfl 53 (.tmp 4) rfl (Q7b + 1) 0 ?hxln76 (hdC H') _ ?hcn76 Q7d rfl (qz1 H') ?_))
  try (case hxln76 => rfl)
  case hcn76 => rw [hH.out]; exact H0
  refine (qzdd B A H' m _ _ _ _ _ _ _ _ _ (by first | omega | (simp; omega)) hA' (I0.below (Q7g B w0)) (by rw [hH.out]; exact k6) (by rw [hH.out]; exact hvm) (by rw [hH.out]; exact hx0) (by rw [hH.out]; exact hx1) hm0 hm1).mono ?_
  rintro e w9 ⟨rfl, b9⟩
  have F9 := qz2 F0 b9 (by first | omega | (simp; omega))
  have K9 := K0.trans (b9.mono (by first | omega | (simp; omega)))
  go_wp2_with (refine Q7e rfl 53 (.tmp 6) _ rfl Q18 0 (hdC (useH A H')).toArray ?hxn76 ?hyn76 ?htn76 (qz7 _) (qzd _) ?_)
  try (case hxn76 => rfl)
  try (case hyn76 => rfl)
  case htn76 => exact F9
  refine bodyPost_ret (v := .agg (hdC (useH A H')).toArray) ?_ rfl ⟨by rw [hv.out], ?_⟩
  ·exact qz3 Tryz.results153 _ _ Q18 0 rfl (hdC (useH A H')) _ (Q7c _ _ _ _ F9) Q7d rfl (qz1 _)
  ·exact Below.setCells (by omega) _ _ _ K9
 have b6 : (h.code == 6) = false := by simp [k6]
 by_cases k7 : h.code = 7
 ·obtain ⟨H', hH⟩ : ∃ H' : Hd, Hid (H' = h) := by exact ⟨_, rfl⟩
  have hv : Hid (useH A h = useH A H') := by show _ = _; rw [hH.out]; skip
  go_wp2_with (first | (refine Q7j rfl 53 (.tmp 4) rfl (Q7b + 1) 0 ?hxln77 (hdC H') _ ?hcn77 Q7d rfl (qz1 H') ?_))
  try (case hxln77 => rfl)
  case hcn77 => rw [hH.out]; exact H0
  refine (qzc2 B A H' m _ _ _ _ _ _ _ _ _ (by first | omega | (simp; omega)) hA' (I0.below (Q7g B w0)) (by rw [hH.out]; exact k7) (by rw [hH.out]; exact hvm) (by rw [hH.out]; exact hx0) (by rw [hH.out]; exact hx1) hm0 hm1 (by rw [hH.out]; exact ho0) (by rw [hH.out]; exact ho1) (by rw [hH.out]; exact hs0) (by rw [hH.out]; exact hs1) hval).mono ?_
  rintro e w9 ⟨rfl, b9⟩
  have F9 := qz2 F0 b9 (by first | omega | (simp; omega))
  have K9 := K0.trans (b9.mono (by first | omega | (simp; omega)))
  go_wp2_with (refine Q7e rfl 53 (.tmp 6) _ rfl Q18 0 (hdC (useH A H')).toArray ?hxn77 ?hyn77 ?htn77 (qz7 _) (qzd _) ?_)
  try (case hxn77 => rfl)
  try (case hyn77 => rfl)
  case htn77 => exact F9
  refine bodyPost_ret (v := .agg (hdC (useH A H')).toArray) ?_ rfl ⟨by rw [hv.out], ?_⟩
  ·exact qz3 Tryz.results153 _ _ Q18 0 rfl (hdC (useH A H')) _ (Q7c _ _ _ _ F9) Q7d rfl (qz1 _)
  ·exact Below.setCells (by omega) _ _ _ K9
 have b7 : (h.code == 7) = false := by simp [k7]
 obtain ⟨H', hH⟩ : ∃ H' : Hd, Hid (H' = h) := by exact ⟨_, rfl⟩
 have hv : Hid (useH A h = qz1k H' 0) := by show _ = _; rw [hH.out]; simp [useH, k6, k7, qz1k]
 go_wp2_with (first | (refine Q7j rfl 53 (.tmp 4) rfl (Q7b + 1) 0 ?hxln78 (hdC H') _ ?hcn78 Q7d rfl (qz1 H') ?_))
 try (case hxln78 => rfl)
 case hcn78 => rw [hH.out]; exact H0
 refine (qz1g H' 0 _).mono ?_
 rintro e w9 ⟨rfl, b9⟩
 have F9 := qz2 F0 b9 (by first | omega | (simp; omega))
 have K9 := K0.trans (b9.mono (by first | omega | (simp; omega)))
 go_wp2_with (refine Q7e rfl 53 (.tmp 6) _ rfl Q18 0 (hdC (qz1k H' 0)).toArray ?hxn78 ?hyn78 ?htn78 (qz7 _) (qzd _) ?_)
 try (case hxn78 => rfl)
 try (case hyn78 => rfl)
 case htn78 => exact F9
 refine bodyPost_ret (v := .agg (hdC (qz1k H' 0)).toArray) ?_ rfl ⟨by rw [hv.out], ?_⟩
 ·exact qz3 Tryz.results153 _ _ Q18 0 rfl (hdC (qz1k H' 0)) _ (Q7c _ _ _ _ F9) Q7d rfl (qz1 _)
 ·exact Below.setCells (by omega) _ _ _ K9
end
end Go.Proofs.YthjkdnlmopafkaaGreat
