/-
  What the law's proof goes by, part 49.
-/
import Derived.Test.YtclkglkhhnapiaaGreatFnWent00
import Derived.Test.YtclkglkhhnapiaaGreatFnWent08
import Derived.Test.YtclkglkhhnapiaaGreatFnWent44
import Derived.Test.YtclkglkhhnapiaaGreatFnWent47
namespace Go.Proofs.YtclkglkhhnapiaaGreat
open Go.ChangeShapes Go.WideShapes Go.ChangeAt Go.RowKit
set_option maxRecDepth 100000
set_option maxHeartbeats 16000000
set_option linter.unusedVariables false
set_option linter.unusedSimpArgs false
set_option linter.unnecessarySimpa false
set_option linter.unusedSectionVars false
section
attribute [local go_sem ↓] Go.wp_at_zero Go.wp_at_succ
def qz75 (A : Ar) (h : Hd) (m : Vr) : Hd := if m.gone then { h with x_ := 0, at_ := 2 } else qz2s A { h with pred := h.x_, predVer := h.ver } m.next
def goH (A : Ar) (h : Hd) (m : Vr) : Hd := if m.gone then { h with currVer := h.ver, at_ := 6 } else if 0 <= h.curr /\ h.key <= (ndOf A h.curr).key then qz15 A { h with currVer := h.ver } else qz2s A { h with currVer := h.ver, pred := max h.curr 0, predVer := h.ver } m.next
def qz57 (A : Ar) (h : Hd) (m : Vr) : Hd := if m.stamp <= h.held then useH A h else { h with at_ := 19 }
def qzcu (h : Hd) (m : Vr) : Hd := { h with at_ := if m.stamp <= h.least then 23 else 22 }
theorem qz5s (B : Nat) (A : Ar) (h : Hd) (m : Vr) (b : Nat) (n : Int) (a0 a1 a2 a3 : Option Addr) (c0 c1 c2 c3 : Nat) (w : World) (hB : B <= w.heap.size) (hA : A.size <= 1048576) (I : qzr B w Q0u Q0s Q0w Q14 A) (hb : b < w.heap.size) (hc : w.cell? ⟨b, 0, none⟩ = some (.int .i64 n)) :
  Calls Tryz.prog 157 #[.agg Q01, .agg (hdC h).toArray, .agg #[.int .i64 m.next, .bool m.gone, .int .i64 m.stamp, .int .i64 m.prev, .int .i64 m.kind], .pointer (some ⟨b, 0, none⟩)] w fun e w' => e = .returned (.agg (hdC (qz1m h n)).toArray) /\ Below w.heap.size w w' := by
 have hA' := hA
 unfold Ar.size at hA
 have X0 := World.rangeAt_alloc (World.rangeAt_alloc (World.rangeAt_alloc (qz6 w Q0j 30) Q0f) Q0a) (.cells Q00 32)
 have H0 := World.rangeAt_alloc (World.rangeAt_alloc (qz6 Q26 (hdC h) 32) Q0a) (.cells Q00 32)
 have G0 := World.there_alloc (World.there_alloc (qz8 Q26 (hdC h).toArray 32 22 (by simp [hdC])) Q0a) (.cells Q00 32)
 have M0 := World.rangeAt_alloc Q1n (.cells Q00 32)
 have F0 := qz8 (((Q26).alloc Q0f).alloc Q0a) Q00 32 22 (by decide)
 have K0 := (((((Below.refl w.heap.size w).alloc (Nat.le_refl _) (.cells Q01 30)).alloc (by simp) Q0f).alloc (by simp <;> omega) Q0a).alloc (by simp <;> omega) (.cells Q00 32))
 have hz0 : w.heap.size + 1 + 1 + 1 < (Q1j).heap.size := by simp
 simp only [World.size_alloc] at H0 G0 M0 F0
 have I0 := I.below (K0.mono hB)
 go_enter Tryz.func157, Tryz.ntmps157
 have tok : True := trivial
 go_wp2_with (clear tok; refine qz1q Q1j ?_)
 generalize hw0 : (((Q26).alloc Q0f).alloc Q0a).alloc (.cells Q00 32) = w0 at *
 clear hw0 I
 show wpList _ _ _ _ _ w0
 have qc : w0.cell? ⟨b, 0, none⟩ = some (.int .i64 n) := (K0.cell (p := ⟨b, 0, none⟩) (by show b < w.heap.size; exact hb)).trans hc
 obtain ⟨H', hH⟩ : ∃ H' : Hd, Hid (H' = h) := by exact ⟨_, rfl⟩
 have hv : Hid (qz1m h n = qz1m H' n) := by show _ = _; rw [hH.out]; skip
 go_wp2_with (first | (refine wpList_load_mid rfl 32 (.tmp 5) rfl (w.heap.size + 1) 0 ?hxln79 (hdC H') _ ?hcn79 Tryz.underlying32 rfl (qz1 H') ?_))
 try (case hxln79 => rfl)
 case hcn79 => rw [hH.out]; exact H0
 refine (qz1g H' n _).mono ?_
 rintro e w9 ⟨rfl, b9⟩
 have F9 := qz2 F0 b9 (by first | omega | (simp; omega))
 have K9 := K0.trans (b9.mono (by first | omega | (simp; omega)))
 go_wp2_with (refine wpList_store_mid rfl 32 (.tmp 7) _ rfl Q15 0 (hdC (qz1m H' n)).toArray ?hxn79 ?hyn79 ?htn79 (qz7 _) (qzb _) ?_)
 try (case hxn79 => rfl)
 try (case hyn79 => rfl)
 case htn79 => exact F9
 refine bodyPost_ret (v := .agg (hdC (qz1m H' n)).toArray) ?_ rfl ⟨by rw [hv.out], ?_⟩
 ·exact qz3 Tryz.results157 _ _ Q15 0 rfl (hdC (qz1m H' n)) _ (World.rangeAt_setCells_same _ _ _ _ F9) Tryz.underlying32 rfl (qz1 _)
 ·exact Below.setCells (by omega) _ _ _ K9
theorem qzb2 (B : Nat) (A : Ar) (h : Hd) (m : Vr) (a0 a1 a2 a3 : Option Addr) (c0 c1 c2 c3 : Nat) (w : World) (hB : B <= w.heap.size) (hA : A.size <= 1048576) (I : qzr B w Q0u Q0s Q0w Q14 A) (hn0 : -1 <= h.new_) :
  Calls Tryz.prog 131 Q1v w fun e w' => e = .returned (.agg (hdC (qz75 A h m)).toArray) /\ Below w.heap.size w w' := by
 have hA' := hA
 unfold Ar.size at hA
 have X0 := World.rangeAt_alloc (World.rangeAt_alloc (World.rangeAt_alloc (qz6 w Q0j 30) Q0f) Q0a) (.cells Q00 32)
 have H0 := World.rangeAt_alloc (World.rangeAt_alloc (qz6 Q26 (hdC h) 32) Q0a) (.cells Q00 32)
 have G0 := World.there_alloc (World.there_alloc (qz8 Q26 (hdC h).toArray 32 22 (by simp [hdC])) Q0a) (.cells Q00 32)
 have M0 := World.rangeAt_alloc Q1n (.cells Q00 32)
 have F0 := qz8 (((Q26).alloc Q0f).alloc Q0a) Q00 32 22 (by decide)
 have K0 := (((((Below.refl w.heap.size w).alloc (Nat.le_refl _) (.cells Q01 30)).alloc (by simp) Q0f).alloc (by simp <;> omega) Q0a).alloc (by simp <;> omega) (.cells Q00 32))
 have hz0 : w.heap.size + 1 + 1 + 1 < (Q1j).heap.size := by simp
 simp only [World.size_alloc] at H0 G0 M0 F0
 have I0 := I.below (K0.mono hB)
 go_enter Tryz.func131, Tryz.ntmps131
 have tok : True := trivial
 go_wp2_with (clear tok; refine qz1q Q1j ?_)
 generalize hw0 : (((Q26).alloc Q0f).alloc Q0a).alloc (.cells Q00 32) = w0 at *
 clear hw0 I
 show wpList _ _ _ _ _ w0
 obtain ⟨x0, x1, x2, x3, x4⟩ := row5 X0
 obtain ⟨v0, v1, v2, v3, v4⟩ := row5 M0
 have e2 : ¬ (w.heap.size + 1 = w.heap.size) := by omega
 have e3 : ¬ (w.heap.size + 1 = w.heap.size + 1 + 1) := by omega
 have q10 : w0.cell? ⟨w.heap.size + 1, 10, none⟩ = some (.int .i64 h.x_) := by simpa using H0 10 (.int .i64 h.x_) rfl
 have q11 : w0.cell? ⟨w.heap.size + 1, 11, none⟩ = some (.int .i64 h.ver) := by simpa using H0 11 (.int .i64 h.ver) rfl
 have q14 : w0.cell? ⟨w.heap.size + 1, 14, none⟩ = some (.int .i64 h.pred) := by simpa using H0 14 (.int .i64 h.pred) rfl
 have q15 : w0.cell? ⟨w.heap.size + 1, 15, none⟩ = some (.int .i64 h.predVer) := by simpa using H0 15 (.int .i64 h.predVer) rfl
 have f10 : w0.frozen? ⟨w.heap.size + 1, 10, none⟩ = false := by simpa using (G0 10 (by decide)).2
 have f14 : w0.frozen? ⟨w.heap.size + 1, 14, none⟩ = false := by simpa using (G0 14 (by decide)).2
 have f15 : w0.frozen? ⟨w.heap.size + 1, 15, none⟩ = false := by simpa using (G0 15 (by decide)).2
 cases kg : m.gone
 case true =>
  obtain ⟨H', hH⟩ : ∃ H' : Hd, Hid (H' = { h with x_ := 0 }) := by exact ⟨_, rfl⟩
  have hv : Hid (qz75 A h m = qz1m H' 2) := by show _ = _; rw [hH.out]; simp [qz75, kg, qz1m]
  go_wp2_with (first | (refine wpList_load_mid rfl 32 (.tmp 4) rfl (w.heap.size + 1) 0 ?hxln80 (hdC H') _ ?hcn80 Tryz.underlying32 rfl (qz1 H') ?_))
  try (case hxln80 => rfl)
  case hcn80 => rw [hH.out]; exact (qzc H0 10 (by simp [hdC]) _)
  refine (qz1g H' 2 _).mono ?_
  rintro e w9 ⟨rfl, b9⟩
  have F9 := qz2 (qz5 F0 _ _) b9 (by first | omega | (simp; omega))
  have K9 := (Below.setCell K0 (p := ⟨w.heap.size + 1, 10, none⟩) (by show w.heap.size <= w.heap.size + 1; omega) _).trans (b9.mono (by first | omega | (simp; omega)))
  go_wp2_with (refine wpList_store_mid rfl 32 (.tmp 6) _ rfl Q15 0 (hdC (qz1m H' 2)).toArray ?hxn80 ?hyn80 ?htn80 (qz7 _) (qzb _) ?_)
  try (case hxn80 => rfl)
  try (case hyn80 => rfl)
  case htn80 => exact F9
  refine bodyPost_ret (v := .agg (hdC (qz1m H' 2)).toArray) ?_ rfl ⟨by rw [hv.out], ?_⟩
  ·exact qz3 Tryz.results131 _ _ Q15 0 rfl (hdC (qz1m H' 2)) _ (World.rangeAt_setCells_same _ _ _ _ F9) Tryz.underlying32 rfl (qz1 _)
  ·exact Below.setCells (by omega) _ _ _ K9
 obtain ⟨H', hH⟩ : ∃ H' : Hd, Hid (H' = { h with pred := h.x_, predVer := h.ver }) := by exact ⟨_, rfl⟩
 have hv : Hid (qz75 A h m = qz2s A H' m.next) := by show _ = _; rw [hH.out]; simp [qz75, kg]
 go_wp2_with (first | (refine wpList_load_mid rfl 32 (.tmp 4) rfl (w.heap.size + 1) 0 ?hxln81 (hdC H') _ ?hcn81 Tryz.underlying32 rfl (qz1 H') ?_))
 try (case hxln81 => rfl)
 case hcn81 => rw [hH.out]; exact (qzc (qzc H0 14 (by simp [hdC]) _) 15 (by simp [hdC]) _)
 refine (qz4x B A H' m.next _ _ _ _ _ _ _ _ _ (by first | omega | (simp; omega)) hA' (I0.below (Below.setCell (Below.setCell (Below.refl B w0) (p := ⟨w.heap.size + 1, 14, none⟩) (by show B <= w.heap.size + 1; omega) _) (p := ⟨w.heap.size + 1, 15, none⟩) (by show B <= w.heap.size + 1; omega) _)) (by rw [hH.out]; exact hn0)).mono ?_
 rintro e w9 ⟨rfl, b9⟩
 have F9 := qz2 (qz5 (qz5 F0 _ _) _ _) b9 (by first | omega | (simp; omega))
 have K9 := (Below.setCell (Below.setCell K0 (p := ⟨w.heap.size + 1, 14, none⟩) (by show w.heap.size <= w.heap.size + 1; omega) _) (p := ⟨w.heap.size + 1, 15, none⟩) (by show w.heap.size <= w.heap.size + 1; omega) _).trans (b9.mono (by first | omega | (simp; omega)))
 go_wp2_with (refine wpList_store_mid rfl 32 (.tmp 6) _ rfl Q15 0 (hdC (qz2s A H' m.next)).toArray ?hxn81 ?hyn81 ?htn81 (qz7 _) (qzb _) ?_)
 try (case hxn81 => rfl)
 try (case hyn81 => rfl)
 case htn81 => exact F9
 refine bodyPost_ret (v := .agg (hdC (qz2s A H' m.next)).toArray) ?_ rfl ⟨by rw [hv.out], ?_⟩
 ·exact qz3 Tryz.results131 _ _ Q15 0 rfl (hdC (qz2s A H' m.next)) _ (World.rangeAt_setCells_same _ _ _ _ F9) Tryz.underlying32 rfl (qz1 _)
 ·exact Below.setCells (by omega) _ _ _ K9
theorem qz9d (B : Nat) (A : Ar) (h : Hd) (m : Vr) (a0 a1 a2 a3 : Option Addr) (c0 c1 c2 c3 : Nat) (w : World) (hB : B <= w.heap.size) (hA : A.size <= 1048576) (I : qzr B w Q0u Q0s Q0w Q14 A) (hn0 : -1 <= h.new_) :
  Calls Tryz.prog 133 Q1v w fun e w' => e = .returned (.agg (hdC (qz2s A { h with predVer := h.ver } m.next)).toArray) /\ Below w.heap.size w w' := by
 have hA' := hA
 unfold Ar.size at hA
 have X0 := World.rangeAt_alloc (World.rangeAt_alloc (World.rangeAt_alloc (qz6 w Q0j 30) Q0f) Q0a) (.cells Q00 32)
 have H0 := World.rangeAt_alloc (World.rangeAt_alloc (qz6 Q26 (hdC h) 32) Q0a) (.cells Q00 32)
 have G0 := World.there_alloc (World.there_alloc (qz8 Q26 (hdC h).toArray 32 22 (by simp [hdC])) Q0a) (.cells Q00 32)
 have M0 := World.rangeAt_alloc Q1n (.cells Q00 32)
 have F0 := qz8 (((Q26).alloc Q0f).alloc Q0a) Q00 32 22 (by decide)
 have K0 := (((((Below.refl w.heap.size w).alloc (Nat.le_refl _) (.cells Q01 30)).alloc (by simp) Q0f).alloc (by simp <;> omega) Q0a).alloc (by simp <;> omega) (.cells Q00 32))
 have hz0 : w.heap.size + 1 + 1 + 1 < (Q1j).heap.size := by simp
 simp only [World.size_alloc] at H0 G0 M0 F0
 have I0 := I.below (K0.mono hB)
 go_enter Tryz.func133, Tryz.ntmps133
 have tok : True := trivial
 go_wp2_with (clear tok; refine qz1q Q1j ?_)
 generalize hw0 : (((Q26).alloc Q0f).alloc Q0a).alloc (.cells Q00 32) = w0 at *
 clear hw0 I
 show wpList _ _ _ _ _ w0
 obtain ⟨x0, x1, x2, x3, x4⟩ := row5 X0
 obtain ⟨v0, v1, v2, v3, v4⟩ := row5 M0
 have e2 : ¬ (w.heap.size + 1 = w.heap.size) := by omega
 have e3 : ¬ (w.heap.size + 1 = w.heap.size + 1 + 1) := by omega
 have q11 : w0.cell? ⟨w.heap.size + 1, 11, none⟩ = some (.int .i64 h.ver) := by simpa using H0 11 (.int .i64 h.ver) rfl
 have q15 : w0.cell? ⟨w.heap.size + 1, 15, none⟩ = some (.int .i64 h.predVer) := by simpa using H0 15 (.int .i64 h.predVer) rfl
 have f15 : w0.frozen? ⟨w.heap.size + 1, 15, none⟩ = false := by simpa using (G0 15 (by decide)).2
 obtain ⟨H', hH⟩ : ∃ H' : Hd, Hid (H' = { h with predVer := h.ver }) := by exact ⟨_, rfl⟩
 have hv : Hid (qz2s A { h with predVer := h.ver } m.next = qz2s A H' m.next) := by show _ = _; rw [hH.out]; skip
 go_wp2_with (first | (refine wpList_load_mid rfl 32 (.tmp 4) rfl (w.heap.size + 1) 0 ?hxln82 (hdC H') _ ?hcn82 Tryz.underlying32 rfl (qz1 H') ?_))
 try (case hxln82 => rfl)
 case hcn82 => rw [hH.out]; exact (qzc H0 15 (by simp [hdC]) _)
 refine (qz4x B A H' m.next _ _ _ _ _ _ _ _ _ (by first | omega | (simp; omega)) hA' (I0.below (Below.setCell (Below.refl B w0) (p := ⟨w.heap.size + 1, 15, none⟩) (by show B <= w.heap.size + 1; omega) _)) (by rw [hH.out]; exact hn0)).mono ?_
 rintro e w9 ⟨rfl, b9⟩
 have F9 := qz2 (qz5 F0 _ _) b9 (by first | omega | (simp; omega))
 have K9 := (Below.setCell K0 (p := ⟨w.heap.size + 1, 15, none⟩) (by show w.heap.size <= w.heap.size + 1; omega) _).trans (b9.mono (by first | omega | (simp; omega)))
 go_wp2_with (refine wpList_store_mid rfl 32 (.tmp 6) _ rfl Q15 0 (hdC (qz2s A H' m.next)).toArray ?hxn82 ?hyn82 ?htn82 (qz7 _) (qzb _) ?_)
 try (case hxn82 => rfl)
 try (case hyn82 => rfl)
 case htn82 => exact F9
 refine bodyPost_ret (v := .agg (hdC (qz2s A H' m.next)).toArray) ?_ rfl ⟨by rw [hv.out], ?_⟩
 ·exact qz3 Tryz.results133 _ _ Q15 0 rfl (hdC (qz2s A H' m.next)) _ (World.rangeAt_setCells_same _ _ _ _ F9) Tryz.underlying32 rfl (qz1 _)
 ·exact Below.setCells (by omega) _ _ _ K9
theorem qzbe (B : Nat) (A : Ar) (h : Hd) (m : Vr) (a0 a1 a2 a3 : Option Addr) (c0 c1 c2 c3 : Nat) (w : World) (hB : B <= w.heap.size) (hA : A.size <= 1048576) (I : qzr B w Q0u Q0s Q0w Q14 A)  :
  Calls Tryz.prog 135 Q1v w fun e w' => e = .returned (.agg (hdC (qzcu h m)).toArray) /\ Below w.heap.size w w' := by
 have hA' := hA
 unfold Ar.size at hA
 have X0 := World.rangeAt_alloc (World.rangeAt_alloc (World.rangeAt_alloc (qz6 w Q0j 30) Q0f) Q0a) (.cells Q00 32)
 have H0 := World.rangeAt_alloc (World.rangeAt_alloc (qz6 Q26 (hdC h) 32) Q0a) (.cells Q00 32)
 have G0 := World.there_alloc (World.there_alloc (qz8 Q26 (hdC h).toArray 32 22 (by simp [hdC])) Q0a) (.cells Q00 32)
 have M0 := World.rangeAt_alloc Q1n (.cells Q00 32)
 have F0 := qz8 (((Q26).alloc Q0f).alloc Q0a) Q00 32 22 (by decide)
 have K0 := (((((Below.refl w.heap.size w).alloc (Nat.le_refl _) (.cells Q01 30)).alloc (by simp) Q0f).alloc (by simp <;> omega) Q0a).alloc (by simp <;> omega) (.cells Q00 32))
 have hz0 : w.heap.size + 1 + 1 + 1 < (Q1j).heap.size := by simp
 simp only [World.size_alloc] at H0 G0 M0 F0
 have I0 := I.below (K0.mono hB)
 go_enter Tryz.func135, Tryz.ntmps135
 have tok : True := trivial
 go_wp2_with (clear tok; refine qz1q Q1j ?_)
 generalize hw0 : (((Q26).alloc Q0f).alloc Q0a).alloc (.cells Q00 32) = w0 at *
 clear hw0 I
 show wpList _ _ _ _ _ w0
 obtain ⟨v0, v1, v2, v3, v4⟩ := row5 M0
 have q19 : w0.cell? ⟨w.heap.size + 1, 19, none⟩ = some (.int .i64 h.least) := by simpa using H0 19 (.int .i64 h.least) rfl
 by_cases ks : m.stamp <= h.least
 ·obtain ⟨H', hH⟩ : ∃ H' : Hd, Hid (H' = h) := by exact ⟨_, rfl⟩
  have hv : Hid (qzcu h m = qz1m H' 23) := by show _ = _; rw [hH.out]; simp [qzcu, ks, qz1m]
  go_wp2_with (first | (refine wpList_load_mid rfl 32 (.tmp 4) rfl (w.heap.size + 1) 0 ?hxln83 (hdC H') _ ?hcn83 Tryz.underlying32 rfl (qz1 H') ?_))
  try (case hxln83 => rfl)
  case hcn83 => rw [hH.out]; exact H0
  refine (qz1g H' 23 _).mono ?_
  rintro e w9 ⟨rfl, b9⟩
  have F9 := qz2 F0 b9 (by first | omega | (simp; omega))
  have K9 := K0.trans (b9.mono (by first | omega | (simp; omega)))
  go_wp2_with (refine wpList_store_mid rfl 32 (.tmp 6) _ rfl Q15 0 (hdC (qz1m H' 23)).toArray ?hxn83 ?hyn83 ?htn83 (qz7 _) (qzb _) ?_)
  try (case hxn83 => rfl)
  try (case hyn83 => rfl)
  case htn83 => exact F9
  refine bodyPost_ret (v := .agg (hdC (qz1m H' 23)).toArray) ?_ rfl ⟨by rw [hv.out], ?_⟩
  ·exact qz3 Tryz.results135 _ _ Q15 0 rfl (hdC (qz1m H' 23)) _ (World.rangeAt_setCells_same _ _ _ _ F9) Tryz.underlying32 rfl (qz1 _)
  ·exact Below.setCells (by omega) _ _ _ K9
 obtain ⟨H', hH⟩ : ∃ H' : Hd, Hid (H' = h) := by exact ⟨_, rfl⟩
 have hv : Hid (qzcu h m = qz1m H' 22) := by show _ = _; rw [hH.out]; simp [qzcu, ks, qz1m]
 go_wp2_with (first | (refine wpList_load_mid rfl 32 (.tmp 4) rfl (w.heap.size + 1) 0 ?hxln84 (hdC H') _ ?hcn84 Tryz.underlying32 rfl (qz1 H') ?_))
 try (case hxln84 => rfl)
 case hcn84 => rw [hH.out]; exact H0
 refine (qz1g H' 22 _).mono ?_
 rintro e w9 ⟨rfl, b9⟩
 have F9 := qz2 F0 b9 (by first | omega | (simp; omega))
 have K9 := K0.trans (b9.mono (by first | omega | (simp; omega)))
 go_wp2_with (refine wpList_store_mid rfl 32 (.tmp 6) _ rfl Q15 0 (hdC (qz1m H' 22)).toArray ?hxn84 ?hyn84 ?htn84 (qz7 _) (qzb _) ?_)
 try (case hxn84 => rfl)
 try (case hyn84 => rfl)
 case htn84 => exact F9
 refine bodyPost_ret (v := .agg (hdC (qz1m H' 22)).toArray) ?_ rfl ⟨by rw [hv.out], ?_⟩
 ·exact qz3 Tryz.results135 _ _ Q15 0 rfl (hdC (qz1m H' 22)) _ (World.rangeAt_setCells_same _ _ _ _ F9) Tryz.underlying32 rfl (qz1 _)
 ·exact Below.setCells (by omega) _ _ _ K9
theorem qz83 (B : Nat) (A : Ar) (h : Hd) (m : Vr) (a0 a1 a2 a3 : Option Addr) (c0 c1 c2 c3 : Nat) (w : World) (hB : B <= w.heap.size) (hA : A.size <= 1048576) (I : qzr B w Q0u Q0s Q0w Q14 A) (hvm : vrOf A h.ver = m) (hx0 : 0 <= h.x_) (hx1 : h.x_ < (A.nodes.length : Int)) (hm0 : -1 <= m.next) (hm1 : m.next < (A.nodes.length : Int)) (ho0 : 0 <= h.out) (ho1 : h.out <= 1000000) (hs0 : 0 <= h.sum) (hs1 : h.sum <= 1000000) (hval : ∀ n (hn : n < A.nodes.length), 0 <= A.nodes[n].value /\ A.nodes[n].value <= 9999) :
  Calls Tryz.prog 134 Q1v w fun e w' => e = .returned (.agg (hdC (qz57 A h m)).toArray) /\ Below w.heap.size w w' := by
 have hA' := hA
 unfold Ar.size at hA
 have X0 := World.rangeAt_alloc (World.rangeAt_alloc (World.rangeAt_alloc (qz6 w Q0j 30) Q0f) Q0a) (.cells Q00 32)
 have H0 := World.rangeAt_alloc (World.rangeAt_alloc (qz6 Q26 (hdC h) 32) Q0a) (.cells Q00 32)
 have G0 := World.there_alloc (World.there_alloc (qz8 Q26 (hdC h).toArray 32 22 (by simp [hdC])) Q0a) (.cells Q00 32)
 have M0 := World.rangeAt_alloc Q1n (.cells Q00 32)
 have F0 := qz8 (((Q26).alloc Q0f).alloc Q0a) Q00 32 22 (by decide)
 have K0 := (((((Below.refl w.heap.size w).alloc (Nat.le_refl _) (.cells Q01 30)).alloc (by simp) Q0f).alloc (by simp <;> omega) Q0a).alloc (by simp <;> omega) (.cells Q00 32))
 have hz0 : w.heap.size + 1 + 1 + 1 < (Q1j).heap.size := by simp
 simp only [World.size_alloc] at H0 G0 M0 F0
 have I0 := I.below (K0.mono hB)
 go_enter Tryz.func134, Tryz.ntmps134
 have tok : True := trivial
 go_wp2_with (clear tok; refine qz1q Q1j ?_)
 generalize hw0 : (((Q26).alloc Q0f).alloc Q0a).alloc (.cells Q00 32) = w0 at *
 clear hw0 I
 show wpList _ _ _ _ _ w0
 obtain ⟨x0, x1, x2, x3, x4⟩ := row5 X0
 obtain ⟨v0, v1, v2, v3, v4⟩ := row5 M0
 have q9 : w0.cell? ⟨w.heap.size + 1, 9, none⟩ = some (.int .i64 h.held) := by simpa using H0 9 (.int .i64 h.held) rfl
 by_cases ks : m.stamp <= h.held
 ·obtain ⟨H', hH⟩ : ∃ H' : Hd, Hid (H' = h) := by exact ⟨_, rfl⟩
  have hv : Hid (qz57 A h m = useH A H') := by show _ = _; rw [hH.out]; simp [qz57, ks]
  go_wp2_with (first | (refine wpList_load_mid rfl 32 (.tmp 4) rfl (w.heap.size + 1) 0 ?hxln85 (hdC H') _ ?hcn85 Tryz.underlying32 rfl (qz1 H') ?_))
  try (case hxln85 => rfl)
  case hcn85 => rw [hH.out]; exact H0
  refine (qzeh B A H' m _ _ _ _ _ _ _ _ _ (by first | omega | (simp; omega)) hA' (I0.below (Below.refl B w0)) (by rw [hH.out]; exact hvm) (by rw [hH.out]; exact hx0) (by rw [hH.out]; exact hx1) hm0 hm1 (by rw [hH.out]; exact ho0) (by rw [hH.out]; exact ho1) (by rw [hH.out]; exact hs0) (by rw [hH.out]; exact hs1) hval).mono ?_
  rintro e w9 ⟨rfl, b9⟩
  have F9 := qz2 F0 b9 (by first | omega | (simp; omega))
  have K9 := K0.trans (b9.mono (by first | omega | (simp; omega)))
  go_wp2_with (refine wpList_store_mid rfl 32 (.tmp 6) _ rfl Q15 0 (hdC (useH A H')).toArray ?hxn85 ?hyn85 ?htn85 (qz7 _) (qzb _) ?_)
  try (case hxn85 => rfl)
  try (case hyn85 => rfl)
  case htn85 => exact F9
  refine bodyPost_ret (v := .agg (hdC (useH A H')).toArray) ?_ rfl ⟨by rw [hv.out], ?_⟩
  ·exact qz3 Tryz.results134 _ _ Q15 0 rfl (hdC (useH A H')) _ (World.rangeAt_setCells_same _ _ _ _ F9) Tryz.underlying32 rfl (qz1 _)
  ·exact Below.setCells (by omega) _ _ _ K9
 obtain ⟨H', hH⟩ : ∃ H' : Hd, Hid (H' = h) := by exact ⟨_, rfl⟩
 have hv : Hid (qz57 A h m = qz1m H' 19) := by show _ = _; rw [hH.out]; simp [qz57, ks, qz1m]
 go_wp2_with (first | (refine wpList_load_mid rfl 32 (.tmp 4) rfl (w.heap.size + 1) 0 ?hxln86 (hdC H') _ ?hcn86 Tryz.underlying32 rfl (qz1 H') ?_))
 try (case hxln86 => rfl)
 case hcn86 => rw [hH.out]; exact H0
 refine (qz1g H' 19 _).mono ?_
 rintro e w9 ⟨rfl, b9⟩
 have F9 := qz2 F0 b9 (by first | omega | (simp; omega))
 have K9 := K0.trans (b9.mono (by first | omega | (simp; omega)))
 go_wp2_with (refine wpList_store_mid rfl 32 (.tmp 6) _ rfl Q15 0 (hdC (qz1m H' 19)).toArray ?hxn86 ?hyn86 ?htn86 (qz7 _) (qzb _) ?_)
 try (case hxn86 => rfl)
 try (case hyn86 => rfl)
 case htn86 => exact F9
 refine bodyPost_ret (v := .agg (hdC (qz1m H' 19)).toArray) ?_ rfl ⟨by rw [hv.out], ?_⟩
 ·exact qz3 Tryz.results134 _ _ Q15 0 rfl (hdC (qz1m H' 19)) _ (World.rangeAt_setCells_same _ _ _ _ F9) Tryz.underlying32 rfl (qz1 _)
 ·exact Below.setCells (by omega) _ _ _ K9
theorem qz9g (B : Nat) (A : Ar) (h : Hd) (m : Vr) (a0 a1 a2 a3 : Option Addr) (c0 c1 c2 c3 : Nat) (w : World) (hB : B <= w.heap.size) (hA : A.size <= 1048576) (I : qzr B w Q0u Q0s Q0w Q14 A) (hc0 : -1 <= h.curr) (hcu : h.curr < (A.nodes.length : Int)) (hn0 : -1 <= h.new_) :
  Calls Tryz.prog 132 Q1v w fun e w' => e = .returned (.agg (hdC (goH A h m)).toArray) /\ Below w.heap.size w w' := by
 have hA' := hA
 unfold Ar.size at hA
 have X0 := World.rangeAt_alloc (World.rangeAt_alloc (World.rangeAt_alloc (qz6 w Q0j 30) Q0f) Q0a) (.cells Q00 32)
 have H0 := World.rangeAt_alloc (World.rangeAt_alloc (qz6 Q26 (hdC h) 32) Q0a) (.cells Q00 32)
 have G0 := World.there_alloc (World.there_alloc (qz8 Q26 (hdC h).toArray 32 22 (by simp [hdC])) Q0a) (.cells Q00 32)
 have M0 := World.rangeAt_alloc Q1n (.cells Q00 32)
 have F0 := qz8 (((Q26).alloc Q0f).alloc Q0a) Q00 32 22 (by decide)
 have K0 := (((((Below.refl w.heap.size w).alloc (Nat.le_refl _) (.cells Q01 30)).alloc (by simp) Q0f).alloc (by simp <;> omega) Q0a).alloc (by simp <;> omega) (.cells Q00 32))
 have hz0 : w.heap.size + 1 + 1 + 1 < (Q1j).heap.size := by simp
 simp only [World.size_alloc] at H0 G0 M0 F0
 have I0 := I.below (K0.mono hB)
 go_enter Tryz.func132, Tryz.ntmps132
 have tok : True := trivial
 go_wp2_with (clear tok; refine qz1q Q1j ?_)
 generalize hw0 : (((Q26).alloc Q0f).alloc Q0a).alloc (.cells Q00 32) = w0 at *
 clear hw0 I
 show wpList _ _ _ _ _ w0
 have e2 : ¬ (w.heap.size + 1 = w.heap.size) := by omega
 have e3 : ¬ (w.heap.size + 1 = w.heap.size + 1 + 1) := by omega
 have q11 : w0.cell? ⟨w.heap.size + 1, 11, none⟩ = some (.int .i64 h.ver) := by simpa using H0 11 (.int .i64 h.ver) rfl
 have q17 : w0.cell? ⟨w.heap.size + 1, 17, none⟩ = some (.int .i64 h.currVer) := by simpa using H0 17 (.int .i64 h.currVer) rfl
 have f17 : w0.frozen? ⟨w.heap.size + 1, 17, none⟩ = false := by simpa using (G0 17 (by decide)).2
 obtain ⟨g, hg⟩ : ∃ g : Hd, Hid (g = { h with currVer := h.ver }) := by exact ⟨_, rfl⟩
 have tok : True := trivial
 go_wp2_with (clear tok; refine qz1q (w0.setCell ⟨w.heap.size + 1, 17, none⟩ (.int .i64 h.ver)) ?_)
 have X1 := qz1j X0 (a := ⟨w.heap.size + 1, 17, none⟩) (by show w.heap.size + 1 ≠ w.heap.size; omega) (.int .i64 h.ver)
 have M1 := qz1j M0 (a := ⟨w.heap.size + 1, 17, none⟩) (by show w.heap.size + 1 ≠ w.heap.size + 1 + 1; omega) (.int .i64 h.ver)
 have H1 : (w0.setCell ⟨w.heap.size + 1, 17, none⟩ (.int .i64 h.ver)).rangeAt (w.heap.size + 1) 0 (hdC g) := by rw [hg.out]; exact qzc H0 17 (by simp [hdC]) _
 have G1 := qz5 G0 ⟨w.heap.size + 1, 17, none⟩ (.int .i64 h.ver)
 have F1 := qz5 F0 ⟨w.heap.size + 1, 17, none⟩ (.int .i64 h.ver)
 have K1 := Below.setCell K0 (p := ⟨w.heap.size + 1, 17, none⟩) (by show w.heap.size <= w.heap.size + 1; omega) (.int .i64 h.ver)
 have I1 := I0.below (Below.setCell (Below.refl B w0) (p := ⟨w.heap.size + 1, 17, none⟩) (by show B <= w.heap.size + 1; omega) (.int .i64 h.ver))
 have hz1 : w.heap.size + 1 + 1 + 1 < (w0.setCell ⟨w.heap.size + 1, 17, none⟩ (.int .i64 h.ver)).heap.size := by rw [World.size_setCell]; exact hz0
 generalize hw1 : w0.setCell ⟨w.heap.size + 1, 17, none⟩ (.int .i64 h.ver) = w1 at *
 show wpList _ _ _ _ _ w1
 clear hw1 X0 M0 H0 G0 F0 K0 I0 hz0 q11 q17 f17
 have gcur : g.curr = h.curr := by rw [hg.out]
 have gkey : g.key = h.key := by rw [hg.out]
 have gnew : -1 <= g.new_ := by rw [hg.out]; exact hn0
 have gver : g.currVer = h.ver := by rw [hg.out]
 obtain ⟨x0, x1, x2, x3, x4⟩ := row5 X1
 obtain ⟨v0, v1, v2, v3, v4⟩ := row5 M1
 have q3 : w1.cell? ⟨w.heap.size + 1, 3, none⟩ = some (.int .i64 g.key) := by simpa using H1 3 (.int .i64 g.key) rfl
 have q16 : w1.cell? ⟨w.heap.size + 1, 16, none⟩ = some (.int .i64 g.curr) := by simpa using H1 16 (.int .i64 g.curr) rfl
 have gcH : Hid (g.curr = h.curr) := gcur
 have gkH : Hid (g.key = h.key) := gkey
 clear gver gkey
 cases kg : m.gone
 case true =>
  clear gcur
  obtain ⟨H', hH⟩ : ∃ H' : Hd, Hid (H' = g) := by exact ⟨_, rfl⟩
  have hv : Hid (goH A h m = qz1m H' 6) := by show _ = _; rw [hH.out]; rw [hg.out]; simp [goH, kg, qz1m]
  go_wp2_with (first | (refine wpList_load_mid rfl 32 (.tmp 4) rfl (w.heap.size + 1) 0 ?hxln87 (hdC H') _ ?hcn87 Tryz.underlying32 rfl (qz1 H') ?_))
  try (case hxln87 => rfl)
  case hcn87 => rw [hH.out]; exact H1
  refine (qz1g H' 6 _).mono ?_
  rintro e w9 ⟨rfl, b9⟩
  have F9 := qz2 F1 b9 (by first | omega | (simp; omega))
  have K9 := K1.trans (b9.mono (by first | omega | (simp; omega)))
  go_wp2_with (refine wpList_store_mid rfl 32 (.tmp 6) _ rfl Q15 0 (hdC (qz1m H' 6)).toArray ?hxn87 ?hyn87 ?htn87 (qz7 _) (qzb _) ?_)
  try (case hxn87 => rfl)
  try (case hyn87 => rfl)
  case htn87 => exact F9
  refine bodyPost_ret (v := .agg (hdC (qz1m H' 6)).toArray) ?_ rfl ⟨by rw [hv.out], ?_⟩
  ·exact qz3 Tryz.results132 _ _ Q15 0 rfl (hdC (qz1m H' 6)) _ (World.rangeAt_setCells_same _ _ _ _ F9) Tryz.underlying32 rfl (qz1 _)
  ·exact Below.setCells (by omega) _ _ _ K9
 go_upto_region 4 with fail
 by_cases hcm : g.curr = -1
 case pos =>
  rw [hcm] at q16
  go_quiet (fail)
  have X2 : (w1.drewN nq).rangeAt w.heap.size 0 Q0j := X1
  have H2 : (w1.drewN nq).rangeAt (w.heap.size + 1) 0 (hdC g) := H1
  have G2 : (w1.drewN nq).there (w.heap.size + 1) 0 22 := G1
  have F2 : (w1.drewN nq).there Q15 0 22 := F1
  have M2 : (w1.drewN nq).rangeAt (w.heap.size + 1 + 1) 0 [.int .i64 m.next, .bool m.gone, .int .i64 m.stamp, .int .i64 m.prev, .int .i64 m.kind] := M1
  have K2 : Below w.heap.size w (w1.drewN nq) := ⟨K1.os, K1.tape, K1.output, K1.size, K1.block⟩
  have hz2 : w.heap.size + 1 + 1 + 1 < (w1.drewN nq).heap.size := hz1
  have I2 : qzr B (w1.drewN nq) Q0u Q0s Q0w Q14 A := I1.below ⟨rfl, rfl, rfl, Nat.le_refl _, fun _ _ => rfl⟩
  generalize hw2 : w1.drewN nq = w2 at *
  clear hw2 X1 H1 G1 F1 M1 K1 hz1 I1 x0 x1 x2 x3 x4 v0 v1 v2 v3 v4 q3 q16
  obtain ⟨x0, x1, x2, x3, x4⟩ := row5 X2
  obtain ⟨v0, v1, v2, v3, v4⟩ := row5 M2
  have q14 : w2.cell? ⟨w.heap.size + 1, 14, none⟩ = some (.int .i64 g.pred) := by simpa using H2 14 (.int .i64 g.pred) rfl
  have q15 : w2.cell? ⟨w.heap.size + 1, 15, none⟩ = some (.int .i64 g.predVer) := by simpa using H2 15 (.int .i64 g.predVer) rfl
  have q16 : w2.cell? ⟨w.heap.size + 1, 16, none⟩ = some (.int .i64 g.curr) := by simpa using H2 16 (.int .i64 g.curr) rfl
  have q17 : w2.cell? ⟨w.heap.size + 1, 17, none⟩ = some (.int .i64 g.currVer) := by simpa using H2 17 (.int .i64 g.currVer) rfl
  have f14 : w2.frozen? ⟨w.heap.size + 1, 14, none⟩ = false := by simpa using (G2 14 (by decide)).2
  have f15 : w2.frozen? ⟨w.heap.size + 1, 15, none⟩ = false := by simpa using (G2 15 (by decide)).2
  rw [hcm] at q16
  clear gcur
  obtain ⟨H', hH⟩ : ∃ H' : Hd, Hid (H' = { g with pred := 0, predVer := g.currVer }) := by exact ⟨_, rfl⟩
  have hv : Hid (goH A h m = qz2s A H' m.next) := by show _ = _; rw [hH.out]; have hc1 := gcH.out; rw [hcm] at hc1; rw [hg.out]; simp [goH, kg, <- hc1, (by decide : max (-1 : Int) 0 = 0)]
  go_wp2_with (first | (refine wpList_load_mid rfl 32 (.tmp 4) rfl (w.heap.size + 1) 0 ?hxln88 (hdC H') _ ?hcn88 Tryz.underlying32 rfl (qz1 H') ?_))
  try (case hxln88 => rfl)
  case hcn88 => rw [hH.out]; exact (qzc (qzc H2 14 (by simp [hdC]) _) 15 (by simp [hdC]) _)
  refine (qz4x B A H' m.next _ _ _ _ _ _ _ _ _ (by first | omega | (simp; omega)) hA' (I2.below (Below.setCell (Below.setCell (Below.refl B w2) (p := ⟨w.heap.size + 1, 14, none⟩) (by show B <= w.heap.size + 1; omega) _) (p := ⟨w.heap.size + 1, 15, none⟩) (by show B <= w.heap.size + 1; omega) _)) (by rw [hH.out]; exact gnew)).mono ?_
  rintro e w9 ⟨rfl, b9⟩
  have F9 := qz2 (qz5 (qz5 F2 _ _) _ _) b9 (by first | omega | (simp; omega))
  have K9 := (Below.setCell (Below.setCell K2 (p := ⟨w.heap.size + 1, 14, none⟩) (by show w.heap.size <= w.heap.size + 1; omega) _) (p := ⟨w.heap.size + 1, 15, none⟩) (by show w.heap.size <= w.heap.size + 1; omega) _).trans (b9.mono (by first | omega | (simp; omega)))
  go_wp2_with (refine wpList_store_mid rfl 32 (.tmp 6) _ rfl Q15 0 (hdC (qz2s A H' m.next)).toArray ?hxn88 ?hyn88 ?htn88 (qz7 _) (qzb _) ?_)
  try (case hxn88 => rfl)
  try (case hyn88 => rfl)
  case htn88 => exact F9
  refine bodyPost_ret (v := .agg (hdC (qz2s A H' m.next)).toArray) ?_ rfl ⟨by rw [hv.out], ?_⟩
  ·exact qz3 Tryz.results132 _ _ Q15 0 rfl (hdC (qz2s A H' m.next)) _ (World.rangeAt_setCells_same _ _ _ _ F9) Tryz.underlying32 rfl (qz1 _)
  ·exact Below.setCells (by omega) _ _ _ K9
 obtain ⟨n, hn⟩ : ∃ n : Nat, g.curr = n := ⟨g.curr.toNat, by omega⟩
 have hnl : n < A.nodes.length := by omega
 have hnl' : (n : Int) < (A.nodes.length : Int) := by omega
 have hnl0 : (0 : Int) <= (n : Int) := by omega
 have hn3 : ¬ ((n : Int) < 0) := by omega
 have bm : ((n : Int) != -1) = true := by simp <;> omega
 have bm' : ((n : Int) == -1) = false := by simp <;> omega
 obtain ⟨bn, on, rfl, hbn, RN⟩ := qzt.at I1.n (by omega)
 have m0 : w1.cell? ⟨bn, on + n * 3, none⟩ = some (.int .i64 A.nodes[n].key) := by simpa using (qzi (sz := 3) (fun _ => rfl) RN n hnl) 0 _ rfl
 rw [hn] at q16
 have hnH : Hid (g.curr = n) := hn
 have hcH : Hid (h.curr = n) := by show _ = _; rw [<- gcur]; exact hn
 clear RN hn gcur hcm
 by_cases kk : g.key <= A.nodes[n].key
 case neg =>
  have kkH : Hid (¬ (h.key <= A.nodes[n].key)) := by show ¬ _; rw [<- gkH.out]; exact kk
  go_quiet (fail)
  have X2 : (w1.drewN nq).rangeAt w.heap.size 0 [.int .i64 A.camera, .slice a0 A.slots.length c0, .slice a1 A.guides.length c1, .slice (some ⟨bn, on, none⟩) A.nodes.length c2, .slice a3 A.vers.length c3] := X1
  have H2 : (w1.drewN nq).rangeAt (w.heap.size + 1) 0 (hdC g) := H1
  have G2 : (w1.drewN nq).there (w.heap.size + 1) 0 22 := G1
  have F2 : (w1.drewN nq).there Q15 0 22 := F1
  have M2 : (w1.drewN nq).rangeAt (w.heap.size + 1 + 1) 0 [.int .i64 m.next, .bool m.gone, .int .i64 m.stamp, .int .i64 m.prev, .int .i64 m.kind] := M1
  have K2 : Below w.heap.size w (w1.drewN nq) := ⟨K1.os, K1.tape, K1.output, K1.size, K1.block⟩
  have hz2 : w.heap.size + 1 + 1 + 1 < (w1.drewN nq).heap.size := hz1
  have I2 : qzr B (w1.drewN nq) Q0u Q0s (.slice (some ⟨bn, on, none⟩) A.nodes.length c2) Q14 A := I1.below ⟨rfl, rfl, rfl, Nat.le_refl _, fun _ _ => rfl⟩
  generalize hw2 : w1.drewN nq = w2 at *
  clear hw2 X1 H1 G1 F1 M1 K1 hz1 I1 x0 x1 x2 x3 x4 v0 v1 v2 v3 v4 q3 q16 m0
  obtain ⟨x0, x1, x2, x3, x4⟩ := row5 X2
  obtain ⟨v0, v1, v2, v3, v4⟩ := row5 M2
  have q14 : w2.cell? ⟨w.heap.size + 1, 14, none⟩ = some (.int .i64 g.pred) := by simpa using H2 14 (.int .i64 g.pred) rfl
  have q15 : w2.cell? ⟨w.heap.size + 1, 15, none⟩ = some (.int .i64 g.predVer) := by simpa using H2 15 (.int .i64 g.predVer) rfl
  have q16 : w2.cell? ⟨w.heap.size + 1, 16, none⟩ = some (.int .i64 g.curr) := by simpa using H2 16 (.int .i64 g.curr) rfl
  have q17 : w2.cell? ⟨w.heap.size + 1, 17, none⟩ = some (.int .i64 g.currVer) := by simpa using H2 17 (.int .i64 g.currVer) rfl
  have f14 : w2.frozen? ⟨w.heap.size + 1, 14, none⟩ = false := by simpa using (G2 14 (by decide)).2
  have f15 : w2.frozen? ⟨w.heap.size + 1, 15, none⟩ = false := by simpa using (G2 15 (by decide)).2
  rw [hnH.out] at q16
  clear kk
  obtain ⟨H', hH⟩ : ∃ H' : Hd, Hid (H' = { g with pred := (n : Int), predVer := g.currVer }) := by exact ⟨_, rfl⟩
  have hv : Hid (goH A h m = qz2s A H' m.next) := by
   show _ = _
   rw [hH.out]
   have hc1 := hcH.out; have kk := kkH.out; have hmx : max (n : Int) 0 = n := by omega
   rw [hg.out]; simp [goH, kg, hc1, qz1f A n hnl, kk, hmx]
  go_wp2_with (first | (refine wpList_load_mid rfl 32 (.tmp 4) rfl (w.heap.size + 1) 0 ?hxln89 (hdC H') _ ?hcn89 Tryz.underlying32 rfl (qz1 H') ?_))
  try (case hxln89 => rfl)
  case hcn89 => rw [hH.out]; exact (qzc (qzc H2 14 (by simp [hdC]) _) 15 (by simp [hdC]) _)
  refine (qz4x B A H' m.next _ _ _ _ _ _ _ _ _ (by first | omega | (simp; omega)) hA' (I2.below (Below.setCell (Below.setCell (Below.refl B w2) (p := ⟨w.heap.size + 1, 14, none⟩) (by show B <= w.heap.size + 1; omega) _) (p := ⟨w.heap.size + 1, 15, none⟩) (by show B <= w.heap.size + 1; omega) _)) (by rw [hH.out]; exact gnew)).mono ?_
  rintro e w9 ⟨rfl, b9⟩
  have F9 := qz2 (qz5 (qz5 F2 _ _) _ _) b9 (by first | omega | (simp; omega))
  have K9 := (Below.setCell (Below.setCell K2 (p := ⟨w.heap.size + 1, 14, none⟩) (by show w.heap.size <= w.heap.size + 1; omega) _) (p := ⟨w.heap.size + 1, 15, none⟩) (by show w.heap.size <= w.heap.size + 1; omega) _).trans (b9.mono (by first | omega | (simp; omega)))
  go_wp2_with (refine wpList_store_mid rfl 32 (.tmp 6) _ rfl Q15 0 (hdC (qz2s A H' m.next)).toArray ?hxn89 ?hyn89 ?htn89 (qz7 _) (qzb _) ?_)
  try (case hxn89 => rfl)
  try (case hyn89 => rfl)
  case htn89 => exact F9
  refine bodyPost_ret (v := .agg (hdC (qz2s A H' m.next)).toArray) ?_ rfl ⟨by rw [hv.out], ?_⟩
  ·exact qz3 Tryz.results132 _ _ Q15 0 rfl (hdC (qz2s A H' m.next)) _ (World.rangeAt_setCells_same _ _ _ _ F9) Tryz.underlying32 rfl (qz1 _)
  ·exact Below.setCells (by omega) _ _ _ K9
 have kkH : Hid (h.key <= A.nodes[n].key) := by show _ <= _; rw [<- gkH.out]; exact kk
 go_quiet (fail)
 have X2 : (w1.drewN nq).rangeAt w.heap.size 0 [.int .i64 A.camera, .slice a0 A.slots.length c0, .slice a1 A.guides.length c1, .slice (some ⟨bn, on, none⟩) A.nodes.length c2, .slice a3 A.vers.length c3] := X1
 have H2 : (w1.drewN nq).rangeAt (w.heap.size + 1) 0 (hdC g) := H1
 have G2 : (w1.drewN nq).there (w.heap.size + 1) 0 22 := G1
 have F2 : (w1.drewN nq).there Q15 0 22 := F1
 have M2 : (w1.drewN nq).rangeAt (w.heap.size + 1 + 1) 0 [.int .i64 m.next, .bool m.gone, .int .i64 m.stamp, .int .i64 m.prev, .int .i64 m.kind] := M1
 have K2 : Below w.heap.size w (w1.drewN nq) := ⟨K1.os, K1.tape, K1.output, K1.size, K1.block⟩
 have hz2 : w.heap.size + 1 + 1 + 1 < (w1.drewN nq).heap.size := hz1
 have I2 : qzr B (w1.drewN nq) Q0u Q0s (.slice (some ⟨bn, on, none⟩) A.nodes.length c2) Q14 A := I1.below ⟨rfl, rfl, rfl, Nat.le_refl _, fun _ _ => rfl⟩
 generalize hw2 : w1.drewN nq = w2 at *
 clear hw2 X1 H1 G1 F1 M1 K1 hz1 I1 x0 x1 x2 x3 x4 v0 v1 v2 v3 v4 q3 q16 m0
 obtain ⟨x0, x1, x2, x3, x4⟩ := row5 X2
 obtain ⟨v0, v1, v2, v3, v4⟩ := row5 M2
 have q14 : w2.cell? ⟨w.heap.size + 1, 14, none⟩ = some (.int .i64 g.pred) := by simpa using H2 14 (.int .i64 g.pred) rfl
 have q15 : w2.cell? ⟨w.heap.size + 1, 15, none⟩ = some (.int .i64 g.predVer) := by simpa using H2 15 (.int .i64 g.predVer) rfl
 have q16 : w2.cell? ⟨w.heap.size + 1, 16, none⟩ = some (.int .i64 g.curr) := by simpa using H2 16 (.int .i64 g.curr) rfl
 have q17 : w2.cell? ⟨w.heap.size + 1, 17, none⟩ = some (.int .i64 g.currVer) := by simpa using H2 17 (.int .i64 g.currVer) rfl
 have f14 : w2.frozen? ⟨w.heap.size + 1, 14, none⟩ = false := by simpa using (G2 14 (by decide)).2
 have f15 : w2.frozen? ⟨w.heap.size + 1, 15, none⟩ = false := by simpa using (G2 15 (by decide)).2
 rw [hnH.out] at q16
 clear kk
 obtain ⟨H', hH⟩ : ∃ H' : Hd, Hid (H' = g) := by exact ⟨_, rfl⟩
 have hv : Hid (goH A h m = qz15 A H') := by
  show _ = _
  rw [hH.out]
  have hc1 := hcH.out; have kk := kkH.out; have hmx : max (n : Int) 0 = n := by omega
  rw [hg.out]; simp [goH, kg, hc1, qz1f A n hnl, kk, hmx]
 go_wp2_with (first | (refine wpList_load_mid rfl 32 (.tmp 4) rfl (w.heap.size + 1) 0 ?hxln90 (hdC H') _ ?hcn90 Tryz.underlying32 rfl (qz1 H') ?_))
 try (case hxln90 => rfl)
 case hcn90 => rw [hH.out]; exact H2
 refine (qza3 B A H' _ _ _ _ _ _ _ _ _ (by first | omega | (simp; omega)) hA' (I2.below (Below.refl B w2)) (by rw [hH.out, hnH.out]; omega) (by rw [hH.out, hnH.out]; exact hnl') (by rw [hH.out]; exact gnew)).mono ?_
 rintro e w9 ⟨rfl, b9⟩
 have F9 := qz2 F2 b9 (by first | omega | (simp; omega))
 have K9 := K2.trans (b9.mono (by first | omega | (simp; omega)))
 go_wp2_with (refine wpList_store_mid rfl 32 (.tmp 6) _ rfl Q15 0 (hdC (qz15 A H')).toArray ?hxn90 ?hyn90 ?htn90 (qz7 _) (qzb _) ?_)
 try (case hxn90 => rfl)
 try (case hyn90 => rfl)
 case htn90 => exact F9
 refine bodyPost_ret (v := .agg (hdC (qz15 A H')).toArray) ?_ rfl ⟨by rw [hv.out], ?_⟩
 ·exact qz3 Tryz.results132 _ _ Q15 0 rfl (hdC (qz15 A H')) _ (World.rangeAt_setCells_same _ _ _ _ F9) Tryz.underlying32 rfl (qz1 _)
 ·exact Below.setCells (by omega) _ _ _ K9
end
end Go.Proofs.YtclkglkhhnapiaaGreat
