/-
  What the program has found (chapter 7), as a contract. For every arena of at most 1048576 elements and every hand whose nodes there are.
-/
import Derived.Test.YtcgjkodpmloccaaImplSeal
namespace Go.Proofs.Ytcgjkodpmloccaa
open Go.ChangeShapes Go.WideShapes Go.ChangeAt Go.RowKit
set_option linter.unusedVariables false
set_option linter.unusedSimpArgs false
attribute [local go_sem ↓] Go.wp_at_zero Go.wp_at_succ

set_option maxRecDepth 100000 in
set_option maxHeartbeats 4000000 in
theorem found_any (B : Nat) (A : Ar) (h : Hd) (a0 a1 a2 a3 : Option Addr) (c0 c1 c2 c3 : Nat) (w : World) (hB : B ≤ w.heap.size) (hA : A.size ≤ 1048576) (I : ArenaIs B w (.slice a0 A.slots.length c0) (.slice a1 A.guides.length c1) (.slice a2 A.nodes.length c2) (.slice a3 A.vers.length c3) A) (hc0 : -1 ≤ h.curr) (hcu : h.curr < (A.nodes.length : Int)) (hn0 : -1 ≤ h.new_) :
    Calls Try.prog 90 #[.agg #[.int .i64 A.camera, .slice a0 A.slots.length c0, .slice a1 A.guides.length c1, .slice a2 A.nodes.length c2, .slice a3 A.vers.length c3], .agg (hdC h).toArray] w fun e w' => e = .returned (.agg (hdC (foundH A h)).toArray) ∧ Below w.heap.size w w' := by
  have hA' := hA
  unfold Ar.size at hA
  have X0 := World.rangeAt_alloc (World.rangeAt_alloc (rangeAt_new w [.int .i64 A.camera, .slice a0 A.slots.length c0, .slice a1 A.guides.length c1, .slice a2 A.nodes.length c2, .slice a3 A.vers.length c3] 28) (.cells (hdC h).toArray 38)) (.cells #[.int .i64 0, .int .i64 0, .int .i64 0, .int .i64 0, .int .i64 0, .int .i64 0, .int .i64 0, .int .i64 0, .int .i64 0, .int .i64 0, .int .i64 0, .int .i64 0, .int .i64 0, .int .i64 0, .int .i64 0, .int .i64 0, .int .i64 0, .int .i64 0, .int .i64 0, .int .i64 0, .int .i64 0, .int .i64 0] 38)
  have H0 := World.rangeAt_alloc (rangeAt_new (w.alloc (.cells #[.int .i64 A.camera, .slice a0 A.slots.length c0, .slice a1 A.guides.length c1, .slice a2 A.nodes.length c2, .slice a3 A.vers.length c3] 28)) (hdC h) 38) (.cells #[.int .i64 0, .int .i64 0, .int .i64 0, .int .i64 0, .int .i64 0, .int .i64 0, .int .i64 0, .int .i64 0, .int .i64 0, .int .i64 0, .int .i64 0, .int .i64 0, .int .i64 0, .int .i64 0, .int .i64 0, .int .i64 0, .int .i64 0, .int .i64 0, .int .i64 0, .int .i64 0, .int .i64 0, .int .i64 0] 38)
  have G0 := World.there_alloc (there_new (w.alloc (.cells #[.int .i64 A.camera, .slice a0 A.slots.length c0, .slice a1 A.guides.length c1, .slice a2 A.nodes.length c2, .slice a3 A.vers.length c3] 28)) (hdC h).toArray 38 22 (by simp [hdC])) (.cells #[.int .i64 0, .int .i64 0, .int .i64 0, .int .i64 0, .int .i64 0, .int .i64 0, .int .i64 0, .int .i64 0, .int .i64 0, .int .i64 0, .int .i64 0, .int .i64 0, .int .i64 0, .int .i64 0, .int .i64 0, .int .i64 0, .int .i64 0, .int .i64 0, .int .i64 0, .int .i64 0, .int .i64 0, .int .i64 0] 38)
  have F0 := there_new ((w.alloc (.cells #[.int .i64 A.camera, .slice a0 A.slots.length c0, .slice a1 A.guides.length c1, .slice a2 A.nodes.length c2, .slice a3 A.vers.length c3] 28)).alloc (.cells (hdC h).toArray 38)) #[.int .i64 0, .int .i64 0, .int .i64 0, .int .i64 0, .int .i64 0, .int .i64 0, .int .i64 0, .int .i64 0, .int .i64 0, .int .i64 0, .int .i64 0, .int .i64 0, .int .i64 0, .int .i64 0, .int .i64 0, .int .i64 0, .int .i64 0, .int .i64 0, .int .i64 0, .int .i64 0, .int .i64 0, .int .i64 0] 38 22 (by decide)
  have K0 := ((((Below.refl w.heap.size w).alloc (Nat.le_refl _) (.cells #[.int .i64 A.camera, .slice a0 A.slots.length c0, .slice a1 A.guides.length c1, .slice a2 A.nodes.length c2, .slice a3 A.vers.length c3] 28)).alloc (by simp) (.cells (hdC h).toArray 38)).alloc (by simp <;> omega) (.cells #[.int .i64 0, .int .i64 0, .int .i64 0, .int .i64 0, .int .i64 0, .int .i64 0, .int .i64 0, .int .i64 0, .int .i64 0, .int .i64 0, .int .i64 0, .int .i64 0, .int .i64 0, .int .i64 0, .int .i64 0, .int .i64 0, .int .i64 0, .int .i64 0, .int .i64 0, .int .i64 0, .int .i64 0, .int .i64 0] 38))
  have hz0 : w.heap.size + 1 + 1 < (((w.alloc (.cells #[.int .i64 A.camera, .slice a0 A.slots.length c0, .slice a1 A.guides.length c1, .slice a2 A.nodes.length c2, .slice a3 A.vers.length c3] 28)).alloc (.cells (hdC h).toArray 38)).alloc (.cells #[.int .i64 0, .int .i64 0, .int .i64 0, .int .i64 0, .int .i64 0, .int .i64 0, .int .i64 0, .int .i64 0, .int .i64 0, .int .i64 0, .int .i64 0, .int .i64 0, .int .i64 0, .int .i64 0, .int .i64 0, .int .i64 0, .int .i64 0, .int .i64 0, .int .i64 0, .int .i64 0, .int .i64 0, .int .i64 0] 38)).heap.size := by simp
  simp only [World.size_alloc] at H0 G0 F0
  have I0 := I.below (K0.mono hB)
  go_enter Try.func90, Try.ntmps90
  go_wp2_with fail
  generalize hw0 : ((w.alloc (.cells #[.int .i64 A.camera, .slice a0 A.slots.length c0, .slice a1 A.guides.length c1, .slice a2 A.nodes.length c2, .slice a3 A.vers.length c3] 28)).alloc (.cells (hdC h).toArray 38)).alloc (.cells #[.int .i64 0, .int .i64 0, .int .i64 0, .int .i64 0, .int .i64 0, .int .i64 0, .int .i64 0, .int .i64 0, .int .i64 0, .int .i64 0, .int .i64 0, .int .i64 0, .int .i64 0, .int .i64 0, .int .i64 0, .int .i64 0, .int .i64 0, .int .i64 0, .int .i64 0, .int .i64 0, .int .i64 0, .int .i64 0] 38) = w0 at *
  clear hw0 I
  obtain ⟨x0, x1, x2, x3, x4⟩ := row5 X0
  have q2 : w0.cell? ⟨w.heap.size + 1, 2, none⟩ = some (.int .i64 h.code) := by simpa using H0 2 (.int .i64 h.code) rfl
  have q3 : w0.cell? ⟨w.heap.size + 1, 3, none⟩ = some (.int .i64 h.key) := by simpa using H0 3 (.int .i64 h.key) rfl
  have q16 : w0.cell? ⟨w.heap.size + 1, 16, none⟩ = some (.int .i64 h.curr) := by simpa using H0 16 (.int .i64 h.curr) rfl
  have q18 : w0.cell? ⟨w.heap.size + 1, 18, none⟩ = some (.int .i64 h.new_) := by simpa using H0 18 (.int .i64 h.new_) rfl
  by_cases hcm : h.curr = -1
  case pos =>
    rw [hcm] at q16
    go_quiet (fail)
    have X1 : (w0.drewN nq).rangeAt w.heap.size 0 [.int .i64 A.camera, .slice a0 A.slots.length c0, .slice a1 A.guides.length c1, .slice a2 A.nodes.length c2, .slice a3 A.vers.length c3] := X0
    have H1 : (w0.drewN nq).rangeAt (w.heap.size + 1) 0 (hdC h) := H0
    have F1 : (w0.drewN nq).there (w.heap.size + 1 + 1) 0 22 := F0
    have K1 : Below w.heap.size w (w0.drewN nq) := ⟨K0.os, K0.tape, K0.output, K0.size, K0.block⟩
    have hz1 : w.heap.size + 1 + 1 < (w0.drewN nq).heap.size := hz0
    have I1 : ArenaIs B (w0.drewN nq) (.slice a0 A.slots.length c0) (.slice a1 A.guides.length c1) (.slice a2 A.nodes.length c2) (.slice a3 A.vers.length c3) A := I0.below ⟨rfl, rfl, rfl, Nat.le_refl _, fun _ _ => rfl⟩
    have y3 : (w0.drewN nq).cell? ⟨w.heap.size, 3, none⟩ = some (.slice a2 A.nodes.length c2) := x3
    have y2 : (w0.drewN nq).cell? ⟨w.heap.size + 1, 2, none⟩ = some (.int .i64 h.code) := q2
    have y16 : (w0.drewN nq).cell? ⟨w.heap.size + 1, 16, none⟩ = some (.int .i64 (-1)) := q16
    have y18 : (w0.drewN nq).cell? ⟨w.heap.size + 1, 18, none⟩ = some (.int .i64 h.new_) := q18
    generalize hw1 : w0.drewN nq = w1 at *
    clear hw1 X0 H0 F0 K0 I0 hz0 x0 x1 x2 x3 x4 q2 q3 q16 q18 G0
    by_cases k1 : h.code = 1
    case pos =>
      by_cases kn : h.new_ = -1
      · obtain ⟨H', hH⟩ : ∃ H' : Hd, Hid (H' = h) := by exact ⟨_, rfl⟩
        have hv : Hid (foundH A h = turnH H' 7) := by show _ = _; rw [hH.out]; simp [foundH, turnH, hcm, k1, kn]
        go_upto_region 5 with (first | fail)
        go_wp2_with (first | (refine wpList_load_mid rfl 38 (.tmp 3) rfl (w.heap.size + 1) 0 ?hxln20 (hdC H') _ ?hcn20 Try.underlying38 rfl (sizeHandL H') ?_))
        try (case hxln20 => rfl)
        case hcn20 => rw [hH.out]; exact H1
        refine (turnedTo_any H' 7 _).mono ?_
        rintro e w9 ⟨rfl, b9⟩
        have F9 := there_below F1 b9 (by first | omega | (simp; omega))
        have K9 := K1.trans (b9.mono (by first | omega | (simp; omega)))
        go_wp2_with (refine wpList_store_mid rfl 38 (.tmp 4) _ rfl (w.heap.size + 1 + 1) 0 (hdC (turnH H' 7)).toArray ?hxn20 ?hyn20 ?htn20 (sizeHand _) (oneHand _) ?_)
        try (case hxn20 => rfl)
        try (case hyn20 => rfl)
        case htn20 => exact F9
        refine bodyPost_ret (v := .agg (hdC (turnH H' 7)).toArray) ?_ rfl ⟨by rw [hv.out], ?_⟩
        · exact results_row Try.results90 _ _ (w.heap.size + 1 + 1) 0 rfl (hdC (turnH H' 7)) _ (World.rangeAt_setCells_same _ _ _ _ F9) Try.underlying38 rfl (sizeHandL _)
        · exact Below.setCells (by omega) _ _ _ K9
      have bn : (h.new_ == -1) = false := by simp [kn]
      have kn' : 0 ≤ h.new_ := by omega
      obtain ⟨H', hH⟩ : ∃ H' : Hd, Hid (H' = h) := by exact ⟨_, rfl⟩
      have hv : Hid (foundH A h = turnH H' 8) := by show _ = _; rw [hH.out]; simp [foundH, turnH, hcm, k1, kn']
      go_upto_region 7 with (first | fail)
      go_wp2_with (first | (refine wpList_load_mid rfl 38 (.tmp 3) rfl (w.heap.size + 1) 0 ?hxln21 (hdC H') _ ?hcn21 Try.underlying38 rfl (sizeHandL H') ?_))
      try (case hxln21 => rfl)
      case hcn21 => rw [hH.out]; exact H1
      refine (turnedTo_any H' 8 _).mono ?_
      rintro e w9 ⟨rfl, b9⟩
      have F9 := there_below F1 b9 (by first | omega | (simp; omega))
      have K9 := K1.trans (b9.mono (by first | omega | (simp; omega)))
      go_wp2_with (refine wpList_store_mid rfl 38 (.tmp 4) _ rfl (w.heap.size + 1 + 1) 0 (hdC (turnH H' 8)).toArray ?hxn21 ?hyn21 ?htn21 (sizeHand _) (oneHand _) ?_)
      try (case hxn21 => rfl)
      try (case hyn21 => rfl)
      case htn21 => exact F9
      refine bodyPost_ret (v := .agg (hdC (turnH H' 8)).toArray) ?_ rfl ⟨by rw [hv.out], ?_⟩
      · exact results_row Try.results90 _ _ (w.heap.size + 1 + 1) 0 rfl (hdC (turnH H' 8)) _ (World.rangeAt_setCells_same _ _ _ _ F9) Try.underlying38 rfl (sizeHandL _)
      · exact Below.setCells (by omega) _ _ _ K9
    have b1 : (h.code == 1) = false := by simp [k1]
    by_cases k2 : h.code = 2
    · obtain ⟨H', hH⟩ : ∃ H' : Hd, Hid (H' = h) := by exact ⟨_, rfl⟩
      have hv : Hid (foundH A h = restOf H' 3 0 0) := by show _ = _; rw [hH.out]; simp [foundH, hcm, k2]
      go_upto_region 11 with (first | fail)
      go_wp2_with (first | (refine wpList_load_mid rfl 38 (.tmp 3) rfl (w.heap.size + 1) 0 ?hxln22 (hdC H') _ ?hcn22 Try.underlying38 rfl (sizeHandL H') ?_))
      try (case hxln22 => rfl)
      case hcn22 => rw [hH.out]; exact H1
      refine (resting_any H' 3 0 0 _).mono ?_
      rintro e w9 ⟨rfl, b9⟩
      have F9 := there_below F1 b9 (by first | omega | (simp; omega))
      have K9 := K1.trans (b9.mono (by first | omega | (simp; omega)))
      go_wp2_with (refine wpList_store_mid rfl 38 (.tmp 4) _ rfl (w.heap.size + 1 + 1) 0 (hdC (restOf H' 3 0 0)).toArray ?hxn22 ?hyn22 ?htn22 (sizeHand _) (oneHand _) ?_)
      try (case hxn22 => rfl)
      try (case hyn22 => rfl)
      case htn22 => exact F9
      refine bodyPost_ret (v := .agg (hdC (restOf H' 3 0 0)).toArray) ?_ rfl ⟨by rw [hv.out], ?_⟩
      · exact results_row Try.results90 _ _ (w.heap.size + 1 + 1) 0 rfl (hdC (restOf H' 3 0 0)) _ (World.rangeAt_setCells_same _ _ _ _ F9) Try.underlying38 rfl (sizeHandL _)
      · exact Below.setCells (by omega) _ _ _ K9
    have b2 : (h.code == 2) = false := by simp [k2]
    by_cases k3 : h.code = 3
    · obtain ⟨H', hH⟩ : ∃ H' : Hd, Hid (H' = h) := by exact ⟨_, rfl⟩
      have hv : Hid (foundH A h = restOf H' 3 0 0) := by show _ = _; rw [hH.out]; simp [foundH, hcm, k3]
      go_upto_region 11 with (first | fail)
      go_wp2_with (first | (refine wpList_load_mid rfl 38 (.tmp 3) rfl (w.heap.size + 1) 0 ?hxln23 (hdC H') _ ?hcn23 Try.underlying38 rfl (sizeHandL H') ?_))
      try (case hxln23 => rfl)
      case hcn23 => rw [hH.out]; exact H1
      refine (resting_any H' 3 0 0 _).mono ?_
      rintro e w9 ⟨rfl, b9⟩
      have F9 := there_below F1 b9 (by first | omega | (simp; omega))
      have K9 := K1.trans (b9.mono (by first | omega | (simp; omega)))
      go_wp2_with (refine wpList_store_mid rfl 38 (.tmp 4) _ rfl (w.heap.size + 1 + 1) 0 (hdC (restOf H' 3 0 0)).toArray ?hxn23 ?hyn23 ?htn23 (sizeHand _) (oneHand _) ?_)
      try (case hxn23 => rfl)
      try (case hyn23 => rfl)
      case htn23 => exact F9
      refine bodyPost_ret (v := .agg (hdC (restOf H' 3 0 0)).toArray) ?_ rfl ⟨by rw [hv.out], ?_⟩
      · exact results_row Try.results90 _ _ (w.heap.size + 1 + 1) 0 rfl (hdC (restOf H' 3 0 0)) _ (World.rangeAt_setCells_same _ _ _ _ F9) Try.underlying38 rfl (sizeHandL _)
      · exact Below.setCells (by omega) _ _ _ K9
    have b3 : (h.code == 3) = false := by simp [k3]
    obtain ⟨H', hH⟩ : ∃ H' : Hd, Hid (H' = h) := by exact ⟨_, rfl⟩
    have hv : Hid (foundH A h = turnH H' 0) := by show _ = _; rw [hH.out]; simp [foundH, turnH, k1, k2, k3]
    go_upto_region 12 with (first | fail)
    go_wp2_with (first | (refine wpList_load_mid rfl 38 (.tmp 3) rfl (w.heap.size + 1) 0 ?hxln24 (hdC H') _ ?hcn24 Try.underlying38 rfl (sizeHandL H') ?_))
    try (case hxln24 => rfl)
    case hcn24 => rw [hH.out]; exact H1
    refine (turnedTo_any H' 0 _).mono ?_
    rintro e w9 ⟨rfl, b9⟩
    have F9 := there_below F1 b9 (by first | omega | (simp; omega))
    have K9 := K1.trans (b9.mono (by first | omega | (simp; omega)))
    go_wp2_with (refine wpList_store_mid rfl 38 (.tmp 4) _ rfl (w.heap.size + 1 + 1) 0 (hdC (turnH H' 0)).toArray ?hxn24 ?hyn24 ?htn24 (sizeHand _) (oneHand _) ?_)
    try (case hxn24 => rfl)
    try (case hyn24 => rfl)
    case htn24 => exact F9
    refine bodyPost_ret (v := .agg (hdC (turnH H' 0)).toArray) ?_ rfl ⟨by rw [hv.out], ?_⟩
    · exact results_row Try.results90 _ _ (w.heap.size + 1 + 1) 0 rfl (hdC (turnH H' 0)) _ (World.rangeAt_setCells_same _ _ _ _ F9) Try.underlying38 rfl (sizeHandL _)
    · exact Below.setCells (by omega) _ _ _ K9
  obtain ⟨m, hcm⟩ : ∃ m : Nat, h.curr = m := ⟨h.curr.toNat, by omega⟩
  have hm : m < A.nodes.length := by omega
  have hm' : (m : Int) < (A.nodes.length : Int) := by omega
  have hm0 : (0 : Int) ≤ (m : Int) := by omega
  have bm : ((m : Int) != -1) = true := by simp <;> omega
  have bm' : ((m : Int) == -1) = false := by simp <;> omega
  rw [hcm] at q16
  obtain ⟨bb, off, rfl, hbb, R⟩ := SliceAt.at I0.n (by omega)
  have z0 : w0.cell? ⟨bb, off + m * 3 + 0, none⟩ = some (.int .i64 A.nodes[m].key) := (rangeAt_elem (sz := 3) (fun _ => rfl) R m hm) 0 _ rfl
  have z1 : w0.cell? ⟨bb, off + m * 3 + 1, none⟩ = some (.int .i64 A.nodes[m].value) := (rangeAt_elem (sz := 3) (fun _ => rfl) R m hm) 1 _ rfl
  simp only [Nat.add_zero] at z0
  clear R
  by_cases hkey : A.nodes[m].key = h.key
  case neg =>
    have bk : (A.nodes[m].key == h.key) = false := by simp [hkey]
    go_quiet (fail)
    have X1 : (w0.drewN nq).rangeAt w.heap.size 0 [.int .i64 A.camera, .slice a0 A.slots.length c0, .slice a1 A.guides.length c1, .slice (some ⟨bb, off, none⟩) A.nodes.length c2, .slice a3 A.vers.length c3] := X0
    have H1 : (w0.drewN nq).rangeAt (w.heap.size + 1) 0 (hdC h) := H0
    have F1 : (w0.drewN nq).there (w.heap.size + 1 + 1) 0 22 := F0
    have K1 : Below w.heap.size w (w0.drewN nq) := ⟨K0.os, K0.tape, K0.output, K0.size, K0.block⟩
    have hz1 : w.heap.size + 1 + 1 < (w0.drewN nq).heap.size := hz0
    have I1 : ArenaIs B (w0.drewN nq) (.slice a0 A.slots.length c0) (.slice a1 A.guides.length c1) (.slice (some ⟨bb, off, none⟩) A.nodes.length c2) (.slice a3 A.vers.length c3) A := I0.below ⟨rfl, rfl, rfl, Nat.le_refl _, fun _ _ => rfl⟩
    have y3 : (w0.drewN nq).cell? ⟨w.heap.size, 3, none⟩ = some (.slice (some ⟨bb, off, none⟩) A.nodes.length c2) := x3
    have y2 : (w0.drewN nq).cell? ⟨w.heap.size + 1, 2, none⟩ = some (.int .i64 h.code) := q2
    have y16 : (w0.drewN nq).cell? ⟨w.heap.size + 1, 16, none⟩ = some (.int .i64 m) := q16
    have y18 : (w0.drewN nq).cell? ⟨w.heap.size + 1, 18, none⟩ = some (.int .i64 h.new_) := q18
    have y1 : (w0.drewN nq).cell? ⟨bb, off + m * 3 + 1, none⟩ = some (.int .i64 A.nodes[m].value) := z1
    generalize hw1 : w0.drewN nq = w1 at *
    clear hw1 X0 H0 F0 K0 I0 hz0 x0 x1 x2 x3 x4 q2 q3 q16 q18 G0 z0 z1
    by_cases k1 : h.code = 1
    case pos =>
      by_cases kn : h.new_ = -1
      · obtain ⟨H', hH⟩ : ∃ H' : Hd, Hid (H' = h) := by exact ⟨_, rfl⟩
        have hv : Hid (foundH A h = turnH H' 7) := by show _ = _; rw [hH.out]; simp [foundH, turnH, hcm, ndOf_nat A m hm, hkey, k1, kn]
        go_upto_region 5 with (first | fail)
        go_wp2_with (first | (refine wpList_load_mid rfl 38 (.tmp 3) rfl (w.heap.size + 1) 0 ?hxln25 (hdC H') _ ?hcn25 Try.underlying38 rfl (sizeHandL H') ?_))
        try (case hxln25 => rfl)
        case hcn25 => rw [hH.out]; exact H1
        refine (turnedTo_any H' 7 _).mono ?_
        rintro e w9 ⟨rfl, b9⟩
        have F9 := there_below F1 b9 (by first | omega | (simp; omega))
        have K9 := K1.trans (b9.mono (by first | omega | (simp; omega)))
        go_wp2_with (refine wpList_store_mid rfl 38 (.tmp 4) _ rfl (w.heap.size + 1 + 1) 0 (hdC (turnH H' 7)).toArray ?hxn25 ?hyn25 ?htn25 (sizeHand _) (oneHand _) ?_)
        try (case hxn25 => rfl)
        try (case hyn25 => rfl)
        case htn25 => exact F9
        refine bodyPost_ret (v := .agg (hdC (turnH H' 7)).toArray) ?_ rfl ⟨by rw [hv.out], ?_⟩
        · exact results_row Try.results90 _ _ (w.heap.size + 1 + 1) 0 rfl (hdC (turnH H' 7)) _ (World.rangeAt_setCells_same _ _ _ _ F9) Try.underlying38 rfl (sizeHandL _)
        · exact Below.setCells (by omega) _ _ _ K9
      have bn : (h.new_ == -1) = false := by simp [kn]
      have kn' : 0 ≤ h.new_ := by omega
      obtain ⟨H', hH⟩ : ∃ H' : Hd, Hid (H' = h) := by exact ⟨_, rfl⟩
      have hv : Hid (foundH A h = turnH H' 8) := by show _ = _; rw [hH.out]; simp [foundH, turnH, hcm, ndOf_nat A m hm, hkey, k1, kn']
      go_upto_region 7 with (first | fail)
      go_wp2_with (first | (refine wpList_load_mid rfl 38 (.tmp 3) rfl (w.heap.size + 1) 0 ?hxln26 (hdC H') _ ?hcn26 Try.underlying38 rfl (sizeHandL H') ?_))
      try (case hxln26 => rfl)
      case hcn26 => rw [hH.out]; exact H1
      refine (turnedTo_any H' 8 _).mono ?_
      rintro e w9 ⟨rfl, b9⟩
      have F9 := there_below F1 b9 (by first | omega | (simp; omega))
      have K9 := K1.trans (b9.mono (by first | omega | (simp; omega)))
      go_wp2_with (refine wpList_store_mid rfl 38 (.tmp 4) _ rfl (w.heap.size + 1 + 1) 0 (hdC (turnH H' 8)).toArray ?hxn26 ?hyn26 ?htn26 (sizeHand _) (oneHand _) ?_)
      try (case hxn26 => rfl)
      try (case hyn26 => rfl)
      case htn26 => exact F9
      refine bodyPost_ret (v := .agg (hdC (turnH H' 8)).toArray) ?_ rfl ⟨by rw [hv.out], ?_⟩
      · exact results_row Try.results90 _ _ (w.heap.size + 1 + 1) 0 rfl (hdC (turnH H' 8)) _ (World.rangeAt_setCells_same _ _ _ _ F9) Try.underlying38 rfl (sizeHandL _)
      · exact Below.setCells (by omega) _ _ _ K9
    have b1 : (h.code == 1) = false := by simp [k1]
    by_cases k2 : h.code = 2
    · obtain ⟨H', hH⟩ : ∃ H' : Hd, Hid (H' = h) := by exact ⟨_, rfl⟩
      have hv : Hid (foundH A h = restOf H' 3 0 0) := by show _ = _; rw [hH.out]; simp [foundH, hcm, ndOf_nat A m hm, hkey, k2]
      go_upto_region 11 with (first | fail)
      go_wp2_with (first | (refine wpList_load_mid rfl 38 (.tmp 3) rfl (w.heap.size + 1) 0 ?hxln27 (hdC H') _ ?hcn27 Try.underlying38 rfl (sizeHandL H') ?_))
      try (case hxln27 => rfl)
      case hcn27 => rw [hH.out]; exact H1
      refine (resting_any H' 3 0 0 _).mono ?_
      rintro e w9 ⟨rfl, b9⟩
      have F9 := there_below F1 b9 (by first | omega | (simp; omega))
      have K9 := K1.trans (b9.mono (by first | omega | (simp; omega)))
      go_wp2_with (refine wpList_store_mid rfl 38 (.tmp 4) _ rfl (w.heap.size + 1 + 1) 0 (hdC (restOf H' 3 0 0)).toArray ?hxn27 ?hyn27 ?htn27 (sizeHand _) (oneHand _) ?_)
      try (case hxn27 => rfl)
      try (case hyn27 => rfl)
      case htn27 => exact F9
      refine bodyPost_ret (v := .agg (hdC (restOf H' 3 0 0)).toArray) ?_ rfl ⟨by rw [hv.out], ?_⟩
      · exact results_row Try.results90 _ _ (w.heap.size + 1 + 1) 0 rfl (hdC (restOf H' 3 0 0)) _ (World.rangeAt_setCells_same _ _ _ _ F9) Try.underlying38 rfl (sizeHandL _)
      · exact Below.setCells (by omega) _ _ _ K9
    have b2 : (h.code == 2) = false := by simp [k2]
    by_cases k3 : h.code = 3
    · obtain ⟨H', hH⟩ : ∃ H' : Hd, Hid (H' = h) := by exact ⟨_, rfl⟩
      have hv : Hid (foundH A h = restOf H' 3 0 0) := by show _ = _; rw [hH.out]; simp [foundH, hcm, ndOf_nat A m hm, hkey, k3]
      go_upto_region 11 with (first | fail)
      go_wp2_with (first | (refine wpList_load_mid rfl 38 (.tmp 3) rfl (w.heap.size + 1) 0 ?hxln28 (hdC H') _ ?hcn28 Try.underlying38 rfl (sizeHandL H') ?_))
      try (case hxln28 => rfl)
      case hcn28 => rw [hH.out]; exact H1
      refine (resting_any H' 3 0 0 _).mono ?_
      rintro e w9 ⟨rfl, b9⟩
      have F9 := there_below F1 b9 (by first | omega | (simp; omega))
      have K9 := K1.trans (b9.mono (by first | omega | (simp; omega)))
      go_wp2_with (refine wpList_store_mid rfl 38 (.tmp 4) _ rfl (w.heap.size + 1 + 1) 0 (hdC (restOf H' 3 0 0)).toArray ?hxn28 ?hyn28 ?htn28 (sizeHand _) (oneHand _) ?_)
      try (case hxn28 => rfl)
      try (case hyn28 => rfl)
      case htn28 => exact F9
      refine bodyPost_ret (v := .agg (hdC (restOf H' 3 0 0)).toArray) ?_ rfl ⟨by rw [hv.out], ?_⟩
      · exact results_row Try.results90 _ _ (w.heap.size + 1 + 1) 0 rfl (hdC (restOf H' 3 0 0)) _ (World.rangeAt_setCells_same _ _ _ _ F9) Try.underlying38 rfl (sizeHandL _)
      · exact Below.setCells (by omega) _ _ _ K9
    have b3 : (h.code == 3) = false := by simp [k3]
    obtain ⟨H', hH⟩ : ∃ H' : Hd, Hid (H' = h) := by exact ⟨_, rfl⟩
    have hv : Hid (foundH A h = turnH H' 0) := by show _ = _; rw [hH.out]; simp [foundH, turnH, k1, k2, k3]
    go_upto_region 12 with (first | fail)
    go_wp2_with (first | (refine wpList_load_mid rfl 38 (.tmp 3) rfl (w.heap.size + 1) 0 ?hxln29 (hdC H') _ ?hcn29 Try.underlying38 rfl (sizeHandL H') ?_))
    try (case hxln29 => rfl)
    case hcn29 => rw [hH.out]; exact H1
    refine (turnedTo_any H' 0 _).mono ?_
    rintro e w9 ⟨rfl, b9⟩
    have F9 := there_below F1 b9 (by first | omega | (simp; omega))
    have K9 := K1.trans (b9.mono (by first | omega | (simp; omega)))
    go_wp2_with (refine wpList_store_mid rfl 38 (.tmp 4) _ rfl (w.heap.size + 1 + 1) 0 (hdC (turnH H' 0)).toArray ?hxn29 ?hyn29 ?htn29 (sizeHand _) (oneHand _) ?_)
    try (case hxn29 => rfl)
    try (case hyn29 => rfl)
    case htn29 => exact F9
    refine bodyPost_ret (v := .agg (hdC (turnH H' 0)).toArray) ?_ rfl ⟨by rw [hv.out], ?_⟩
    · exact results_row Try.results90 _ _ (w.heap.size + 1 + 1) 0 rfl (hdC (turnH H' 0)) _ (World.rangeAt_setCells_same _ _ _ _ F9) Try.underlying38 rfl (sizeHandL _)
    · exact Below.setCells (by omega) _ _ _ K9
  go_quiet (fail)
  have X1 : (w0.drewN nq).rangeAt w.heap.size 0 [.int .i64 A.camera, .slice a0 A.slots.length c0, .slice a1 A.guides.length c1, .slice (some ⟨bb, off, none⟩) A.nodes.length c2, .slice a3 A.vers.length c3] := X0
  have H1 : (w0.drewN nq).rangeAt (w.heap.size + 1) 0 (hdC h) := H0
  have F1 : (w0.drewN nq).there (w.heap.size + 1 + 1) 0 22 := F0
  have K1 : Below w.heap.size w (w0.drewN nq) := ⟨K0.os, K0.tape, K0.output, K0.size, K0.block⟩
  have hz1 : w.heap.size + 1 + 1 < (w0.drewN nq).heap.size := hz0
  have I1 : ArenaIs B (w0.drewN nq) (.slice a0 A.slots.length c0) (.slice a1 A.guides.length c1) (.slice (some ⟨bb, off, none⟩) A.nodes.length c2) (.slice a3 A.vers.length c3) A := I0.below ⟨rfl, rfl, rfl, Nat.le_refl _, fun _ _ => rfl⟩
  have y3 : (w0.drewN nq).cell? ⟨w.heap.size, 3, none⟩ = some (.slice (some ⟨bb, off, none⟩) A.nodes.length c2) := x3
  have y2 : (w0.drewN nq).cell? ⟨w.heap.size + 1, 2, none⟩ = some (.int .i64 h.code) := q2
  have y16 : (w0.drewN nq).cell? ⟨w.heap.size + 1, 16, none⟩ = some (.int .i64 m) := q16
  have y18 : (w0.drewN nq).cell? ⟨w.heap.size + 1, 18, none⟩ = some (.int .i64 h.new_) := q18
  have y1 : (w0.drewN nq).cell? ⟨bb, off + m * 3 + 1, none⟩ = some (.int .i64 A.nodes[m].value) := z1
  generalize hw1 : w0.drewN nq = w1 at *
  clear hw1 X0 H0 F0 K0 I0 hz0 x0 x1 x2 x3 x4 q2 q3 q16 q18 G0 z0 z1
  by_cases k3 : h.code = 3
  · have hv : Hid (foundH A h = (restOf h 2 A.nodes[m].value 0)) := by show _ = _; simp [foundH, hcm, k3, ndOf_nat A m hm, hkey]
    go_wp2_with fail
    refine wp_region_split 8 (by kernel_rfl) (by kernel_rfl) ?_
    simp only [List.take_succ_cons, List.take_zero, List.drop_succ_cons, List.drop_zero]
    repeat (first | (refine wpQuiet_load_mid rfl 38 (.tmp 3) rfl (w.heap.size + 1) 0 ?s30x0 (hdC h) _ ?s30c0 Try.underlying38 rfl (sizeHandL _) ?_; (case s30x0 => rfl); (case s30c0 => rintro _ ⟨m, rfl⟩; exact H1)) | (quiet_step (fail)))
    refine wpQuiet_nil ?_
    rintro _ ⟨nr, rfl⟩
    go_wp2_with fail
    refine (resting_any h 2 A.nodes[m].value 0 _).mono ?_
    rintro e w2 ⟨rfl, b2⟩
    have F2 := there_below F1 (b := w.heap.size + 1 + 1) (B := w1.heap.size) (w' := w2) ⟨b2.os, b2.tape, b2.output, b2.size, b2.block⟩ (by omega)
    have K2 : Below w.heap.size w w2 := K1.trans (b := w1) ⟨b2.os, b2.tape, b2.output, b2.size, fun k hk => b2.block k (by show k < w1.heap.size; omega)⟩
    go_wp2_with (refine wpList_store_mid rfl 38 (.tmp 4) _ rfl (w.heap.size + 1 + 1) 0 (hdC (restOf h 2 A.nodes[m].value 0)).toArray ?hxn31 ?hyn31 ?htn31 (sizeHand (restOf h 2 A.nodes[m].value 0)) (oneHand (restOf h 2 A.nodes[m].value 0)) ?_)
    try (case hxn31 => rfl)
    try (case hyn31 => rfl)
    case htn31 => exact F2
    refine bodyPost_ret (v := .agg (hdC (restOf h 2 A.nodes[m].value 0)).toArray) ?_ rfl ⟨by rw [hv.out], ?_⟩
    · exact results_row Try.results90 _ _ (w.heap.size + 1 + 1) 0 rfl (hdC (restOf h 2 A.nodes[m].value 0)) _ (World.rangeAt_setCells_same _ _ _ _ F2) Try.underlying38 rfl (sizeHandL _)
    · exact Below.setCells (by omega) _ _ _ K2
  have b3 : (h.code == 3) = false := by simp [k3]
  by_cases k1 : h.code = 1
  · have hv : Hid (foundH A h = (restOf h 2 A.nodes[m].value 0)) := by show _ = _; simp [foundH, hcm, k1, ndOf_nat A m hm, hkey]
    go_wp2_with fail
    refine wp_region_split 8 (by kernel_rfl) (by kernel_rfl) ?_
    simp only [List.take_succ_cons, List.take_zero, List.drop_succ_cons, List.drop_zero]
    repeat (first | (refine wpQuiet_load_mid rfl 38 (.tmp 3) rfl (w.heap.size + 1) 0 ?s32x0 (hdC h) _ ?s32c0 Try.underlying38 rfl (sizeHandL _) ?_; (case s32x0 => rfl); (case s32c0 => rintro _ ⟨m, rfl⟩; exact H1)) | (quiet_step (fail)))
    refine wpQuiet_nil ?_
    rintro _ ⟨nr, rfl⟩
    go_wp2_with fail
    refine (resting_any h 2 A.nodes[m].value 0 _).mono ?_
    rintro e w2 ⟨rfl, b2⟩
    have F2 := there_below F1 (b := w.heap.size + 1 + 1) (B := w1.heap.size) (w' := w2) ⟨b2.os, b2.tape, b2.output, b2.size, b2.block⟩ (by omega)
    have K2 : Below w.heap.size w w2 := K1.trans (b := w1) ⟨b2.os, b2.tape, b2.output, b2.size, fun k hk => b2.block k (by show k < w1.heap.size; omega)⟩
    go_wp2_with (refine wpList_store_mid rfl 38 (.tmp 4) _ rfl (w.heap.size + 1 + 1) 0 (hdC (restOf h 2 A.nodes[m].value 0)).toArray ?hxn33 ?hyn33 ?htn33 (sizeHand (restOf h 2 A.nodes[m].value 0)) (oneHand (restOf h 2 A.nodes[m].value 0)) ?_)
    try (case hxn33 => rfl)
    try (case hyn33 => rfl)
    case htn33 => exact F2
    refine bodyPost_ret (v := .agg (hdC (restOf h 2 A.nodes[m].value 0)).toArray) ?_ rfl ⟨by rw [hv.out], ?_⟩
    · exact results_row Try.results90 _ _ (w.heap.size + 1 + 1) 0 rfl (hdC (restOf h 2 A.nodes[m].value 0)) _ (World.rangeAt_setCells_same _ _ _ _ F2) Try.underlying38 rfl (sizeHandL _)
    · exact Below.setCells (by omega) _ _ _ K2
  have b1 : (h.code == 1) = false := by simp [k1]
  by_cases k2 : h.code = 2
  · obtain ⟨H', hH⟩ : ∃ H' : Hd, Hid (H' = h) := by exact ⟨_, rfl⟩
    have hv : Hid (foundH A h = turnH H' 11) := by show _ = _; rw [hH.out]; simp [foundH, turnH, hcm, k2, ndOf_nat A m hm, hkey]
    go_upto_region 9 with (first | fail)
    go_wp2_with (first | (refine wpList_load_mid rfl 38 (.tmp 3) rfl (w.heap.size + 1) 0 ?hxln34 (hdC H') _ ?hcn34 Try.underlying38 rfl (sizeHandL H') ?_))
    try (case hxln34 => rfl)
    case hcn34 => rw [hH.out]; exact H1
    refine (turnedTo_any H' 11 _).mono ?_
    rintro e w9 ⟨rfl, b9⟩
    have F9 := there_below F1 b9 (by first | omega | (simp; omega))
    have K9 := K1.trans (b9.mono (by first | omega | (simp; omega)))
    go_wp2_with (refine wpList_store_mid rfl 38 (.tmp 4) _ rfl (w.heap.size + 1 + 1) 0 (hdC (turnH H' 11)).toArray ?hxn34 ?hyn34 ?htn34 (sizeHand _) (oneHand _) ?_)
    try (case hxn34 => rfl)
    try (case hyn34 => rfl)
    case htn34 => exact F9
    refine bodyPost_ret (v := .agg (hdC (turnH H' 11)).toArray) ?_ rfl ⟨by rw [hv.out], ?_⟩
    · exact results_row Try.results90 _ _ (w.heap.size + 1 + 1) 0 rfl (hdC (turnH H' 11)) _ (World.rangeAt_setCells_same _ _ _ _ F9) Try.underlying38 rfl (sizeHandL _)
    · exact Below.setCells (by omega) _ _ _ K9
  have b2 : (h.code == 2) = false := by simp [k2]
  obtain ⟨H', hH⟩ : ∃ H' : Hd, Hid (H' = h) := by exact ⟨_, rfl⟩
  have hv : Hid (foundH A h = turnH H' 0) := by show _ = _; rw [hH.out]; simp [foundH, turnH, k1, k2, k3]
  go_upto_region 12 with (first | fail)
  go_wp2_with (first | (refine wpList_load_mid rfl 38 (.tmp 3) rfl (w.heap.size + 1) 0 ?hxln35 (hdC H') _ ?hcn35 Try.underlying38 rfl (sizeHandL H') ?_))
  try (case hxln35 => rfl)
  case hcn35 => rw [hH.out]; exact H1
  refine (turnedTo_any H' 0 _).mono ?_
  rintro e w9 ⟨rfl, b9⟩
  have F9 := there_below F1 b9 (by first | omega | (simp; omega))
  have K9 := K1.trans (b9.mono (by first | omega | (simp; omega)))
  go_wp2_with (refine wpList_store_mid rfl 38 (.tmp 4) _ rfl (w.heap.size + 1 + 1) 0 (hdC (turnH H' 0)).toArray ?hxn35 ?hyn35 ?htn35 (sizeHand _) (oneHand _) ?_)
  try (case hxn35 => rfl)
  try (case hyn35 => rfl)
  case htn35 => exact F9
  refine bodyPost_ret (v := .agg (hdC (turnH H' 0)).toArray) ?_ rfl ⟨by rw [hv.out], ?_⟩
  · exact results_row Try.results90 _ _ (w.heap.size + 1 + 1) 0 rfl (hdC (turnH H' 0)) _ (World.rangeAt_setCells_same _ _ _ _ F9) Try.underlying38 rfl (sizeHandL _)
  · exact Below.setCells (by omega) _ _ _ K9

end Go.Proofs.Ytcgjkodpmloccaa
