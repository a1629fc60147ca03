/-
  What the law's proof goes by, part 4.
-/
import Derived.Deep.RegionLaw
import Derived.Test.YtananefdghclfaaFnRestC
namespace Go.Proofs.Ytananefdghclfaa
open Go.ChangeShapes Go.WideShapes Go.ChangeAt Go.RowKit
set_option linter.unusedVariables false
set_option linter.unusedSimpArgs false
set_option linter.unnecessarySimpa false
set_option linter.unusedSectionVars false
section
attribute [local go_sem ↓] Go.wp_at_zero Go.wp_at_succ
set_option maxRecDepth 100000 in
set_option maxHeartbeats 4000000 in
theorem l12Use_any (B : Nat) (A : Ar) (h : Hd) (a0 a1 a2 a3 : Option Addr) (c0 c1 c2 c3 : Nat) (w : World) (hB : B ≤ w.heap.size) (hA : A.size ≤ 1048576) (I : ArenaIs B w (.slice a0 A.slots.length c0) (.slice a1 A.guides.length c1) (.slice a2 A.nodes.length c2) (.slice a3 A.vers.length c3) A) (x y z u : Int) (hOk : arenaB x y z u A = true) (hv0 : 0 ≤ h.ver) (hv1 : h.ver < (A.vers.length : Int)) (hx0 : 0 ≤ h.x_) (hx1 : h.x_ < (A.nodes.length : Int)) (ho0 : 0 ≤ h.out) (ho1 : h.out ≤ 1000000) (hs0 : 0 ≤ h.sum) (hs1 : h.sum ≤ 1000000) :
  Calls Try.prog 138 #[.agg #[.int .i64 A.camera, .slice a0 A.slots.length c0, .slice a1 A.guides.length c1, .slice a2 A.nodes.length c2, .slice a3 A.vers.length c3], .agg (hdC h).toArray] w fun e w' => e = .returned (.agg (hdC (useH A h)).toArray) ∧ Below w.heap.size w w' := by
 have hA' := hA
 unfold Ar.size at hA
 have X0 := World.rangeAt_alloc (World.rangeAt_alloc (rangeAt_new w [.int .i64 A.camera, .slice a0 A.slots.length c0, .slice a1 A.guides.length c1, .slice a2 A.nodes.length c2, .slice a3 A.vers.length c3] 30) (.cells (hdC h).toArray 56)) (.cells #[.int .i64 0, .int .i64 0, .int .i64 0, .int .i64 0, .int .i64 0, .int .i64 0, .int .i64 0, .int .i64 0, .int .i64 0, .int .i64 0, .int .i64 0, .int .i64 0, .int .i64 0, .int .i64 0, .int .i64 0, .int .i64 0, .int .i64 0, .int .i64 0, .int .i64 0, .int .i64 0, .int .i64 0, .int .i64 0] 56)
 have H0 := World.rangeAt_alloc (rangeAt_new (w.alloc (.cells #[.int .i64 A.camera, .slice a0 A.slots.length c0, .slice a1 A.guides.length c1, .slice a2 A.nodes.length c2, .slice a3 A.vers.length c3] 30)) (hdC h) 56) (.cells #[.int .i64 0, .int .i64 0, .int .i64 0, .int .i64 0, .int .i64 0, .int .i64 0, .int .i64 0, .int .i64 0, .int .i64 0, .int .i64 0, .int .i64 0, .int .i64 0, .int .i64 0, .int .i64 0, .int .i64 0, .int .i64 0, .int .i64 0, .int .i64 0, .int .i64 0, .int .i64 0, .int .i64 0, .int .i64 0] 56)
 have G0 := World.there_alloc (there_new (w.alloc (.cells #[.int .i64 A.camera, .slice a0 A.slots.length c0, .slice a1 A.guides.length c1, .slice a2 A.nodes.length c2, .slice a3 A.vers.length c3] 30)) (hdC h).toArray 56 22 (by simp [hdC])) (.cells #[.int .i64 0, .int .i64 0, .int .i64 0, .int .i64 0, .int .i64 0, .int .i64 0, .int .i64 0, .int .i64 0, .int .i64 0, .int .i64 0, .int .i64 0, .int .i64 0, .int .i64 0, .int .i64 0, .int .i64 0, .int .i64 0, .int .i64 0, .int .i64 0, .int .i64 0, .int .i64 0, .int .i64 0, .int .i64 0] 56)
 have F0 := there_new ((w.alloc (.cells #[.int .i64 A.camera, .slice a0 A.slots.length c0, .slice a1 A.guides.length c1, .slice a2 A.nodes.length c2, .slice a3 A.vers.length c3] 30)).alloc (.cells (hdC h).toArray 56)) #[.int .i64 0, .int .i64 0, .int .i64 0, .int .i64 0, .int .i64 0, .int .i64 0, .int .i64 0, .int .i64 0, .int .i64 0, .int .i64 0, .int .i64 0, .int .i64 0, .int .i64 0, .int .i64 0, .int .i64 0, .int .i64 0, .int .i64 0, .int .i64 0, .int .i64 0, .int .i64 0, .int .i64 0, .int .i64 0] 56 22 (by decide)
 have K0 := (((Below.refl w.heap.size w).alloc (Nat.le_refl _) (.cells #[.int .i64 A.camera, .slice a0 A.slots.length c0, .slice a1 A.guides.length c1, .slice a2 A.nodes.length c2, .slice a3 A.vers.length c3] 30)).alloc (by simp) (.cells (hdC h).toArray 56)).alloc (by simp; omega) (.cells #[.int .i64 0, .int .i64 0, .int .i64 0, .int .i64 0, .int .i64 0, .int .i64 0, .int .i64 0, .int .i64 0, .int .i64 0, .int .i64 0, .int .i64 0, .int .i64 0, .int .i64 0, .int .i64 0, .int .i64 0, .int .i64 0, .int .i64 0, .int .i64 0, .int .i64 0, .int .i64 0, .int .i64 0, .int .i64 0] 56)
 have hz0 : w.heap.size + 1 + 1 < (((w.alloc (.cells #[.int .i64 A.camera, .slice a0 A.slots.length c0, .slice a1 A.guides.length c1, .slice a2 A.nodes.length c2, .slice a3 A.vers.length c3] 30)).alloc (.cells (hdC h).toArray 56)).alloc (.cells #[.int .i64 0, .int .i64 0, .int .i64 0, .int .i64 0, .int .i64 0, .int .i64 0, .int .i64 0, .int .i64 0, .int .i64 0, .int .i64 0, .int .i64 0, .int .i64 0, .int .i64 0, .int .i64 0, .int .i64 0, .int .i64 0, .int .i64 0, .int .i64 0, .int .i64 0, .int .i64 0, .int .i64 0, .int .i64 0] 56)).heap.size := by simp
 simp only [World.size_alloc] at H0 G0 F0
 have I0 := I.below (K0.mono hB)
 go_enter Try.func138, Try.ntmps138
 have tok : True := trivial
 go_wp2_with (clear tok; refine stopAt (((w.alloc (.cells #[.int .i64 A.camera, .slice a0 A.slots.length c0, .slice a1 A.guides.length c1, .slice a2 A.nodes.length c2, .slice a3 A.vers.length c3] 30)).alloc (.cells (hdC h).toArray 56)).alloc (.cells #[.int .i64 0, .int .i64 0, .int .i64 0, .int .i64 0, .int .i64 0, .int .i64 0, .int .i64 0, .int .i64 0, .int .i64 0, .int .i64 0, .int .i64 0, .int .i64 0, .int .i64 0, .int .i64 0, .int .i64 0, .int .i64 0, .int .i64 0, .int .i64 0, .int .i64 0, .int .i64 0, .int .i64 0, .int .i64 0] 56)) ?_)
 generalize hw0 : ((w.alloc (.cells #[.int .i64 A.camera, .slice a0 A.slots.length c0, .slice a1 A.guides.length c1, .slice a2 A.nodes.length c2, .slice a3 A.vers.length c3] 30)).alloc (.cells (hdC h).toArray 56)).alloc (.cells #[.int .i64 0, .int .i64 0, .int .i64 0, .int .i64 0, .int .i64 0, .int .i64 0, .int .i64 0, .int .i64 0, .int .i64 0, .int .i64 0, .int .i64 0, .int .i64 0, .int .i64 0, .int .i64 0, .int .i64 0, .int .i64 0, .int .i64 0, .int .i64 0, .int .i64 0, .int .i64 0, .int .i64 0, .int .i64 0] 56) = w0 at *
 clear hw0 I
 show wpList _ _ _ _ _ w0
 obtain ⟨v, hv⟩ : ∃ v : Nat, h.ver = v := ⟨h.ver.toNat, by omega⟩
 obtain ⟨n, hn⟩ : ∃ n : Nat, h.x_ = n := ⟨h.x_.toNat, by omega⟩
 have hvl : v < A.vers.length := by omega
 have hvl' : (v : Int) < (A.vers.length : Int) := by omega
 have hvl0 : (0 : Int) ≤ (v : Int) := by omega
 have hnl : n < A.nodes.length := by omega
 have hnl' : (n : Int) < (A.nodes.length : Int) := by omega
 have hnl0 : (0 : Int) ≤ (n : Int) := by omega
 have hvr : vrOf A h.ver = A.vers[v] := by rw [hv, vrOf_nat A v hvl]
 have hnd : ndOf A h.x_ = A.nodes[n] := by rw [hn, ndOf_nat A n hnl]
 have hval := arenaB_value hOk n hnl
 have hver := arenaB_ver hOk v hvl
 obtain ⟨bb, off, rfl, hbb, R⟩ := SliceAt.at I0.r (by omega)
 obtain ⟨bn, on, rfl, hbn, RN⟩ := SliceAt.at I0.n (by omega)
 have V5 := rangeAt_elem (sz := 5) (fun _ => rfl) R v hvl
 have N3 := rangeAt_elem (sz := 3) (fun _ => rfl) RN n hnl
 have v0 : w0.cell? ⟨bb, off + v * 5, none⟩ = some (.int .i64 A.vers[v].next) := by simpa using V5 0 _ rfl
 have v1 : w0.cell? ⟨bb, off + v * 5 + 1, none⟩ = some (.bool A.vers[v].gone) := V5 1 _ rfl
 have v2 : w0.cell? ⟨bb, off + v * 5 + 2, none⟩ = some (.int .i64 A.vers[v].stamp) := V5 2 _ rfl
 have v3 : w0.cell? ⟨bb, off + v * 5 + 3, none⟩ = some (.int .i64 A.vers[v].prev) := V5 3 _ rfl
 have v4 : w0.cell? ⟨bb, off + v * 5 + 4, none⟩ = some (.int .i64 A.vers[v].kind) := V5 4 _ rfl
 have x4 : w0.cell? ⟨w.heap.size, 4, none⟩ = some (.slice (some ⟨bb, off, none⟩) A.vers.length c3) := by simpa using X0 4 _ rfl
 have q11 : w0.cell? ⟨w.heap.size + 1, 11, none⟩ = some (.int .i64 h.ver) := by simpa using H0 11 (.int .i64 h.ver) rfl
 rw [hv] at q11
 have RN0 := RN
 clear R RN V5 N3
 have tok : True := trivial
 go_wp2_with (clear tok; refine stopAt (w0.alloc (.cells #[.int .i64 A.vers[v].next, .bool A.vers[v].gone, .int .i64 A.vers[v].stamp, .int .i64 A.vers[v].prev, .int .i64 A.vers[v].kind] 54)) ?_)
 have al := (Below.refl w0.heap.size w0).alloc (Nat.le_refl _) (.cells #[.int .i64 A.vers[v].next, .bool A.vers[v].gone, .int .i64 A.vers[v].stamp, .int .i64 A.vers[v].prev, .int .i64 A.vers[v].kind] 54)
 have VB1 := rangeAt_new w0 [.int .i64 A.vers[v].next, .bool A.vers[v].gone, .int .i64 A.vers[v].stamp, .int .i64 A.vers[v].prev, .int .i64 A.vers[v].kind] 54
 have X1 := rangeAt_below X0 al (by omega)
 have H1 := rangeAt_below H0 al (by omega)
 have G1 := there_below G0 al (by omega)
 have F1 := there_below F0 al (by omega)
 have K1 := K0.trans (al.mono (by omega))
 have I1 := I0.below (al.mono (by omega))
 have hz1 := Nat.lt_of_lt_of_le hz0 al.size
 have hl1 : w0.heap.size < (w0.alloc (.cells #[.int .i64 A.vers[v].next, .bool A.vers[v].gone, .int .i64 A.vers[v].stamp, .int .i64 A.vers[v].prev, .int .i64 A.vers[v].kind] 54)).heap.size := by simp
 have RN1 := rangeAt_below RN0 al (by omega)
 generalize hw1 : w0.alloc (.cells #[.int .i64 A.vers[v].next, .bool A.vers[v].gone, .int .i64 A.vers[v].stamp, .int .i64 A.vers[v].prev, .int .i64 A.vers[v].kind] 54) = w1 at *
 show wpList _ _ _ _ _ w1
 clear hw1 al X0 H0 G0 F0 K0 I0
 clear v0 v1 v2 v3 v4 x4 q11 RN0
 have N3 := rangeAt_elem (sz := 3) (fun _ => rfl) RN1 n hnl
 have n0 : w1.cell? ⟨bn, on + n * 3, none⟩ = some (.int .i64 A.nodes[n].key) := by simpa using N3 0 _ rfl
 have n1 : w1.cell? ⟨bn, on + n * 3 + 1, none⟩ = some (.int .i64 A.nodes[n].value) := N3 1 _ rfl
 have n2 : w1.cell? ⟨bn, on + n * 3 + 2, none⟩ = some (.int .i64 A.nodes[n].head) := N3 2 _ rfl
 have x3 : w1.cell? ⟨w.heap.size, 3, none⟩ = some (.slice (some ⟨bn, on, none⟩) A.nodes.length c2) := by simpa using X1 3 _ rfl
 have q10 : w1.cell? ⟨w.heap.size + 1, 10, none⟩ = some (.int .i64 h.x_) := by simpa using H1 10 (.int .i64 h.x_) rfl
 rw [hn] at q10
 clear N3
 have tok : True := trivial
 go_wp2_with (clear tok; refine stopAt (w1.alloc (.cells #[.int .i64 A.nodes[n].key, .int .i64 A.nodes[n].value, .int .i64 A.nodes[n].head] 88)) ?_)
 have al := (Below.refl w1.heap.size w1).alloc (Nat.le_refl _) (.cells #[.int .i64 A.nodes[n].key, .int .i64 A.nodes[n].value, .int .i64 A.nodes[n].head] 88)
 have NB2 := rangeAt_new w1 [.int .i64 A.nodes[n].key, .int .i64 A.nodes[n].value, .int .i64 A.nodes[n].head] 88
 have X2 := rangeAt_below X1 al (by omega)
 have H2 := rangeAt_below H1 al (by omega)
 have G2 := there_below G1 al (by omega)
 have F2 := there_below F1 al (by omega)
 have K2 := K1.trans (al.mono (by omega))
 have I2 := I1.below (al.mono (by omega))
 have hz2 := Nat.lt_of_lt_of_le hz1 al.size
 have hl2 : w1.heap.size < (w1.alloc (.cells #[.int .i64 A.nodes[n].key, .int .i64 A.nodes[n].value, .int .i64 A.nodes[n].head] 88)).heap.size := by simp
 have RN2 := rangeAt_below RN1 al (by omega)
 have VB2 := rangeAt_below VB1 al (by omega)
 generalize hw2 : w1.alloc (.cells #[.int .i64 A.nodes[n].key, .int .i64 A.nodes[n].value, .int .i64 A.nodes[n].head] 88) = w2 at *
 show wpList _ _ _ _ _ w2
 clear hw2 al X1 H1 G1 F1 K1 I1
 clear n0 n1 n2 x3 q10 RN1 VB1
 have q0 : w2.cell? ⟨w.heap.size + 1, 0, none⟩ = some (.int .i64 h.at_) := by simpa using H2 0 (.int .i64 h.at_) rfl
 have q2 : w2.cell? ⟨w.heap.size + 1, 2, none⟩ = some (.int .i64 h.code) := by simpa using H2 2 (.int .i64 h.code) rfl
 have q3 : w2.cell? ⟨w.heap.size + 1, 3, none⟩ = some (.int .i64 h.key) := by simpa using H2 3 (.int .i64 h.key) rfl
 have q4 : w2.cell? ⟨w.heap.size + 1, 4, none⟩ = some (.int .i64 h.value) := by simpa using H2 4 (.int .i64 h.value) rfl
 have q7 : w2.cell? ⟨w.heap.size + 1, 7, none⟩ = some (.int .i64 h.out) := by simpa using H2 7 (.int .i64 h.out) rfl
 have q8 : w2.cell? ⟨w.heap.size + 1, 8, none⟩ = some (.int .i64 h.sum) := by simpa using H2 8 (.int .i64 h.sum) rfl
 have q10 : w2.cell? ⟨w.heap.size + 1, 10, none⟩ = some (.int .i64 h.x_) := by simpa using H2 10 (.int .i64 h.x_) rfl
 have f0 : w2.frozen? ⟨w.heap.size + 1, 0, none⟩ = false := by simpa using (G2 0 (by decide)).2
 have f7 : w2.frozen? ⟨w.heap.size + 1, 7, none⟩ = false := by simpa using (G2 7 (by decide)).2
 have f8 : w2.frozen? ⟨w.heap.size + 1, 8, none⟩ = false := by simpa using (G2 8 (by decide)).2
 have f10 : w2.frozen? ⟨w.heap.size + 1, 10, none⟩ = false := by simpa using (G2 10 (by decide)).2
 rw [hn] at q10
 have x3 : w2.cell? ⟨w.heap.size, 3, none⟩ = some (.slice (some ⟨bn, on, none⟩) A.nodes.length c2) := by simpa using X2 3 _ rfl
 have v0 : w2.cell? ⟨w0.heap.size, 0, none⟩ = some (.int .i64 A.vers[v].next) := by simpa using VB2 0 _ rfl
 have v1 : w2.cell? ⟨w0.heap.size, 1, none⟩ = some (.bool A.vers[v].gone) := by simpa using VB2 1 _ rfl
 have n0 : w2.cell? ⟨w1.heap.size, 0, none⟩ = some (.int .i64 A.nodes[n].key) := by simpa using NB2 0 _ rfl
 have n1 : w2.cell? ⟨w1.heap.size, 1, none⟩ = some (.int .i64 A.nodes[n].value) := by simpa using NB2 1 _ rfl
 have e1 : ¬ (w.heap.size + 1 = w0.heap.size) := by omega
 have e2 : ¬ (w.heap.size + 1 = w1.heap.size) := by omega
 have e3 : ¬ (w.heap.size + 1 = bn) := by omega
 clear X2 VB2 NB2 hl1 hl2 hz0 hz1
 by_cases k6 : h.code = 6
 case neg =>
  by_cases k7 : h.code = 7
  case neg =>
   have b6 : (h.code == 6) = false := by simp [k6]
   have b7 : (h.code == 7) = false := by simp [k7]
   have nb6 : (h.code != 6) = true := by simp [k6]
   have nb7 : (h.code != 7) = true := by simp [k7]
   obtain ⟨H', hH⟩ : ∃ H' : Hd, Hid (H' = { h with at_ := 0 }) := by exact ⟨_, rfl⟩
   have hv : Hid (useH A h = H') := by show _ = _; rw [hH.out]; simp [useH, k6, k7]
   go_upto_region 5 with (first | (go_at_call 110; refine (specMin_any _ _ _).mono ?_; rintro e w' ⟨rfl, hw⟩; obtain rfl := hw.symm) | (go_at_call 57; refine (l1In_any _ _ _ _).mono ?_; rintro e w' ⟨rfl, hw⟩; obtain rfl := hw.symm))
   go_wp2_with (first | (refine wpList_load_mid rfl 56 (.tmp 3) rfl (w.heap.size + 1) 0 ?hxln21 (hdC H') _ ?hcn21 Try.underlying56 rfl (sizeHandL H') ?_) | (refine wpList_store_mid rfl 56 (.tmp 4) _ rfl (w.heap.size + 1 + 1) 0 (hdC H').toArray ?hxn21 ?hyn21 ?htn21 (sizeHand _) (oneHand _) ?_))
   try (case hxln21 => rfl)
   case hcn21 => rw [hH.out]; exact (rangeAt_set H2 0 (by simp [hdC]) _)
   try (case hxn21 => rfl)
   try (case hyn21 => rfl)
   case htn21 => exact (there_setCell F2 _ _)
   refine bodyPost_ret (v := .agg (hdC H').toArray) ?_ rfl ⟨by rw [hv.out], ?_⟩
   ·exact results_row Try.results138 _ _ (w.heap.size + 1 + 1) 0 rfl (hdC H') _ (World.rangeAt_setCells_same _ _ _ _ (there_setCell F2 _ _)) Try.underlying56 rfl (sizeHandL _)
   ·exact Below.setCells (by omega) _ _ _ (Below.setCell K2 (p := ⟨w.heap.size + 1, 0, none⟩) (by show w.heap.size ≤ w.heap.size + 1; omega) _)
  have b6 : (h.code == 6) = false := by simp [k6]
  by_cases kx : n = 0
  case pos =>
   have hcb : countB A h = false := by simp [countB, hn, kx]
   have bx0 : ((n : Int) == 0) = true := by simp [kx]
   have nbx0 : ((n : Int) != 0) = false := by simp [kx]
   go_upto_region 13 with (first | (go_at_call 110; refine (specMin_any _ _ _).mono ?_; rintro e w' ⟨rfl, hw⟩; obtain rfl := hw.symm) | (go_at_call 57; refine (l1In_any _ _ _ _).mono ?_; rintro e w' ⟨rfl, hw⟩; obtain rfl := hw.symm))
   by_cases hl : A.vers[v].next < 0
   ·obtain ⟨H', hH⟩ : ∃ H' : Hd, Hid (H' = h) := by exact ⟨_, rfl⟩
    have hv : Hid (useH A h = restOf H' 4 h.out h.sum) := by show _ = _; rw [hH.out]; simp [useH, k7, lastB, hvr, hl, hcb]
    go_upto_region 19 with (first | (go_at_call 110; refine (specMin_any _ _ _).mono ?_; rintro e w' ⟨rfl, hw⟩; obtain rfl := hw.symm) | (go_at_call 57; refine (l1In_any _ _ _ _).mono ?_; rintro e w' ⟨rfl, hw⟩; obtain rfl := hw.symm))
    go_wp2_with (first | (refine wpList_load_mid rfl 56 (.tmp 3) rfl (w.heap.size + 1) 0 ?hxln22 (hdC H') _ ?hcn22 Try.underlying56 rfl (sizeHandL H') ?_))
    try (case hxln22 => rfl)
    case hcn22 => rw [hH.out]; exact H2
    refine (l7Reply_any H' 4 h.out h.sum _).mono ?_
    rintro e w9 ⟨rfl, b9⟩
    have F9 := there_below F2 b9 (by first | omega | (simp; omega))
    have K9 := K2.trans (b9.mono (by first | omega | (simp; omega)))
    go_wp2_with (refine wpList_store_mid rfl 56 (.tmp 4) _ rfl (w.heap.size + 1 + 1) 0 (hdC (restOf H' 4 h.out h.sum)).toArray ?hxn22 ?hyn22 ?htn22 (sizeHand _) (oneHand _) ?_)
    try (case hxn22 => rfl)
    try (case hyn22 => rfl)
    case htn22 => exact F9
    refine bodyPost_ret (v := .agg (hdC (restOf H' 4 h.out h.sum)).toArray) ?_ rfl ⟨by rw [hv.out], ?_⟩
    ·exact results_row Try.results138 _ _ (w.heap.size + 1 + 1) 0 rfl (hdC (restOf H' 4 h.out h.sum)) _ (World.rangeAt_setCells_same _ _ _ _ F9) Try.underlying56 rfl (sizeHandL _)
    ·exact Below.setCells (by omega) _ _ _ K9
   obtain ⟨nn, hnn⟩ : ∃ nn : Nat, A.vers[v].next = nn := ⟨A.vers[v].next.toNat, by omega⟩
   have hnnl : nn < A.nodes.length := by omega
   have hnnl' : (nn : Int) < (A.nodes.length : Int) := by omega
   have hnnl0 : (0 : Int) ≤ (nn : Int) := by omega
   have hnn3 : ¬ ((nn : Int) < 0) := by omega
   have hndn : ndOf A (vrOf A h.ver).next = A.nodes[nn] := by rw [hvr, hnn, ndOf_nat A nn hnnl]
   rw [hnn] at v0
   have m0 : w2.cell? ⟨bn, on + nn * 3, none⟩ = some (.int .i64 A.nodes[nn].key) := by simpa using (rangeAt_elem (sz := 3) (fun _ => rfl) RN2 nn hnnl) 0 _ rfl
   by_cases hk : h.value < A.nodes[nn].key
   ·obtain ⟨H', hH⟩ : ∃ H' : Hd, Hid (H' = h) := by exact ⟨_, rfl⟩
    have hv : Hid (useH A h = restOf H' 4 h.out h.sum) := by show _ = _; rw [hH.out]; simp [useH, k7, lastB, hndn, hk, hcb]
    go_upto_region 19 with (first | (go_at_call 110; refine (specMin_any _ _ _).mono ?_; rintro e w' ⟨rfl, hw⟩; obtain rfl := hw.symm) | (go_at_call 57; refine (l1In_any _ _ _ _).mono ?_; rintro e w' ⟨rfl, hw⟩; obtain rfl := hw.symm))
    go_wp2_with (first | (refine wpList_load_mid rfl 56 (.tmp 3) rfl (w.heap.size + 1) 0 ?hxln23 (hdC H') _ ?hcn23 Try.underlying56 rfl (sizeHandL H') ?_))
    try (case hxln23 => rfl)
    case hcn23 => rw [hH.out]; exact H2
    refine (l7Reply_any H' 4 h.out h.sum _).mono ?_
    rintro e w9 ⟨rfl, b9⟩
    have F9 := there_below F2 b9 (by first | omega | (simp; omega))
    have K9 := K2.trans (b9.mono (by first | omega | (simp; omega)))
    go_wp2_with (refine wpList_store_mid rfl 56 (.tmp 4) _ rfl (w.heap.size + 1 + 1) 0 (hdC (restOf H' 4 h.out h.sum)).toArray ?hxn23 ?hyn23 ?htn23 (sizeHand _) (oneHand _) ?_)
    try (case hxn23 => rfl)
    try (case hyn23 => rfl)
    case htn23 => exact F9
    refine bodyPost_ret (v := .agg (hdC (restOf H' 4 h.out h.sum)).toArray) ?_ rfl ⟨by rw [hv.out], ?_⟩
    ·exact results_row Try.results138 _ _ (w.heap.size + 1 + 1) 0 rfl (hdC (restOf H' 4 h.out h.sum)) _ (World.rangeAt_setCells_same _ _ _ _ F9) Try.underlying56 rfl (sizeHandL _)
    ·exact Below.setCells (by omega) _ _ _ K9
   obtain ⟨H', hH⟩ : ∃ H' : Hd, Hid (H' = { h with x_ := (nn : Int), at_ := 2 }) := by exact ⟨_, rfl⟩
   have hv : Hid (useH A h = H') := by
    show _ = _
    rw [hH.out]
    have hlb : lastB A h = false := by unfold lastB; rw [hndn, hvr, hnn]; simp [k7, hk]
    simp [useH, k7, hlb, hcb, hvr, hnn]
   go_upto_region 22 with (first | (go_at_call 110; refine (specMin_any _ _ _).mono ?_; rintro e w' ⟨rfl, hw⟩; obtain rfl := hw.symm) | (go_at_call 57; refine (l1In_any _ _ _ _).mono ?_; rintro e w' ⟨rfl, hw⟩; obtain rfl := hw.symm))
   go_wp2_with (first | (refine wpList_load_mid rfl 56 (.tmp 3) rfl (w.heap.size + 1) 0 ?hxln24 (hdC H') _ ?hcn24 Try.underlying56 rfl (sizeHandL H') ?_) | (refine wpList_store_mid rfl 56 (.tmp 4) _ rfl (w.heap.size + 1 + 1) 0 (hdC H').toArray ?hxn24 ?hyn24 ?htn24 (sizeHand _) (oneHand _) ?_))
   try (case hxln24 => rfl)
   case hcn24 => rw [hH.out]; exact (rangeAt_set (rangeAt_set H2 10 (by simp [hdC]) _) 0 (by simp [hdC]) _)
   try (case hxn24 => rfl)
   try (case hyn24 => rfl)
   case htn24 => exact (there_setCell (there_setCell F2 _ _) _ _)
   refine bodyPost_ret (v := .agg (hdC H').toArray) ?_ rfl ⟨by rw [hv.out], ?_⟩
   ·exact results_row Try.results138 _ _ (w.heap.size + 1 + 1) 0 rfl (hdC H') _ (World.rangeAt_setCells_same _ _ _ _ (there_setCell (there_setCell F2 _ _) _ _)) Try.underlying56 rfl (sizeHandL _)
   ·exact Below.setCells (by omega) _ _ _ (Below.setCell (Below.setCell K2 (p := ⟨w.heap.size + 1, 10, none⟩) (by show w.heap.size ≤ w.heap.size + 1; omega) _) (p := ⟨w.heap.size + 1, 0, none⟩) (by show w.heap.size ≤ w.heap.size + 1; omega) _)
  have hnx : ¬ (h.x_ = 0) := by omega
  have bx : ((n : Int) == 0) = false := by simp [kx]
  have nbx : ((n : Int) != 0) = true := by simp [kx]
  cases kin : inB A.nodes[n].key h.key h.value
  case false =>
   have hcb : countB A h = false := by simp [countB, hnd, kin]
   go_upto_region 13 with (first | (go_at_call 110; refine (specMin_any _ _ _).mono ?_; rintro e w' ⟨rfl, hw⟩; obtain rfl := hw.symm) | (go_at_call 57; refine (l1In_any _ _ _ _).mono ?_; rintro e w' ⟨rfl, hw⟩; obtain rfl := hw.symm))
   by_cases hl : A.vers[v].next < 0
   ·obtain ⟨H', hH⟩ : ∃ H' : Hd, Hid (H' = h) := by exact ⟨_, rfl⟩
    have hv : Hid (useH A h = restOf H' 4 h.out h.sum) := by show _ = _; rw [hH.out]; simp [useH, k7, lastB, hvr, hl, hcb]
    go_upto_region 19 with (first | (go_at_call 110; refine (specMin_any _ _ _).mono ?_; rintro e w' ⟨rfl, hw⟩; obtain rfl := hw.symm) | (go_at_call 57; refine (l1In_any _ _ _ _).mono ?_; rintro e w' ⟨rfl, hw⟩; obtain rfl := hw.symm))
    go_wp2_with (first | (refine wpList_load_mid rfl 56 (.tmp 3) rfl (w.heap.size + 1) 0 ?hxln25 (hdC H') _ ?hcn25 Try.underlying56 rfl (sizeHandL H') ?_))
    try (case hxln25 => rfl)
    case hcn25 => rw [hH.out]; exact H2
    refine (l7Reply_any H' 4 h.out h.sum _).mono ?_
    rintro e w9 ⟨rfl, b9⟩
    have F9 := there_below F2 b9 (by first | omega | (simp; omega))
    have K9 := K2.trans (b9.mono (by first | omega | (simp; omega)))
    go_wp2_with (refine wpList_store_mid rfl 56 (.tmp 4) _ rfl (w.heap.size + 1 + 1) 0 (hdC (restOf H' 4 h.out h.sum)).toArray ?hxn25 ?hyn25 ?htn25 (sizeHand _) (oneHand _) ?_)
    try (case hxn25 => rfl)
    try (case hyn25 => rfl)
    case htn25 => exact F9
    refine bodyPost_ret (v := .agg (hdC (restOf H' 4 h.out h.sum)).toArray) ?_ rfl ⟨by rw [hv.out], ?_⟩
    ·exact results_row Try.results138 _ _ (w.heap.size + 1 + 1) 0 rfl (hdC (restOf H' 4 h.out h.sum)) _ (World.rangeAt_setCells_same _ _ _ _ F9) Try.underlying56 rfl (sizeHandL _)
    ·exact Below.setCells (by omega) _ _ _ K9
   obtain ⟨nn, hnn⟩ : ∃ nn : Nat, A.vers[v].next = nn := ⟨A.vers[v].next.toNat, by omega⟩
   have hnnl : nn < A.nodes.length := by omega
   have hnnl' : (nn : Int) < (A.nodes.length : Int) := by omega
   have hnnl0 : (0 : Int) ≤ (nn : Int) := by omega
   have hnn3 : ¬ ((nn : Int) < 0) := by omega
   have hndn : ndOf A (vrOf A h.ver).next = A.nodes[nn] := by rw [hvr, hnn, ndOf_nat A nn hnnl]
   rw [hnn] at v0
   have m0 : w2.cell? ⟨bn, on + nn * 3, none⟩ = some (.int .i64 A.nodes[nn].key) := by simpa using (rangeAt_elem (sz := 3) (fun _ => rfl) RN2 nn hnnl) 0 _ rfl
   by_cases hk : h.value < A.nodes[nn].key
   ·obtain ⟨H', hH⟩ : ∃ H' : Hd, Hid (H' = h) := by exact ⟨_, rfl⟩
    have hv : Hid (useH A h = restOf H' 4 h.out h.sum) := by show _ = _; rw [hH.out]; simp [useH, k7, lastB, hndn, hk, hcb]
    go_upto_region 19 with (first | (go_at_call 110; refine (specMin_any _ _ _).mono ?_; rintro e w' ⟨rfl, hw⟩; obtain rfl := hw.symm) | (go_at_call 57; refine (l1In_any _ _ _ _).mono ?_; rintro e w' ⟨rfl, hw⟩; obtain rfl := hw.symm))
    go_wp2_with (first | (refine wpList_load_mid rfl 56 (.tmp 3) rfl (w.heap.size + 1) 0 ?hxln26 (hdC H') _ ?hcn26 Try.underlying56 rfl (sizeHandL H') ?_))
    try (case hxln26 => rfl)
    case hcn26 => rw [hH.out]; exact H2
    refine (l7Reply_any H' 4 h.out h.sum _).mono ?_
    rintro e w9 ⟨rfl, b9⟩
    have F9 := there_below F2 b9 (by first | omega | (simp; omega))
    have K9 := K2.trans (b9.mono (by first | omega | (simp; omega)))
    go_wp2_with (refine wpList_store_mid rfl 56 (.tmp 4) _ rfl (w.heap.size + 1 + 1) 0 (hdC (restOf H' 4 h.out h.sum)).toArray ?hxn26 ?hyn26 ?htn26 (sizeHand _) (oneHand _) ?_)
    try (case hxn26 => rfl)
    try (case hyn26 => rfl)
    case htn26 => exact F9
    refine bodyPost_ret (v := .agg (hdC (restOf H' 4 h.out h.sum)).toArray) ?_ rfl ⟨by rw [hv.out], ?_⟩
    ·exact results_row Try.results138 _ _ (w.heap.size + 1 + 1) 0 rfl (hdC (restOf H' 4 h.out h.sum)) _ (World.rangeAt_setCells_same _ _ _ _ F9) Try.underlying56 rfl (sizeHandL _)
    ·exact Below.setCells (by omega) _ _ _ K9
   obtain ⟨H', hH⟩ : ∃ H' : Hd, Hid (H' = { h with x_ := (nn : Int), at_ := 2 }) := by exact ⟨_, rfl⟩
   have hv : Hid (useH A h = H') := by
    show _ = _
    rw [hH.out]
    have hlb : lastB A h = false := by unfold lastB; rw [hndn, hvr, hnn]; simp [k7, hk]
    simp [useH, k7, hlb, hcb, hvr, hnn]
   go_upto_region 22 with (first | (go_at_call 110; refine (specMin_any _ _ _).mono ?_; rintro e w' ⟨rfl, hw⟩; obtain rfl := hw.symm) | (go_at_call 57; refine (l1In_any _ _ _ _).mono ?_; rintro e w' ⟨rfl, hw⟩; obtain rfl := hw.symm))
   go_wp2_with (first | (refine wpList_load_mid rfl 56 (.tmp 3) rfl (w.heap.size + 1) 0 ?hxln27 (hdC H') _ ?hcn27 Try.underlying56 rfl (sizeHandL H') ?_) | (refine wpList_store_mid rfl 56 (.tmp 4) _ rfl (w.heap.size + 1 + 1) 0 (hdC H').toArray ?hxn27 ?hyn27 ?htn27 (sizeHand _) (oneHand _) ?_))
   try (case hxln27 => rfl)
   case hcn27 => rw [hH.out]; exact (rangeAt_set (rangeAt_set H2 10 (by simp [hdC]) _) 0 (by simp [hdC]) _)
   try (case hxn27 => rfl)
   try (case hyn27 => rfl)
   case htn27 => exact (there_setCell (there_setCell F2 _ _) _ _)
   refine bodyPost_ret (v := .agg (hdC H').toArray) ?_ rfl ⟨by rw [hv.out], ?_⟩
   ·exact results_row Try.results138 _ _ (w.heap.size + 1 + 1) 0 rfl (hdC H') _ (World.rangeAt_setCells_same _ _ _ _ (there_setCell (there_setCell F2 _ _) _ _)) Try.underlying56 rfl (sizeHandL _)
   ·exact Below.setCells (by omega) _ _ _ (Below.setCell (Below.setCell K2 (p := ⟨w.heap.size + 1, 10, none⟩) (by show w.heap.size ≤ w.heap.size + 1; omega) _) (p := ⟨w.heap.size + 1, 0, none⟩) (by show w.heap.size ≤ w.heap.size + 1; omega) _)
  cases kg : A.vers[v].gone
  case true =>
   have hcb : countB A h = false := by simp [countB, hvr, kg]
   go_upto_region 13 with (first | (go_at_call 110; refine (specMin_any _ _ _).mono ?_; rintro e w' ⟨rfl, hw⟩; obtain rfl := hw.symm) | (go_at_call 57; refine (l1In_any _ _ _ _).mono ?_; rintro e w' ⟨rfl, hw⟩; obtain rfl := hw.symm))
   by_cases hl : A.vers[v].next < 0
   ·obtain ⟨H', hH⟩ : ∃ H' : Hd, Hid (H' = h) := by exact ⟨_, rfl⟩
    have hv : Hid (useH A h = restOf H' 4 h.out h.sum) := by show _ = _; rw [hH.out]; simp [useH, k7, lastB, hvr, hl, hcb]
    go_upto_region 19 with (first | (go_at_call 110; refine (specMin_any _ _ _).mono ?_; rintro e w' ⟨rfl, hw⟩; obtain rfl := hw.symm) | (go_at_call 57; refine (l1In_any _ _ _ _).mono ?_; rintro e w' ⟨rfl, hw⟩; obtain rfl := hw.symm))
    go_wp2_with (first | (refine wpList_load_mid rfl 56 (.tmp 3) rfl (w.heap.size + 1) 0 ?hxln28 (hdC H') _ ?hcn28 Try.underlying56 rfl (sizeHandL H') ?_))
    try (case hxln28 => rfl)
    case hcn28 => rw [hH.out]; exact H2
    refine (l7Reply_any H' 4 h.out h.sum _).mono ?_
    rintro e w9 ⟨rfl, b9⟩
    have F9 := there_below F2 b9 (by first | omega | (simp; omega))
    have K9 := K2.trans (b9.mono (by first | omega | (simp; omega)))
    go_wp2_with (refine wpList_store_mid rfl 56 (.tmp 4) _ rfl (w.heap.size + 1 + 1) 0 (hdC (restOf H' 4 h.out h.sum)).toArray ?hxn28 ?hyn28 ?htn28 (sizeHand _) (oneHand _) ?_)
    try (case hxn28 => rfl)
    try (case hyn28 => rfl)
    case htn28 => exact F9
    refine bodyPost_ret (v := .agg (hdC (restOf H' 4 h.out h.sum)).toArray) ?_ rfl ⟨by rw [hv.out], ?_⟩
    ·exact results_row Try.results138 _ _ (w.heap.size + 1 + 1) 0 rfl (hdC (restOf H' 4 h.out h.sum)) _ (World.rangeAt_setCells_same _ _ _ _ F9) Try.underlying56 rfl (sizeHandL _)
    ·exact Below.setCells (by omega) _ _ _ K9
   obtain ⟨nn, hnn⟩ : ∃ nn : Nat, A.vers[v].next = nn := ⟨A.vers[v].next.toNat, by omega⟩
   have hnnl : nn < A.nodes.length := by omega
   have hnnl' : (nn : Int) < (A.nodes.length : Int) := by omega
   have hnnl0 : (0 : Int) ≤ (nn : Int) := by omega
   have hnn3 : ¬ ((nn : Int) < 0) := by omega
   have hndn : ndOf A (vrOf A h.ver).next = A.nodes[nn] := by rw [hvr, hnn, ndOf_nat A nn hnnl]
   rw [hnn] at v0
   have m0 : w2.cell? ⟨bn, on + nn * 3, none⟩ = some (.int .i64 A.nodes[nn].key) := by simpa using (rangeAt_elem (sz := 3) (fun _ => rfl) RN2 nn hnnl) 0 _ rfl
   by_cases hk : h.value < A.nodes[nn].key
   ·obtain ⟨H', hH⟩ : ∃ H' : Hd, Hid (H' = h) := by exact ⟨_, rfl⟩
    have hv : Hid (useH A h = restOf H' 4 h.out h.sum) := by show _ = _; rw [hH.out]; simp [useH, k7, lastB, hndn, hk, hcb]
    go_upto_region 19 with (first | (go_at_call 110; refine (specMin_any _ _ _).mono ?_; rintro e w' ⟨rfl, hw⟩; obtain rfl := hw.symm) | (go_at_call 57; refine (l1In_any _ _ _ _).mono ?_; rintro e w' ⟨rfl, hw⟩; obtain rfl := hw.symm))
    go_wp2_with (first | (refine wpList_load_mid rfl 56 (.tmp 3) rfl (w.heap.size + 1) 0 ?hxln29 (hdC H') _ ?hcn29 Try.underlying56 rfl (sizeHandL H') ?_))
    try (case hxln29 => rfl)
    case hcn29 => rw [hH.out]; exact H2
    refine (l7Reply_any H' 4 h.out h.sum _).mono ?_
    rintro e w9 ⟨rfl, b9⟩
    have F9 := there_below F2 b9 (by first | omega | (simp; omega))
    have K9 := K2.trans (b9.mono (by first | omega | (simp; omega)))
    go_wp2_with (refine wpList_store_mid rfl 56 (.tmp 4) _ rfl (w.heap.size + 1 + 1) 0 (hdC (restOf H' 4 h.out h.sum)).toArray ?hxn29 ?hyn29 ?htn29 (sizeHand _) (oneHand _) ?_)
    try (case hxn29 => rfl)
    try (case hyn29 => rfl)
    case htn29 => exact F9
    refine bodyPost_ret (v := .agg (hdC (restOf H' 4 h.out h.sum)).toArray) ?_ rfl ⟨by rw [hv.out], ?_⟩
    ·exact results_row Try.results138 _ _ (w.heap.size + 1 + 1) 0 rfl (hdC (restOf H' 4 h.out h.sum)) _ (World.rangeAt_setCells_same _ _ _ _ F9) Try.underlying56 rfl (sizeHandL _)
    ·exact Below.setCells (by omega) _ _ _ K9
   obtain ⟨H', hH⟩ : ∃ H' : Hd, Hid (H' = { h with x_ := (nn : Int), at_ := 2 }) := by exact ⟨_, rfl⟩
   have hv : Hid (useH A h = H') := by
    show _ = _
    rw [hH.out]
    have hlb : lastB A h = false := by unfold lastB; rw [hndn, hvr, hnn]; simp [k7, hk]
    simp [useH, k7, hlb, hcb, hvr, hnn]
   go_upto_region 22 with (first | (go_at_call 110; refine (specMin_any _ _ _).mono ?_; rintro e w' ⟨rfl, hw⟩; obtain rfl := hw.symm) | (go_at_call 57; refine (l1In_any _ _ _ _).mono ?_; rintro e w' ⟨rfl, hw⟩; obtain rfl := hw.symm))
   go_wp2_with (first | (refine wpList_load_mid rfl 56 (.tmp 3) rfl (w.heap.size + 1) 0 ?hxln30 (hdC H') _ ?hcn30 Try.underlying56 rfl (sizeHandL H') ?_) | (refine wpList_store_mid rfl 56 (.tmp 4) _ rfl (w.heap.size + 1 + 1) 0 (hdC H').toArray ?hxn30 ?hyn30 ?htn30 (sizeHand _) (oneHand _) ?_))
   try (case hxln30 => rfl)
   case hcn30 => rw [hH.out]; exact (rangeAt_set (rangeAt_set H2 10 (by simp [hdC]) _) 0 (by simp [hdC]) _)
   try (case hxn30 => rfl)
   try (case hyn30 => rfl)
   case htn30 => exact (there_setCell (there_setCell F2 _ _) _ _)
   refine bodyPost_ret (v := .agg (hdC H').toArray) ?_ rfl ⟨by rw [hv.out], ?_⟩
   ·exact results_row Try.results138 _ _ (w.heap.size + 1 + 1) 0 rfl (hdC H') _ (World.rangeAt_setCells_same _ _ _ _ (there_setCell (there_setCell F2 _ _) _ _)) Try.underlying56 rfl (sizeHandL _)
   ·exact Below.setCells (by omega) _ _ _ (Below.setCell (Below.setCell K2 (p := ⟨w.heap.size + 1, 10, none⟩) (by show w.heap.size ≤ w.heap.size + 1; omega) _) (p := ⟨w.heap.size + 1, 0, none⟩) (by show w.heap.size ≤ w.heap.size + 1; omega) _)
  have hcb : countB A h = true := by simp [countB, hnd, hvr, kin, kg, hnx, k7]
  go_upto_region 13 with (first | (go_at_call 110; refine (specMin_any _ _ _).mono ?_; rintro e w' ⟨rfl, hw⟩; obtain rfl := hw.symm) | (go_at_call 57; refine (l1In_any _ _ _ _).mono ?_; rintro e w' ⟨rfl, hw⟩; obtain rfl := hw.symm))
  by_cases hl : A.vers[v].next < 0
  ·obtain ⟨H', hH⟩ : ∃ H' : Hd, Hid (H' = { h with out := min (h.out + 1) (1000000 : Int), sum := min (h.sum + A.nodes[n].value) (1000000 : Int) }) := by exact ⟨_, rfl⟩
   have hv : Hid (useH A h = restOf H' 4 (min (h.out + 1) 1000000) (min (h.sum + A.nodes[n].value) 1000000)) := by show _ = _; rw [hH.out]; simp [useH, k7, lastB, hvr, hl, hcb, countH, hnd] <;> rfl
   go_upto_region 19 with (first | (go_at_call 110; refine (specMin_any _ _ _).mono ?_; rintro e w' ⟨rfl, hw⟩; obtain rfl := hw.symm) | (go_at_call 57; refine (l1In_any _ _ _ _).mono ?_; rintro e w' ⟨rfl, hw⟩; obtain rfl := hw.symm))
   go_wp2_with (first | (refine wpList_load_mid rfl 56 (.tmp 3) rfl (w.heap.size + 1) 0 ?hxln31 (hdC H') _ ?hcn31 Try.underlying56 rfl (sizeHandL H') ?_))
   try (case hxln31 => rfl)
   case hcn31 => rw [hH.out]; exact (rangeAt_set (rangeAt_set H2 7 (by simp [hdC]) _) 8 (by simp [hdC]) _)
   refine (l7Reply_any H' 4 (min (h.out + 1) 1000000) (min (h.sum + A.nodes[n].value) 1000000) _).mono ?_
   rintro e w9 ⟨rfl, b9⟩
   have F9 := there_below (there_setCell (there_setCell F2 _ _) _ _) b9 (by first | omega | (simp; omega))
   have K9 := (Below.setCell (Below.setCell K2 (p := ⟨w.heap.size + 1, 7, none⟩) (by show w.heap.size ≤ w.heap.size + 1; omega) _) (p := ⟨w.heap.size + 1, 8, none⟩) (by show w.heap.size ≤ w.heap.size + 1; omega) _).trans (b9.mono (by first | omega | (simp; omega)))
   go_wp2_with (refine wpList_store_mid rfl 56 (.tmp 4) _ rfl (w.heap.size + 1 + 1) 0 (hdC (restOf H' 4 (min (h.out + 1) 1000000) (min (h.sum + A.nodes[n].value) 1000000))).toArray ?hxn31 ?hyn31 ?htn31 (sizeHand _) (oneHand _) ?_)
   try (case hxn31 => rfl)
   try (case hyn31 => rfl)
   case htn31 => exact F9
   refine bodyPost_ret (v := .agg (hdC (restOf H' 4 (min (h.out + 1) 1000000) (min (h.sum + A.nodes[n].value) 1000000))).toArray) ?_ rfl ⟨by rw [hv.out], ?_⟩
   ·exact results_row Try.results138 _ _ (w.heap.size + 1 + 1) 0 rfl (hdC (restOf H' 4 (min (h.out + 1) 1000000) (min (h.sum + A.nodes[n].value) 1000000))) _ (World.rangeAt_setCells_same _ _ _ _ F9) Try.underlying56 rfl (sizeHandL _)
   ·exact Below.setCells (by omega) _ _ _ K9
  obtain ⟨nn, hnn⟩ : ∃ nn : Nat, A.vers[v].next = nn := ⟨A.vers[v].next.toNat, by omega⟩
  have hnnl : nn < A.nodes.length := by omega
  have hnnl' : (nn : Int) < (A.nodes.length : Int) := by omega
  have hnnl0 : (0 : Int) ≤ (nn : Int) := by omega
  have hnn3 : ¬ ((nn : Int) < 0) := by omega
  have hndn : ndOf A (vrOf A h.ver).next = A.nodes[nn] := by rw [hvr, hnn, ndOf_nat A nn hnnl]
  rw [hnn] at v0
  have m0 : w2.cell? ⟨bn, on + nn * 3, none⟩ = some (.int .i64 A.nodes[nn].key) := by simpa using (rangeAt_elem (sz := 3) (fun _ => rfl) RN2 nn hnnl) 0 _ rfl
  by_cases hk : h.value < A.nodes[nn].key
  ·obtain ⟨H', hH⟩ : ∃ H' : Hd, Hid (H' = { h with out := min (h.out + 1) (1000000 : Int), sum := min (h.sum + A.nodes[n].value) (1000000 : Int) }) := by exact ⟨_, rfl⟩
   have hv : Hid (useH A h = restOf H' 4 (min (h.out + 1) 1000000) (min (h.sum + A.nodes[n].value) 1000000)) := by show _ = _; rw [hH.out]; simp [useH, k7, lastB, hndn, hk, hcb, countH, hnd] <;> rfl
   go_upto_region 19 with (first | (go_at_call 110; refine (specMin_any _ _ _).mono ?_; rintro e w' ⟨rfl, hw⟩; obtain rfl := hw.symm) | (go_at_call 57; refine (l1In_any _ _ _ _).mono ?_; rintro e w' ⟨rfl, hw⟩; obtain rfl := hw.symm))
   go_wp2_with (first | (refine wpList_load_mid rfl 56 (.tmp 3) rfl (w.heap.size + 1) 0 ?hxln32 (hdC H') _ ?hcn32 Try.underlying56 rfl (sizeHandL H') ?_))
   try (case hxln32 => rfl)
   case hcn32 => rw [hH.out]; exact (rangeAt_set (rangeAt_set H2 7 (by simp [hdC]) _) 8 (by simp [hdC]) _)
   refine (l7Reply_any H' 4 (min (h.out + 1) 1000000) (min (h.sum + A.nodes[n].value) 1000000) _).mono ?_
   rintro e w9 ⟨rfl, b9⟩
   have F9 := there_below (there_setCell (there_setCell F2 _ _) _ _) b9 (by first | omega | (simp; omega))
   have K9 := (Below.setCell (Below.setCell K2 (p := ⟨w.heap.size + 1, 7, none⟩) (by show w.heap.size ≤ w.heap.size + 1; omega) _) (p := ⟨w.heap.size + 1, 8, none⟩) (by show w.heap.size ≤ w.heap.size + 1; omega) _).trans (b9.mono (by first | omega | (simp; omega)))
   go_wp2_with (refine wpList_store_mid rfl 56 (.tmp 4) _ rfl (w.heap.size + 1 + 1) 0 (hdC (restOf H' 4 (min (h.out + 1) 1000000) (min (h.sum + A.nodes[n].value) 1000000))).toArray ?hxn32 ?hyn32 ?htn32 (sizeHand _) (oneHand _) ?_)
   try (case hxn32 => rfl)
   try (case hyn32 => rfl)
   case htn32 => exact F9
   refine bodyPost_ret (v := .agg (hdC (restOf H' 4 (min (h.out + 1) 1000000) (min (h.sum + A.nodes[n].value) 1000000))).toArray) ?_ rfl ⟨by rw [hv.out], ?_⟩
   ·exact results_row Try.results138 _ _ (w.heap.size + 1 + 1) 0 rfl (hdC (restOf H' 4 (min (h.out + 1) 1000000) (min (h.sum + A.nodes[n].value) 1000000))) _ (World.rangeAt_setCells_same _ _ _ _ F9) Try.underlying56 rfl (sizeHandL _)
   ·exact Below.setCells (by omega) _ _ _ K9
  obtain ⟨H', hH⟩ : ∃ H' : Hd, Hid (H' = { h with out := min (h.out + 1) (1000000 : Int), sum := min (h.sum + A.nodes[n].value) (1000000 : Int), x_ := (nn : Int), at_ := 2 }) := by exact ⟨_, rfl⟩
  have hv : Hid (useH A h = H') := by
   show _ = _
   rw [hH.out]
   have hlb : lastB A h = false := by unfold lastB; rw [hndn, hvr, hnn]; simp [k7, hk]
   simp [useH, k7, hlb, hcb, hvr, hnn, countH, hnd]
  go_upto_region 22 with (first | (go_at_call 110; refine (specMin_any _ _ _).mono ?_; rintro e w' ⟨rfl, hw⟩; obtain rfl := hw.symm) | (go_at_call 57; refine (l1In_any _ _ _ _).mono ?_; rintro e w' ⟨rfl, hw⟩; obtain rfl := hw.symm))
  go_wp2_with (first | (refine wpList_load_mid rfl 56 (.tmp 3) rfl (w.heap.size + 1) 0 ?hxln33 (hdC H') _ ?hcn33 Try.underlying56 rfl (sizeHandL H') ?_) | (refine wpList_store_mid rfl 56 (.tmp 4) _ rfl (w.heap.size + 1 + 1) 0 (hdC H').toArray ?hxn33 ?hyn33 ?htn33 (sizeHand _) (oneHand _) ?_))
  try (case hxln33 => rfl)
  case hcn33 => rw [hH.out]; exact (rangeAt_set (rangeAt_set (rangeAt_set (rangeAt_set H2 7 (by simp [hdC]) _) 8 (by simp [hdC]) _) 10 (by simp [hdC]) _) 0 (by simp [hdC]) _)
  try (case hxn33 => rfl)
  try (case hyn33 => rfl)
  case htn33 => exact (there_setCell (there_setCell (there_setCell (there_setCell F2 _ _) _ _) _ _) _ _)
  refine bodyPost_ret (v := .agg (hdC H').toArray) ?_ rfl ⟨by rw [hv.out], ?_⟩
  ·exact results_row Try.results138 _ _ (w.heap.size + 1 + 1) 0 rfl (hdC H') _ (World.rangeAt_setCells_same _ _ _ _ (there_setCell (there_setCell (there_setCell (there_setCell F2 _ _) _ _) _ _) _ _)) Try.underlying56 rfl (sizeHandL _)
  ·exact Below.setCells (by omega) _ _ _ (Below.setCell (Below.setCell (Below.setCell (Below.setCell K2 (p := ⟨w.heap.size + 1, 7, none⟩) (by show w.heap.size ≤ w.heap.size + 1; omega) _) (p := ⟨w.heap.size + 1, 8, none⟩) (by show w.heap.size ≤ w.heap.size + 1; omega) _) (p := ⟨w.heap.size + 1, 10, none⟩) (by show w.heap.size ≤ w.heap.size + 1; omega) _) (p := ⟨w.heap.size + 1, 0, none⟩) (by show w.heap.size ≤ w.heap.size + 1; omega) _)
 have b67 : (h.code == 7) = false := by simp [k6]
 have hcb : countB A h = false := by simp [countB, k6]
 by_cases kx : n = 0
 case pos =>
  have bx0 : ((n : Int) == 0) = true := by simp [kx]
  have nbx0 : ((n : Int) != 0) = false := by simp [kx]
  go_upto_region 13 with (first | (go_at_call 110; refine (specMin_any _ _ _).mono ?_; rintro e w' ⟨rfl, hw⟩; obtain rfl := hw.symm) | (go_at_call 57; refine (l1In_any _ _ _ _).mono ?_; rintro e w' ⟨rfl, hw⟩; obtain rfl := hw.symm))
  by_cases hl : A.vers[v].next < 0
  ·obtain ⟨H', hH⟩ : ∃ H' : Hd, Hid (H' = h) := by exact ⟨_, rfl⟩
   have hv : Hid (useH A h = restOf H' 3 0 0) := by show _ = _; rw [hH.out]; simp [useH, k6, lastB, hvr, hl, hn, kx]
   go_upto_region 18 with (first | (go_at_call 110; refine (specMin_any _ _ _).mono ?_; rintro e w' ⟨rfl, hw⟩; obtain rfl := hw.symm) | (go_at_call 57; refine (l1In_any _ _ _ _).mono ?_; rintro e w' ⟨rfl, hw⟩; obtain rfl := hw.symm))
   go_wp2_with (first | (refine wpList_load_mid rfl 56 (.tmp 3) rfl (w.heap.size + 1) 0 ?hxln34 (hdC H') _ ?hcn34 Try.underlying56 rfl (sizeHandL H') ?_))
   try (case hxln34 => rfl)
   case hcn34 => rw [hH.out]; exact H2
   refine (l7Reply_any H' 3 0 0 _).mono ?_
   rintro e w9 ⟨rfl, b9⟩
   have F9 := there_below F2 b9 (by first | omega | (simp; omega))
   have K9 := K2.trans (b9.mono (by first | omega | (simp; omega)))
   go_wp2_with (refine wpList_store_mid rfl 56 (.tmp 4) _ rfl (w.heap.size + 1 + 1) 0 (hdC (restOf H' 3 0 0)).toArray ?hxn34 ?hyn34 ?htn34 (sizeHand _) (oneHand _) ?_)
   try (case hxn34 => rfl)
   try (case hyn34 => rfl)
   case htn34 => exact F9
   refine bodyPost_ret (v := .agg (hdC (restOf H' 3 0 0)).toArray) ?_ rfl ⟨by rw [hv.out], ?_⟩
   ·exact results_row Try.results138 _ _ (w.heap.size + 1 + 1) 0 rfl (hdC (restOf H' 3 0 0)) _ (World.rangeAt_setCells_same _ _ _ _ F9) Try.underlying56 rfl (sizeHandL _)
   ·exact Below.setCells (by omega) _ _ _ K9
  obtain ⟨nn, hnn⟩ : ∃ nn : Nat, A.vers[v].next = nn := ⟨A.vers[v].next.toNat, by omega⟩
  have hnnl : nn < A.nodes.length := by omega
  have hnnl' : (nn : Int) < (A.nodes.length : Int) := by omega
  have hnnl0 : (0 : Int) ≤ (nn : Int) := by omega
  have hnn3 : ¬ ((nn : Int) < 0) := by omega
  have hndn : ndOf A (vrOf A h.ver).next = A.nodes[nn] := by rw [hvr, hnn, ndOf_nat A nn hnnl]
  rw [hnn] at v0
  have m0 : w2.cell? ⟨bn, on + nn * 3, none⟩ = some (.int .i64 A.nodes[nn].key) := by simpa using (rangeAt_elem (sz := 3) (fun _ => rfl) RN2 nn hnnl) 0 _ rfl
  by_cases hk : h.key < A.nodes[nn].key
  ·obtain ⟨H', hH⟩ : ∃ H' : Hd, Hid (H' = h) := by exact ⟨_, rfl⟩
   have hv : Hid (useH A h = restOf H' 3 0 0) := by show _ = _; rw [hH.out]; simp [useH, k6, lastB, hndn, hk, hn, kx]
   go_upto_region 18 with (first | (go_at_call 110; refine (specMin_any _ _ _).mono ?_; rintro e w' ⟨rfl, hw⟩; obtain rfl := hw.symm) | (go_at_call 57; refine (l1In_any _ _ _ _).mono ?_; rintro e w' ⟨rfl, hw⟩; obtain rfl := hw.symm))
   go_wp2_with (first | (refine wpList_load_mid rfl 56 (.tmp 3) rfl (w.heap.size + 1) 0 ?hxln35 (hdC H') _ ?hcn35 Try.underlying56 rfl (sizeHandL H') ?_))
   try (case hxln35 => rfl)
   case hcn35 => rw [hH.out]; exact H2
   refine (l7Reply_any H' 3 0 0 _).mono ?_
   rintro e w9 ⟨rfl, b9⟩
   have F9 := there_below F2 b9 (by first | omega | (simp; omega))
   have K9 := K2.trans (b9.mono (by first | omega | (simp; omega)))
   go_wp2_with (refine wpList_store_mid rfl 56 (.tmp 4) _ rfl (w.heap.size + 1 + 1) 0 (hdC (restOf H' 3 0 0)).toArray ?hxn35 ?hyn35 ?htn35 (sizeHand _) (oneHand _) ?_)
   try (case hxn35 => rfl)
   try (case hyn35 => rfl)
   case htn35 => exact F9
   refine bodyPost_ret (v := .agg (hdC (restOf H' 3 0 0)).toArray) ?_ rfl ⟨by rw [hv.out], ?_⟩
   ·exact results_row Try.results138 _ _ (w.heap.size + 1 + 1) 0 rfl (hdC (restOf H' 3 0 0)) _ (World.rangeAt_setCells_same _ _ _ _ F9) Try.underlying56 rfl (sizeHandL _)
   ·exact Below.setCells (by omega) _ _ _ K9
  obtain ⟨H', hH⟩ : ∃ H' : Hd, Hid (H' = { h with x_ := (nn : Int), at_ := 2 }) := by exact ⟨_, rfl⟩
  have hv : Hid (useH A h = H') := by
   show _ = _
   rw [hH.out]
   have hlb : lastB A h = false := by unfold lastB; rw [hndn, hvr, hnn]; simp [k6, hk]
   simp [useH, k6, hlb, hcb, hvr, hnn, hn, kx]
  go_upto_region 22 with (first | (go_at_call 110; refine (specMin_any _ _ _).mono ?_; rintro e w' ⟨rfl, hw⟩; obtain rfl := hw.symm) | (go_at_call 57; refine (l1In_any _ _ _ _).mono ?_; rintro e w' ⟨rfl, hw⟩; obtain rfl := hw.symm))
  go_wp2_with (first | (refine wpList_load_mid rfl 56 (.tmp 3) rfl (w.heap.size + 1) 0 ?hxln36 (hdC H') _ ?hcn36 Try.underlying56 rfl (sizeHandL H') ?_) | (refine wpList_store_mid rfl 56 (.tmp 4) _ rfl (w.heap.size + 1 + 1) 0 (hdC H').toArray ?hxn36 ?hyn36 ?htn36 (sizeHand _) (oneHand _) ?_))
  try (case hxln36 => rfl)
  case hcn36 => rw [hH.out]; exact (rangeAt_set (rangeAt_set H2 10 (by simp [hdC]) _) 0 (by simp [hdC]) _)
  try (case hxn36 => rfl)
  try (case hyn36 => rfl)
  case htn36 => exact (there_setCell (there_setCell F2 _ _) _ _)
  refine bodyPost_ret (v := .agg (hdC H').toArray) ?_ rfl ⟨by rw [hv.out], ?_⟩
  ·exact results_row Try.results138 _ _ (w.heap.size + 1 + 1) 0 rfl (hdC H') _ (World.rangeAt_setCells_same _ _ _ _ (there_setCell (there_setCell F2 _ _) _ _)) Try.underlying56 rfl (sizeHandL _)
  ·exact Below.setCells (by omega) _ _ _ (Below.setCell (Below.setCell K2 (p := ⟨w.heap.size + 1, 10, none⟩) (by show w.heap.size ≤ w.heap.size + 1; omega) _) (p := ⟨w.heap.size + 1, 0, none⟩) (by show w.heap.size ≤ w.heap.size + 1; omega) _)
 have hnx : ¬ (h.x_ = 0) := by omega
 have bx : ((n : Int) == 0) = false := by simp [kx]
 have nbx : ((n : Int) != 0) = true := by simp [kx]
 have hnd' : ndOf A (n : Int) = A.nodes[n] := ndOf_nat A n hnl
 by_cases kk : A.nodes[n].key = h.key
 case neg =>
  have bk : (A.nodes[n].key == h.key) = false := by simp [kk]
  go_upto_region 13 with (first | (go_at_call 110; refine (specMin_any _ _ _).mono ?_; rintro e w' ⟨rfl, hw⟩; obtain rfl := hw.symm) | (go_at_call 57; refine (l1In_any _ _ _ _).mono ?_; rintro e w' ⟨rfl, hw⟩; obtain rfl := hw.symm))
  by_cases hl : A.vers[v].next < 0
  ·obtain ⟨H', hH⟩ : ∃ H' : Hd, Hid (H' = h) := by exact ⟨_, rfl⟩
   have hv : Hid (useH A h = restOf H' 3 0 0) := by show _ = _; rw [hH.out]; simp [useH, k6, lastB, hvr, hl, hnd, kk]
   go_upto_region 18 with (first | (go_at_call 110; refine (specMin_any _ _ _).mono ?_; rintro e w' ⟨rfl, hw⟩; obtain rfl := hw.symm) | (go_at_call 57; refine (l1In_any _ _ _ _).mono ?_; rintro e w' ⟨rfl, hw⟩; obtain rfl := hw.symm))
   go_wp2_with (first | (refine wpList_load_mid rfl 56 (.tmp 3) rfl (w.heap.size + 1) 0 ?hxln37 (hdC H') _ ?hcn37 Try.underlying56 rfl (sizeHandL H') ?_))
   try (case hxln37 => rfl)
   case hcn37 => rw [hH.out]; exact H2
   refine (l7Reply_any H' 3 0 0 _).mono ?_
   rintro e w9 ⟨rfl, b9⟩
   have F9 := there_below F2 b9 (by first | omega | (simp; omega))
   have K9 := K2.trans (b9.mono (by first | omega | (simp; omega)))
   go_wp2_with (refine wpList_store_mid rfl 56 (.tmp 4) _ rfl (w.heap.size + 1 + 1) 0 (hdC (restOf H' 3 0 0)).toArray ?hxn37 ?hyn37 ?htn37 (sizeHand _) (oneHand _) ?_)
   try (case hxn37 => rfl)
   try (case hyn37 => rfl)
   case htn37 => exact F9
   refine bodyPost_ret (v := .agg (hdC (restOf H' 3 0 0)).toArray) ?_ rfl ⟨by rw [hv.out], ?_⟩
   ·exact results_row Try.results138 _ _ (w.heap.size + 1 + 1) 0 rfl (hdC (restOf H' 3 0 0)) _ (World.rangeAt_setCells_same _ _ _ _ F9) Try.underlying56 rfl (sizeHandL _)
   ·exact Below.setCells (by omega) _ _ _ K9
  obtain ⟨nn, hnn⟩ : ∃ nn : Nat, A.vers[v].next = nn := ⟨A.vers[v].next.toNat, by omega⟩
  have hnnl : nn < A.nodes.length := by omega
  have hnnl' : (nn : Int) < (A.nodes.length : Int) := by omega
  have hnnl0 : (0 : Int) ≤ (nn : Int) := by omega
  have hnn3 : ¬ ((nn : Int) < 0) := by omega
  have hndn : ndOf A (vrOf A h.ver).next = A.nodes[nn] := by rw [hvr, hnn, ndOf_nat A nn hnnl]
  rw [hnn] at v0
  have m0 : w2.cell? ⟨bn, on + nn * 3, none⟩ = some (.int .i64 A.nodes[nn].key) := by simpa using (rangeAt_elem (sz := 3) (fun _ => rfl) RN2 nn hnnl) 0 _ rfl
  by_cases hk : h.key < A.nodes[nn].key
  ·obtain ⟨H', hH⟩ : ∃ H' : Hd, Hid (H' = h) := by exact ⟨_, rfl⟩
   have hv : Hid (useH A h = restOf H' 3 0 0) := by show _ = _; rw [hH.out]; simp [useH, k6, lastB, hndn, hk, hnd, kk]
   go_upto_region 18 with (first | (go_at_call 110; refine (specMin_any _ _ _).mono ?_; rintro e w' ⟨rfl, hw⟩; obtain rfl := hw.symm) | (go_at_call 57; refine (l1In_any _ _ _ _).mono ?_; rintro e w' ⟨rfl, hw⟩; obtain rfl := hw.symm))
   go_wp2_with (first | (refine wpList_load_mid rfl 56 (.tmp 3) rfl (w.heap.size + 1) 0 ?hxln38 (hdC H') _ ?hcn38 Try.underlying56 rfl (sizeHandL H') ?_))
   try (case hxln38 => rfl)
   case hcn38 => rw [hH.out]; exact H2
   refine (l7Reply_any H' 3 0 0 _).mono ?_
   rintro e w9 ⟨rfl, b9⟩
   have F9 := there_below F2 b9 (by first | omega | (simp; omega))
   have K9 := K2.trans (b9.mono (by first | omega | (simp; omega)))
   go_wp2_with (refine wpList_store_mid rfl 56 (.tmp 4) _ rfl (w.heap.size + 1 + 1) 0 (hdC (restOf H' 3 0 0)).toArray ?hxn38 ?hyn38 ?htn38 (sizeHand _) (oneHand _) ?_)
   try (case hxn38 => rfl)
   try (case hyn38 => rfl)
   case htn38 => exact F9
   refine bodyPost_ret (v := .agg (hdC (restOf H' 3 0 0)).toArray) ?_ rfl ⟨by rw [hv.out], ?_⟩
   ·exact results_row Try.results138 _ _ (w.heap.size + 1 + 1) 0 rfl (hdC (restOf H' 3 0 0)) _ (World.rangeAt_setCells_same _ _ _ _ F9) Try.underlying56 rfl (sizeHandL _)
   ·exact Below.setCells (by omega) _ _ _ K9
  obtain ⟨H', hH⟩ : ∃ H' : Hd, Hid (H' = { h with x_ := (nn : Int), at_ := 2 }) := by exact ⟨_, rfl⟩
  have hv : Hid (useH A h = H') := by
   show _ = _
   rw [hH.out]
   have hlb : lastB A h = false := by unfold lastB; rw [hndn, hvr, hnn]; simp [k6, hk]
   simp [useH, k6, hlb, hcb, hvr, hnn, hnd, kk]
  go_upto_region 22 with (first | (go_at_call 110; refine (specMin_any _ _ _).mono ?_; rintro e w' ⟨rfl, hw⟩; obtain rfl := hw.symm) | (go_at_call 57; refine (l1In_any _ _ _ _).mono ?_; rintro e w' ⟨rfl, hw⟩; obtain rfl := hw.symm))
  go_wp2_with (first | (refine wpList_load_mid rfl 56 (.tmp 3) rfl (w.heap.size + 1) 0 ?hxln39 (hdC H') _ ?hcn39 Try.underlying56 rfl (sizeHandL H') ?_) | (refine wpList_store_mid rfl 56 (.tmp 4) _ rfl (w.heap.size + 1 + 1) 0 (hdC H').toArray ?hxn39 ?hyn39 ?htn39 (sizeHand _) (oneHand _) ?_))
  try (case hxln39 => rfl)
  case hcn39 => rw [hH.out]; exact (rangeAt_set (rangeAt_set H2 10 (by simp [hdC]) _) 0 (by simp [hdC]) _)
  try (case hxn39 => rfl)
  try (case hyn39 => rfl)
  case htn39 => exact (there_setCell (there_setCell F2 _ _) _ _)
  refine bodyPost_ret (v := .agg (hdC H').toArray) ?_ rfl ⟨by rw [hv.out], ?_⟩
  ·exact results_row Try.results138 _ _ (w.heap.size + 1 + 1) 0 rfl (hdC H') _ (World.rangeAt_setCells_same _ _ _ _ (there_setCell (there_setCell F2 _ _) _ _)) Try.underlying56 rfl (sizeHandL _)
  ·exact Below.setCells (by omega) _ _ _ (Below.setCell (Below.setCell K2 (p := ⟨w.heap.size + 1, 10, none⟩) (by show w.heap.size ≤ w.heap.size + 1; omega) _) (p := ⟨w.heap.size + 1, 0, none⟩) (by show w.heap.size ≤ w.heap.size + 1; omega) _)
 cases kg : A.vers[v].gone
 ·obtain ⟨H', hH⟩ : ∃ H' : Hd, Hid (H' = h) := by exact ⟨_, rfl⟩
  have hv : Hid (useH A h = restOf H' 2 A.nodes[n].value 0) := by show _ = _; rw [hH.out]; simp [useH, k6, hnx, hnd, kk, hvr, kg]
  go_upto_region 9 with (first | (go_at_call 110; refine (specMin_any _ _ _).mono ?_; rintro e w' ⟨rfl, hw⟩; obtain rfl := hw.symm) | (go_at_call 57; refine (l1In_any _ _ _ _).mono ?_; rintro e w' ⟨rfl, hw⟩; obtain rfl := hw.symm))
  go_wp2_with (first | (refine wpList_load_mid rfl 56 (.tmp 3) rfl (w.heap.size + 1) 0 ?hxln40 (hdC H') _ ?hcn40 Try.underlying56 rfl (sizeHandL H') ?_))
  try (case hxln40 => rfl)
  case hcn40 => rw [hH.out]; exact H2
  refine (l7Reply_any H' 2 A.nodes[n].value 0 _).mono ?_
  rintro e w9 ⟨rfl, b9⟩
  have F9 := there_below F2 b9 (by first | omega | (simp; omega))
  have K9 := K2.trans (b9.mono (by first | omega | (simp; omega)))
  go_wp2_with (refine wpList_store_mid rfl 56 (.tmp 4) _ rfl (w.heap.size + 1 + 1) 0 (hdC (restOf H' 2 A.nodes[n].value 0)).toArray ?hxn40 ?hyn40 ?htn40 (sizeHand _) (oneHand _) ?_)
  try (case hxn40 => rfl)
  try (case hyn40 => rfl)
  case htn40 => exact F9
  refine bodyPost_ret (v := .agg (hdC (restOf H' 2 A.nodes[n].value 0)).toArray) ?_ rfl ⟨by rw [hv.out], ?_⟩
  ·exact results_row Try.results138 _ _ (w.heap.size + 1 + 1) 0 rfl (hdC (restOf H' 2 A.nodes[n].value 0)) _ (World.rangeAt_setCells_same _ _ _ _ F9) Try.underlying56 rfl (sizeHandL _)
  ·exact Below.setCells (by omega) _ _ _ K9
 ·obtain ⟨H', hH⟩ : ∃ H' : Hd, Hid (H' = h) := by exact ⟨_, rfl⟩
  have hv : Hid (useH A h = restOf H' 3 0 0) := by show _ = _; rw [hH.out]; simp [useH, k6, hnx, hnd, kk, hvr, kg]
  go_upto_region 8 with (first | (go_at_call 110; refine (specMin_any _ _ _).mono ?_; rintro e w' ⟨rfl, hw⟩; obtain rfl := hw.symm) | (go_at_call 57; refine (l1In_any _ _ _ _).mono ?_; rintro e w' ⟨rfl, hw⟩; obtain rfl := hw.symm))
  go_wp2_with (first | (refine wpList_load_mid rfl 56 (.tmp 3) rfl (w.heap.size + 1) 0 ?hxln41 (hdC H') _ ?hcn41 Try.underlying56 rfl (sizeHandL H') ?_))
  try (case hxln41 => rfl)
  case hcn41 => rw [hH.out]; exact H2
  refine (l7Reply_any H' 3 0 0 _).mono ?_
  rintro e w9 ⟨rfl, b9⟩
  have F9 := there_below F2 b9 (by first | omega | (simp; omega))
  have K9 := K2.trans (b9.mono (by first | omega | (simp; omega)))
  go_wp2_with (refine wpList_store_mid rfl 56 (.tmp 4) _ rfl (w.heap.size + 1 + 1) 0 (hdC (restOf H' 3 0 0)).toArray ?hxn41 ?hyn41 ?htn41 (sizeHand _) (oneHand _) ?_)
  try (case hxn41 => rfl)
  try (case hyn41 => rfl)
  case htn41 => exact F9
  refine bodyPost_ret (v := .agg (hdC (restOf H' 3 0 0)).toArray) ?_ rfl ⟨by rw [hv.out], ?_⟩
  ·exact results_row Try.results138 _ _ (w.heap.size + 1 + 1) 0 rfl (hdC (restOf H' 3 0 0)) _ (World.rangeAt_setCells_same _ _ _ _ F9) Try.underlying56 rfl (sizeHandL _)
  ·exact Below.setCells (by omega) _ _ _ K9
end
section
attribute [local go_sem ↓] Go.wp_at_zero Go.wp_at_succ
theorem arenaB_guides {x y z u : Int} {A : Ar} (h : arenaB x y z u A = true) : (A.guides.length : Int) = u ∧ ∀ g (hg : g < A.guides.length), 0 ≤ A.guides[g] ∧ A.guides[g] < (A.nodes.length : Int) := by
 have h1 := (arenaB_parts h).1
 have h2 := (arenaB_parts h).2.2.1
 simp only [headB, Bool.and_eq_true, beq_iff_eq] at h1
 refine ⟨h1.1.1.2, fun g hg => ?_⟩
 have := (allIdx_iff _ _).1 h2 g hg
 simp only [inB_iff] at this
 omega
def startI (x y z u : Int) (A : Ar) (key : Int) : Int :=
 if 0 ≤ guideI x y z u key ∧ (ndOf A (A.guides.getD (guideI x y z u key).toNat 0)).key < key then A.guides.getD (guideI x y z u key).toNat 0 else 0
theorem guideI_lt (x y z u k : Int) (h : 0 ≤ guideI x y z u k) : guideI x y z u k < u := by
 unfold guideI at h ⊢
 split at h
 ·rename_i hh
  rw [if_pos hh]
  simp only [Bool.and_eq_true] at hh
  have hp := (planB_iff x y z u).1 hh.1
  have hk := (inB_iff _ _ _).1 hh.2
  have : k * u / 64 ≤ u := by
   apply Int.ediv_le_of_le_mul (by omega)
   have : k * u ≤ 64 * u := Int.mul_le_mul_of_nonneg_right (by omega) (by omega)
   omega
  omega
 ·omega
set_option maxRecDepth 100000 in
set_option maxHeartbeats 4000000 in
theorem l9Start_any (B : Nat) (A : Ar) (x y z u key : Int) (a0 a1 a2 a3 : Option Addr) (c0 c1 c2 c3 : Nat) (w : World) (hB : B ≤ w.heap.size) (hA : A.size ≤ 1048576) (I : ArenaIs B w (.slice a0 A.slots.length c0) (.slice a1 A.guides.length c1) (.slice a2 A.nodes.length c2) (.slice a3 A.vers.length c3) A) (hOk : arenaB x y z u A = true) :
  Calls Try.prog 127 #[.agg #[.int .i64 x, .int .i64 y, .int .i64 z, .int .i64 u], .agg #[.int .i64 A.camera, .slice a0 A.slots.length c0, .slice a1 A.guides.length c1, .slice a2 A.nodes.length c2, .slice a3 A.vers.length c3], .int .i64 key] w fun e w' => e = .returned (.int .i64 (startI x y z u A key)) ∧ Below w.heap.size w w' := by
 unfold Ar.size at hA
 have P0 := (planAt_alloc w x y z u 25).below ((Below.refl _ _).alloc (Nat.le_refl _) (.cells #[.int .i64 A.camera, .slice a0 A.slots.length c0, .slice a1 A.guides.length c1, .slice a2 A.nodes.length c2, .slice a3 A.vers.length c3] 30)) (by simp)
 have X0 : World.rangeAt ((w.alloc (.cells #[.int .i64 x, .int .i64 y, .int .i64 z, .int .i64 u] 25)).alloc (.cells #[.int .i64 A.camera, .slice a0 A.slots.length c0, .slice a1 A.guides.length c1, .slice a2 A.nodes.length c2, .slice a3 A.vers.length c3] 30)) (w.heap.size + 1) 0 [.int .i64 A.camera, .slice a0 A.slots.length c0, .slice a1 A.guides.length c1, .slice a2 A.nodes.length c2, .slice a3 A.vers.length c3] := by
  have h := rangeAt_new (w.alloc (.cells #[.int .i64 x, .int .i64 y, .int .i64 z, .int .i64 u] 25)) [.int .i64 A.camera, .slice a0 A.slots.length c0, .slice a1 A.guides.length c1, .slice a2 A.nodes.length c2, .slice a3 A.vers.length c3] 30
  simp only [World.size_alloc] at h
  exact h
 have K0 := ((Below.refl w.heap.size w).alloc (Nat.le_refl _) (.cells #[.int .i64 x, .int .i64 y, .int .i64 z, .int .i64 u] 25)).alloc (by simp) (.cells #[.int .i64 A.camera, .slice a0 A.slots.length c0, .slice a1 A.guides.length c1, .slice a2 A.nodes.length c2, .slice a3 A.vers.length c3] 30)
 have hz0 : w.heap.size + 1 < ((w.alloc (.cells #[.int .i64 x, .int .i64 y, .int .i64 z, .int .i64 u] 25)).alloc (.cells #[.int .i64 A.camera, .slice a0 A.slots.length c0, .slice a1 A.guides.length c1, .slice a2 A.nodes.length c2, .slice a3 A.vers.length c3] 30)).heap.size := by simp
 obtain ⟨p0, p1, p2, p3⟩ := P0
 go_enter Try.func127, Try.ntmps127
 go_wp2_with fail
 refine (specGuideOf_any x y z u key _).mono ?_
 rintro e w1 ⟨rfl, b1⟩
 have X1 := rangeAt_below X0 b1 hz0
 have K1 := K0.trans (b1.mono (by omega))
 have I1 := I.below (K1.mono hB)
 clear p0 p1 p2 p3 X0 K0 b1 I
 obtain ⟨x0, x1, x2, x3, x4⟩ := row5 X1
 by_cases hg0 : 0 ≤ guideI x y z u key
 case neg =>
  have hv : Hid (startI x y z u A key = 0) := by show _ = _; simp [startI, hg0]
  go_wp2_with fail
  have hg2 : ¬ (0 ≤ guideI x y z u key) := by omega
  go_quiet (fail)
  go_wp2
  go_ret
  exact ⟨by rw [hv.out]; rfl, ⟨K1.os, K1.tape, K1.output, K1.size, K1.block⟩⟩
 have hgu := guideI_lt x y z u key hg0
 obtain ⟨hgl, hgs⟩ := arenaB_guides hOk
 obtain ⟨g, hg⟩ : ∃ g : Nat, guideI x y z u key = g := ⟨(guideI x y z u key).toNat, by omega⟩
 have hgn : g < A.guides.length := by omega
 have hgn' : (g : Int) < (A.guides.length : Int) := by omega
 have hgn0 : (0 : Int) ≤ (g : Int) := by omega
 obtain ⟨m0, m1⟩ := hgs g hgn
 obtain ⟨m, hm⟩ : ∃ m : Nat, A.guides[g] = m := ⟨A.guides[g].toNat, by omega⟩
 have hml : m < A.nodes.length := by omega
 have hml' : (m : Int) < (A.nodes.length : Int) := by omega
 have hml0 : (0 : Int) ≤ (m : Int) := by omega
 have hgd : A.guides.getD (guideI x y z u key).toNat 0 = (m : Int) := by rw [hg, Int.toNat_natCast, List.getD_eq_getElem?_getD, List.getElem?_eq_getElem hgn, Option.getD_some, hm]
 obtain ⟨bg, og, rfl, hbg, RG⟩ := SliceAt.at I1.g (by omega)
 obtain ⟨bn, on, rfl, hbn, RN⟩ := SliceAt.at I1.n (by omega)
 have n0 : w1.cell? ⟨bn, on + m * 3, none⟩ = some (.int .i64 A.nodes[m].key) := by simpa using (rangeAt_elem (sz := 3) (fun _ => rfl) RN m hml) 0 _ rfl
 have g0 : w1.cell? ⟨bg, og + g, none⟩ = some (.int .i64 m) := by have := (rangeAt_elem (sz := 1) (fun _ => rfl) RG g hgn) 0 (.int .i64 A.guides[g]) rfl; rw [hm] at this; simpa using this
 have hnd : ndOf A (m : Int) = A.nodes[m] := ndOf_nat A m hml
 have hvv : Hid (startI x y z u A key = if A.nodes[m].key < key then (m : Int) else 0) := by
  show _ = _
  unfold startI
  rw [hgd, hnd]
  by_cases hc : A.nodes[m].key < key
  ·rw [if_pos ⟨hg0, hc⟩, if_pos hc]
  ·rw [if_neg (fun h => hc h.2), if_neg hc]
 rw [hg]
 clear RG RN hgd hg0 hgu hgl hgs hm hg
 by_cases hc : A.nodes[m].key < key
 ·have hv : Hid (startI x y z u A key = (m : Int)) := by show _ = _; rw [hvv.out, if_pos hc]
  go_wp2_with fail
  go_quiet (fail)
  go_wp2
  go_ret
  exact ⟨by rw [hv.out]; rfl, ⟨K1.os, K1.tape, K1.output, K1.size, K1.block⟩⟩
 ·have hv : Hid (startI x y z u A key = 0) := by show _ = _; rw [hvv.out, if_neg hc]
  go_wp2_with fail
  go_quiet (fail)
  go_wp2
  go_ret
  exact ⟨by rw [hv.out]; rfl, ⟨K1.os, K1.tape, K1.output, K1.size, K1.block⟩⟩
structure Dd where
 kind : Int
 key : Int
 value : Int
 stamp : Int
 clock : Int
def ddC (d : Dd) : List Value := [.int .i64 d.kind, .int .i64 d.key, .int .i64 d.value, .int .i64 d.stamp, .int .i64 d.clock]
def zeroD : Dd := ⟨0, 0, 0, 0, 0⟩
def deedN (A : Ar) (h : Hd) : Int := if (vrOf A h.ver).kind = 1 then max (vrOf A h.ver).next 0 else h.x_
def deedOf (A : Ar) (h : Hd) : Dd := if (vrOf A h.ver).kind = 0 then zeroD else ⟨(vrOf A h.ver).kind, (ndOf A (deedN A h)).key, (ndOf A (deedN A h)).value, h.cam, h.camAt⟩
theorem sizeDeed (d : Dd) : (Try.prog.info? 152).map (fun i => i.size) = some (ddC d).toArray.size := by
 show _ = some 5
 kernel_rfl
theorem sizeDeedL (d : Dd) : (Try.prog.info? 152).map (fun i => i.size) = some (ddC d).length := by
 show _ = some 5
 kernel_rfl
theorem oneDeed (d : Dd) : (ddC d).toArray.all (·.oneCell') = true := by simp [ddC, Value.oneCell']
set_option maxRecDepth 100000 in
set_option maxHeartbeats 4000000 in
theorem l7Deed_any (B : Nat) (A : Ar) (h : Hd) (a0 a1 a2 a3 : Option Addr) (c0 c1 c2 c3 : Nat) (w : World) (hB : B ≤ w.heap.size) (hA : A.size ≤ 1048576) (I : ArenaIs B w (.slice a0 A.slots.length c0) (.slice a1 A.guides.length c1) (.slice a2 A.nodes.length c2) (.slice a3 A.vers.length c3) A) (x y z u : Int) (hOk : arenaB x y z u A = true) (hv0 : 0 ≤ h.ver) (hv1 : h.ver < (A.vers.length : Int)) (hx0 : 0 ≤ h.x_) (hx1 : h.x_ < (A.nodes.length : Int)) :
  Calls Try.prog 132 #[.agg #[.int .i64 A.camera, .slice a0 A.slots.length c0, .slice a1 A.guides.length c1, .slice a2 A.nodes.length c2, .slice a3 A.vers.length c3], .agg (hdC h).toArray] w fun e w' => e = .returned (.agg (ddC (deedOf A h)).toArray) ∧ Below w.heap.size w w' := by
 unfold Ar.size at hA
 have X0 := World.rangeAt_alloc (World.rangeAt_alloc (rangeAt_new w [.int .i64 A.camera, .slice a0 A.slots.length c0, .slice a1 A.guides.length c1, .slice a2 A.nodes.length c2, .slice a3 A.vers.length c3] 30) (.cells (hdC h).toArray 56)) (.cells #[.int .i64 0, .int .i64 0, .int .i64 0, .int .i64 0, .int .i64 0] 152)
 have H0 := World.rangeAt_alloc (rangeAt_new (w.alloc (.cells #[.int .i64 A.camera, .slice a0 A.slots.length c0, .slice a1 A.guides.length c1, .slice a2 A.nodes.length c2, .slice a3 A.vers.length c3] 30)) (hdC h) 56) (.cells #[.int .i64 0, .int .i64 0, .int .i64 0, .int .i64 0, .int .i64 0] 152)
 have G0 := World.there_alloc (there_new (w.alloc (.cells #[.int .i64 A.camera, .slice a0 A.slots.length c0, .slice a1 A.guides.length c1, .slice a2 A.nodes.length c2, .slice a3 A.vers.length c3] 30)) (hdC h).toArray 56 22 (by simp [hdC])) (.cells #[.int .i64 0, .int .i64 0, .int .i64 0, .int .i64 0, .int .i64 0] 152)
 have F0 := there_new ((w.alloc (.cells #[.int .i64 A.camera, .slice a0 A.slots.length c0, .slice a1 A.guides.length c1, .slice a2 A.nodes.length c2, .slice a3 A.vers.length c3] 30)).alloc (.cells (hdC h).toArray 56)) #[.int .i64 0, .int .i64 0, .int .i64 0, .int .i64 0, .int .i64 0] 152 5 (by decide)
 have K0 := (((Below.refl w.heap.size w).alloc (Nat.le_refl _) (.cells #[.int .i64 A.camera, .slice a0 A.slots.length c0, .slice a1 A.guides.length c1, .slice a2 A.nodes.length c2, .slice a3 A.vers.length c3] 30)).alloc (by simp) (.cells (hdC h).toArray 56)).alloc (by simp; omega) (.cells #[.int .i64 0, .int .i64 0, .int .i64 0, .int .i64 0, .int .i64 0] 152)
 have hz0 : w.heap.size + 1 + 1 < (((w.alloc (.cells #[.int .i64 A.camera, .slice a0 A.slots.length c0, .slice a1 A.guides.length c1, .slice a2 A.nodes.length c2, .slice a3 A.vers.length c3] 30)).alloc (.cells (hdC h).toArray 56)).alloc (.cells #[.int .i64 0, .int .i64 0, .int .i64 0, .int .i64 0, .int .i64 0] 152)).heap.size := by simp
 simp only [World.size_alloc] at H0 G0 F0
 have I0 := I.below (K0.mono hB)
 go_enter Try.func132, Try.ntmps132
 have tok : True := trivial
 go_wp2_with (clear tok; refine stopAt (((w.alloc (.cells #[.int .i64 A.camera, .slice a0 A.slots.length c0, .slice a1 A.guides.length c1, .slice a2 A.nodes.length c2, .slice a3 A.vers.length c3] 30)).alloc (.cells (hdC h).toArray 56)).alloc (.cells #[.int .i64 0, .int .i64 0, .int .i64 0, .int .i64 0, .int .i64 0] 152)) ?_)
 generalize hw0 : ((w.alloc (.cells #[.int .i64 A.camera, .slice a0 A.slots.length c0, .slice a1 A.guides.length c1, .slice a2 A.nodes.length c2, .slice a3 A.vers.length c3] 30)).alloc (.cells (hdC h).toArray 56)).alloc (.cells #[.int .i64 0, .int .i64 0, .int .i64 0, .int .i64 0, .int .i64 0] 152) = w0 at *
 clear hw0 I
 show wpList _ _ _ _ _ w0
 obtain ⟨v, hv⟩ : ∃ v : Nat, h.ver = v := ⟨h.ver.toNat, by omega⟩
 have hvl : v < A.vers.length := by omega
 have hvl' : (v : Int) < (A.vers.length : Int) := by omega
 have hvl0 : (0 : Int) ≤ (v : Int) := by omega
 have hvr : vrOf A h.ver = A.vers[v] := by rw [hv, vrOf_nat A v hvl]
 have hver := arenaB_ver hOk v hvl
 obtain ⟨bb, off, rfl, hbb, R⟩ := SliceAt.at I0.r (by omega)
 have V5 := rangeAt_elem (sz := 5) (fun _ => rfl) R v hvl
 have v0 : w0.cell? ⟨bb, off + v * 5, none⟩ = some (.int .i64 A.vers[v].next) := by simpa using V5 0 _ rfl
 have v1 : w0.cell? ⟨bb, off + v * 5 + 1, none⟩ = some (.bool A.vers[v].gone) := V5 1 _ rfl
 have v2 : w0.cell? ⟨bb, off + v * 5 + 2, none⟩ = some (.int .i64 A.vers[v].stamp) := V5 2 _ rfl
 have v3 : w0.cell? ⟨bb, off + v * 5 + 3, none⟩ = some (.int .i64 A.vers[v].prev) := V5 3 _ rfl
 have v4 : w0.cell? ⟨bb, off + v * 5 + 4, none⟩ = some (.int .i64 A.vers[v].kind) := V5 4 _ rfl
 have x4 : w0.cell? ⟨w.heap.size, 4, none⟩ = some (.slice (some ⟨bb, off, none⟩) A.vers.length c3) := by simpa using X0 4 _ rfl
 have q11 : w0.cell? ⟨w.heap.size + 1, 11, none⟩ = some (.int .i64 h.ver) := by simpa using H0 11 (.int .i64 h.ver) rfl
 rw [hv] at q11
 clear R V5
 have tok : True := trivial
 go_wp2_with (clear tok; refine stopAt (w0.alloc (.cells #[.int .i64 A.vers[v].next, .bool A.vers[v].gone, .int .i64 A.vers[v].stamp, .int .i64 A.vers[v].prev, .int .i64 A.vers[v].kind] 54)) ?_)
 have al := (Below.refl w0.heap.size w0).alloc (Nat.le_refl _) (.cells #[.int .i64 A.vers[v].next, .bool A.vers[v].gone, .int .i64 A.vers[v].stamp, .int .i64 A.vers[v].prev, .int .i64 A.vers[v].kind] 54)
 have VB1 := rangeAt_new w0 [.int .i64 A.vers[v].next, .bool A.vers[v].gone, .int .i64 A.vers[v].stamp, .int .i64 A.vers[v].prev, .int .i64 A.vers[v].kind] 54
 have X1 := rangeAt_below X0 al (by omega)
 have H1 := rangeAt_below H0 al (by omega)
 have G1 := there_below G0 al (by omega)
 have F1 := there_below F0 al (by omega)
 have K1 := K0.trans (al.mono (by omega))
 have I1 := I0.below (al.mono (by omega))
 have hz1 := Nat.lt_of_lt_of_le hz0 al.size
 have hl1 : w0.heap.size < (w0.alloc (.cells #[.int .i64 A.vers[v].next, .bool A.vers[v].gone, .int .i64 A.vers[v].stamp, .int .i64 A.vers[v].prev, .int .i64 A.vers[v].kind] 54)).heap.size := by simp
 generalize hw1 : w0.alloc (.cells #[.int .i64 A.vers[v].next, .bool A.vers[v].gone, .int .i64 A.vers[v].stamp, .int .i64 A.vers[v].prev, .int .i64 A.vers[v].kind] 54) = w1 at *
 show wpList _ _ _ _ _ w1
 clear hw1 al X0 H0 G0 F0 K0 I0
 clear v0 v1 v2 v3 v4 x4 q11
 have hvH : Hid (h.ver = v) := hv
 clear hv hvl' hvl0
 obtain ⟨x0, x1, x2, x3, x4⟩ := row5 X1
 have q10 : w1.cell? ⟨w.heap.size + 1, 10, none⟩ = some (.int .i64 h.x_) := by simpa using H1 10 (.int .i64 h.x_) rfl
 have q12 : w1.cell? ⟨w.heap.size + 1, 12, none⟩ = some (.int .i64 h.cam) := by simpa using H1 12 (.int .i64 h.cam) rfl
 have q13 : w1.cell? ⟨w.heap.size + 1, 13, none⟩ = some (.int .i64 h.camAt) := by simpa using H1 13 (.int .i64 h.camAt) rfl
 have v0 : w1.cell? ⟨w0.heap.size, 0, none⟩ = some (.int .i64 A.vers[v].next) := by simpa using VB1 0 _ rfl
 have v4 : w1.cell? ⟨w0.heap.size, 4, none⟩ = some (.int .i64 A.vers[v].kind) := by simpa using VB1 4 _ rfl
 by_cases k0 : A.vers[v].kind = 0
 case pos =>
  have hd : Hid (deedOf A h = zeroD) := by show _ = _; simp [deedOf, hvr, k0]
  go_upto_region 6 with fail
  go_wp2_with (refine wpList_store_mid rfl 152 (.tmp 4) _ rfl (w.heap.size + 1 + 1) 0 (ddC zeroD).toArray ?dx1 ?dy1 ?dt1 (sizeDeed _) (oneDeed _) ?_)
  try (case dx1 => rfl)
  try (case dy1 => rfl)
  try (case dt1 => exact F1)
  refine bodyPost_ret (v := .agg (ddC zeroD).toArray) ?_ rfl ⟨by rw [hd.out], ?_⟩
  ·exact results_row Try.results132 _ _ (w.heap.size + 1 + 1) 0 rfl (ddC zeroD) _ (World.rangeAt_setCells_same _ _ _ _ F1) Try.underlying152 rfl (sizeDeedL _)
  ·exact Below.setCells (by omega) _ _ _ K1
 have b0 : (A.vers[v].kind == 0) = false := by simp [k0]
 by_cases k1 : A.vers[v].kind = 1
 case pos =>
  obtain ⟨n, hn⟩ : ∃ n : Nat, max A.vers[v].next 0 = n := ⟨(max A.vers[v].next 0).toNat, by omega⟩
  have hdn : deedN A h = (n : Int) := by unfold deedN; rw [hvr, if_pos k1, hn]
  have hnl : n < A.nodes.length := by omega
  have hnl' : (n : Int) < (A.nodes.length : Int) := by omega
  have hnl0 : (0 : Int) ≤ (n : Int) := by omega
  have hnd : ndOf A (n : Int) = A.nodes[n] := ndOf_nat A n hnl
  obtain ⟨bn, on, rfl, hbn, RN⟩ := SliceAt.at I1.n (by omega)
  have N3 := rangeAt_elem (sz := 3) (fun _ => rfl) RN n hnl
  have n0 : w1.cell? ⟨bn, on + n * 3, none⟩ = some (.int .i64 A.nodes[n].key) := by simpa using N3 0 _ rfl
  have n1 : w1.cell? ⟨bn, on + n * 3 + 1, none⟩ = some (.int .i64 A.nodes[n].value) := N3 1 _ rfl
  clear RN N3
  obtain ⟨D', hD⟩ : ∃ D' : Dd, Hid (D' = ⟨1, A.nodes[n].key, A.nodes[n].value, h.cam, h.camAt⟩) := by exact ⟨_, rfl⟩
  have hd : Hid (deedOf A h = D') := by show _ = _; rw [hD.out]; unfold deedOf; rw [hvr, if_neg k0, hdn, hnd, k1]
  go_upto_region 7 with (first | (go_at_call 120; refine (specMax_any _ _ _).mono ?_; rintro e w' ⟨rfl, hw⟩; obtain rfl := hw.symm))
  clear hn
  refine wp_region_split 18 (by kernel_rfl) (by kernel_rfl) ?_
  simp only [List.take_succ_cons, List.take_zero, List.drop_succ_cons, List.drop_zero]
  repeat (quiet_step (fail))
  refine wpQuiet_nil ?_
  rintro _ ⟨nr, rfl⟩
  have FR : (w1.drewN nr).there (w.heap.size + 1 + 1) 0 5 := F1
  have KR : Below w.heap.size w (w1.drewN nr) := ⟨K1.os, K1.tape, K1.output, K1.size, K1.block⟩
  go_wp2_with (refine wpList_store_mid rfl 152 (.tmp 4) _ rfl (w.heap.size + 1 + 1) 0 (ddC D').toArray ?dx2 ?dy2 ?dt2 (sizeDeed _) (oneDeed _) ?_)
  try (case dx2 => rfl)
  try (case dy2 => rw [hD.out]; rfl)
  try (case dt2 => exact FR)
  refine bodyPost_ret (v := .agg (ddC D').toArray) ?_ rfl ⟨by rw [hd.out], ?_⟩
  ·exact results_row Try.results132 _ _ (w.heap.size + 1 + 1) 0 rfl (ddC D') _ (World.rangeAt_setCells_same _ _ _ _ FR) Try.underlying152 rfl (sizeDeedL _)
  ·exact Below.setCells (by omega) _ _ _ KR
 have b1 : (A.vers[v].kind == 1) = false := by simp [k1]
 obtain ⟨n, hn⟩ : ∃ n : Nat, h.x_ = n := ⟨h.x_.toNat, by omega⟩
 have hdn : deedN A h = (n : Int) := by unfold deedN; rw [hvr, if_neg k1, hn]
 rw [hn] at q10
 have hnl : n < A.nodes.length := by omega
 have hnl' : (n : Int) < (A.nodes.length : Int) := by omega
 have hnl0 : (0 : Int) ≤ (n : Int) := by omega
 have hnd : ndOf A (n : Int) = A.nodes[n] := ndOf_nat A n hnl
 obtain ⟨bn, on, rfl, hbn, RN⟩ := SliceAt.at I1.n (by omega)
 have N3 := rangeAt_elem (sz := 3) (fun _ => rfl) RN n hnl
 have n0 : w1.cell? ⟨bn, on + n * 3, none⟩ = some (.int .i64 A.nodes[n].key) := by simpa using N3 0 _ rfl
 have n1 : w1.cell? ⟨bn, on + n * 3 + 1, none⟩ = some (.int .i64 A.nodes[n].value) := N3 1 _ rfl
 clear RN N3
 obtain ⟨D', hD⟩ : ∃ D' : Dd, Hid (D' = ⟨A.vers[v].kind, A.nodes[n].key, A.nodes[n].value, h.cam, h.camAt⟩) := by exact ⟨_, rfl⟩
 have hd : Hid (deedOf A h = D') := by show _ = _; rw [hD.out]; unfold deedOf; rw [hvr, if_neg k0, hdn, hnd]
 go_upto_region 7 with (first | (go_at_call 120; refine (specMax_any _ _ _).mono ?_; rintro e w' ⟨rfl, hw⟩; obtain rfl := hw.symm))
 clear hn
 refine wp_region_split 18 (by kernel_rfl) (by kernel_rfl) ?_
 simp only [List.take_succ_cons, List.take_zero, List.drop_succ_cons, List.drop_zero]
 repeat (quiet_step (fail))
 refine wpQuiet_nil ?_
 rintro _ ⟨nr, rfl⟩
 have FR : (w1.drewN nr).there (w.heap.size + 1 + 1) 0 5 := F1
 have KR : Below w.heap.size w (w1.drewN nr) := ⟨K1.os, K1.tape, K1.output, K1.size, K1.block⟩
 go_wp2_with (refine wpList_store_mid rfl 152 (.tmp 4) _ rfl (w.heap.size + 1 + 1) 0 (ddC D').toArray ?dx3 ?dy3 ?dt3 (sizeDeed _) (oneDeed _) ?_)
 try (case dx3 => rfl)
 try (case dy3 => rw [hD.out]; rfl)
 try (case dt3 => exact FR)
 refine bodyPost_ret (v := .agg (ddC D').toArray) ?_ rfl ⟨by rw [hd.out], ?_⟩
 ·exact results_row Try.results132 _ _ (w.heap.size + 1 + 1) 0 rfl (ddC D') _ (World.rangeAt_setCells_same _ _ _ _ FR) Try.underlying152 rfl (sizeDeedL _)
 ·exact Below.setCells (by omega) _ _ _ KR
end
section
attribute [local go_sem ↓] Go.wp_at_zero Go.wp_at_succ
def doneC (cam : Int) (s g n r : Value) (h : Hd) (d : Dd) (tk : Bool) : List Value := [.int .i64 cam, s, g, n, r] ++ (hdC h ++ (ddC d ++ [.bool tk]))
theorem doneC_length (cam : Int) (s g n r : Value) (h : Hd) (d : Dd) (tk : Bool) : (doneC cam s g n r h d tk).length = 33 := rfl
theorem rangeAt_app {w : World} {b o : Nat} {p q : List Value} (R : w.rangeAt b o (p ++ q)) : w.rangeAt b o p ∧ w.rangeAt b (o + p.length) q := by
 constructor
 ·intro j v hj
  have hlt : j < p.length := by
   rcases Nat.lt_or_ge j p.length with h | h
   ·exact h
   ·rw [List.getElem?_eq_none h] at hj; cases hj
  exact R j v (by rw [List.getElem?_append_left hlt]; exact hj)
 ·intro j v hj
  have := R (p.length + j) v (by rw [List.getElem?_append_right (by omega)]; simpa using hj)
  rw [← Nat.add_assoc] at this
  exact this
theorem rangeAt_join {w : World} {b o : Nat} {p q : List Value} (R : w.rangeAt b o p) (R' : w.rangeAt b (o + p.length) q) : w.rangeAt b o (p ++ q) := by
 intro j v hj
 rcases Nat.lt_or_ge j p.length with h | h
 ·rw [List.getElem?_append_left h] at hj
  exact R j v hj
 ·rw [List.getElem?_append_right h] at hj
  have := R' (j - p.length) v hj
  rw [show o + p.length + (j - p.length) = o + j by omega] at this
  exact this
theorem done_parts {w : World} {b : Nat} {cam : Int} {s g n r : Value} {h : Hd} {d : Dd} {tk : Bool} (R : w.rangeAt b 0 (doneC cam s g n r h d tk)) : w.rangeAt b 0 [.int .i64 cam, s, g, n, r] ∧ w.rangeAt b 5 (hdC h) ∧ w.rangeAt b 27 (ddC d) ∧ w.cell? ⟨b, 32, none⟩ = some (.bool tk) := by
 unfold doneC at R
 obtain ⟨R1, R2⟩ := rangeAt_app R
 obtain ⟨R3, R4⟩ := rangeAt_app R2
 obtain ⟨R5, R6⟩ := rangeAt_app R4
 refine ⟨R1, R3, R5, ?_⟩
 have := R6 0 (.bool tk) rfl
 exact this
theorem done_hand {w : World} {b : Nat} {cam : Int} {s g n r : Value} {h : Hd} {d : Dd} {tk : Bool} (R : w.rangeAt b 0 (doneC cam s g n r h d tk)) (T : w.there b 5 22) (h' : Hd) : (w.setCells b 5 (hdC h')).rangeAt b 0 (doneC cam s g n r h' d tk) := by
 unfold doneC at R
 obtain ⟨R1, R2⟩ := rangeAt_app R
 obtain ⟨R3, R4⟩ := rangeAt_app R2
 unfold doneC
 refine rangeAt_join (World.rangeAt_setCells_apart R1 _ _ _ (Or.inr (Or.inl (by simp)))) (rangeAt_join (World.rangeAt_setCells_same w b 5 (hdC h') T) ?_)
 exact World.rangeAt_setCells_apart R4 _ _ _ (Or.inr (Or.inr (by simp [hdC])))
theorem sizeDone (cam : Int) (s g n r : Value) (h : Hd) (d : Dd) (tk : Bool) : (Try.prog.info? 155).map (fun i => i.size) = some (doneC cam s g n r h d tk).toArray.size := by
 show _ = some 33
 kernel_rfl
theorem sizeDoneL (cam : Int) (s g n r : Value) (h : Hd) (d : Dd) (tk : Bool) : (Try.prog.info? 155).map (fun i => i.size) = some (doneC cam s g n r h d tk).length := by
 show _ = some 33
 kernel_rfl
theorem oneDone (cam : Int) (a0 a1 a2 a3 : Option Addr) (l0 l1 l2 l3 c0 c1 c2 c3 : Nat) (h : Hd) (d : Dd) (tk : Bool) : (doneC cam (.slice a0 l0 c0) (.slice a1 l1 c1) (.slice a2 l2 c2) (.slice a3 l3 c3) h d tk).toArray.all (·.oneCell') = true := by simp [doneC, hdC, ddC, Value.oneCell']
def backH (A : Ar) (h : Hd) : Hd :=
 if (vrOf A h.ver).prev < 0 then restOf h 7 0 0
 else if stampedB A (vrOf A h.ver).prev = true ∧ (vrOf A (vrOf A h.ver).prev).stamp ≤ h.held then useH A { h with ver := (vrOf A h.ver).prev } else { h with ver := (vrOf A h.ver).prev }
end
section
attribute [local go_sem ↓] Go.wp_at_zero Go.wp_at_succ
structure Cl where
 proc : Int
 code : Int
 key : Int
 value : Int
 begin : Int
 end_ : Int
 reply : Int
 out : Int
 sum : Int
 held : Int
def clC (c : Cl) : List Value := [.int .i64 c.proc, .int .i64 c.code, .int .i64 c.key, .int .i64 c.value, .int .i64 c.begin, .int .i64 c.end_, .int .i64 c.reply, .int .i64 c.out, .int .i64 c.sum, .int .i64 c.held]
structure Wd where
 A : Ar
 hands : List Hd
 calls : List Cl
 deeds : List Dd
 ticks : List Int
 now : Int
def Wd.size (W : Wd) : Nat := W.A.size + W.hands.length + W.calls.length + W.deeds.length + W.ticks.length
def wdC (x y z u cam : Int) (s g n r hs cs ds ts : Value) (now : Int) : List Value := [.int .i64 x, .int .i64 y, .int .i64 z, .int .i64 u, .int .i64 cam, s, g, n, r, hs, cs, ds, ts, .int .i64 now]
theorem hdC_one : ∀ (x : Hd), ∀ u ∈ hdC x, u.oneCell' = true := by
 intro x u hu
 have := oneHand x
 rw [Array.all_eq_true'] at this
 exact this u (by simpa using hu)
theorem clC_one : ∀ (x : Cl), ∀ u ∈ clC x, u.oneCell' = true := by
 intro x u hu
 simp only [clC, List.mem_cons, List.not_mem_nil, or_false] at hu
 rcases hu with rfl | rfl | rfl | rfl | rfl | rfl | rfl | rfl | rfl | rfl <;> rfl
theorem ddC_one : ∀ (x : Dd), ∀ u ∈ ddC x, u.oneCell' = true := by
 intro x u hu
 simp only [ddC, List.mem_cons, List.not_mem_nil, or_false] at hu
 rcases hu with rfl | rfl | rfl | rfl | rfl <;> rfl
theorem infoHandW : (Try.prog.info? 56).map (fun i => (i.zero, i.size, i.bytes)) = some (some (.agg #[.int .i64 0, .int .i64 0, .int .i64 0, .int .i64 0, .int .i64 0, .int .i64 0, .int .i64 0, .int .i64 0, .int .i64 0, .int .i64 0, .int .i64 0, .int .i64 0, .int .i64 0, .int .i64 0, .int .i64 0, .int .i64 0, .int .i64 0, .int .i64 0, .int .i64 0, .int .i64 0, .int .i64 0, .int .i64 0]), 22, 176) := by kernel_rfl
theorem infoCallW : (Try.prog.info? 149).map (fun i => (i.zero, i.size, i.bytes)) = some (some (.agg #[.int .i64 0, .int .i64 0, .int .i64 0, .int .i64 0, .int .i64 0, .int .i64 0, .int .i64 0, .int .i64 0, .int .i64 0, .int .i64 0]), 10, 80) := by kernel_rfl
theorem infoDeedW : (Try.prog.info? 152).map (fun i => (i.zero, i.size, i.bytes)) = some (some (.agg #[.int .i64 0, .int .i64 0, .int .i64 0, .int .i64 0, .int .i64 0]), 5, 40) := by kernel_rfl
theorem infoIntW : (Try.prog.info? 2).map (fun i => (i.zero, i.size, i.bytes)) = some (some (.int .i64 0), 1, 8) := by kernel_rfl
theorem sizeWorldW : (Try.prog.info? 35).map (fun i => i.size) = some 14 := by kernel_rfl
theorem sizePlanW : (Try.prog.info? 25).map (fun i => i.size) = some 4 := by kernel_rfl
structure WdIs (B : Nat) (w : World) (s g n r hs cs ds ts : Value) (W : Wd) : Prop where
 ar : ArenaIs B w s g n r W.A
 h : SliceAt B w hs W.hands.length (cellsOf hdC W.hands)
 c : SliceAt B w cs W.calls.length (cellsOf clC W.calls)
 d : SliceAt B w ds W.deeds.length (cellsOf ddC W.deeds)
 t : SliceAt B w ts W.ticks.length (cellsOf intC W.ticks)
theorem WdIs.below {B : Nat} {w w' : World} {s g n r hs cs ds ts : Value} {W : Wd} (I : WdIs B w s g n r hs cs ds ts W) (hb : Below B w w') : WdIs B w' s g n r hs cs ds ts W :=
 ⟨I.ar.below hb, I.h.below hb, I.c.below hb, I.d.below hb, I.t.below hb⟩
structure WdOwn (base : Nat) (w : World) (s g n r hs cs ds ts : Value) (W : Wd) : Prop where
 ar : OwnAr base w s g n r W.A
 h : w.ownsRow base 56 22 hs W.hands.length (cellsOf hdC W.hands)
 c : w.ownsRow base 149 10 cs W.calls.length (cellsOf clC W.calls)
 d : w.ownsRow base 152 5 ds W.deeds.length (cellsOf ddC W.deeds)
 t : w.ownsRow base 2 1 ts W.ticks.length (cellsOf intC W.ticks)
theorem WdOwn.is {base : Nat} {w : World} {s g n r hs cs ds ts : Value} {W : Wd} (O : WdOwn base w s g n r hs cs ds ts W) : WdIs w.heap.size w s g n r hs cs ds ts W :=
 ⟨O.ar.is, own_sliceAt O.h, own_sliceAt O.c, own_sliceAt O.d, own_sliceAt O.t⟩
theorem WdOwn.lo {base base' : Nat} {w : World} {s g n r hs cs ds ts : Value} {W : Wd} (O : WdOwn base w s g n r hs cs ds ts W) (hb : base' ≤ base) : WdOwn base' w s g n r hs cs ds ts W :=
 ⟨O.ar.lo hb, own_lo O.h hb, own_lo O.c hb, own_lo O.d hb, own_lo O.t hb⟩
theorem WdOwn.only {base b : Nat} {w w' : World} {s g n r hs cs ds ts : Value} {W : Wd} (O : WdOwn base w s g n r hs cs ds ts W) (hb : Only b w w') (hl : b < base) : WdOwn base w' s g n r hs cs ds ts W :=
 ⟨O.ar.only hb hl, own_only O.h hb (fun j e => by have := own_ge O.h e; omega), own_only O.c hb (fun j e => by have := own_ge O.c e; omega), own_only O.d hb (fun j e => by have := own_ge O.d e; omega), own_only O.t hb (fun j e => by have := own_ge O.t e; omega)⟩
theorem run_copy_any {P : Program} (w : World) (base : Nat) (t ty e : TypeId) (i : TypeInfo) (z : Value) (size bytes : Nat) (ht : P.underlying t = some (.slice e)) (hi : P.info? e = some i) (hz : i.zero = some z)
  (hsize : i.size = size) (hby : i.bytes = bytes) (hzs : z.cells.size = size) (hsz : 0 < size) (g : Nat) (hown : w.ownsRow base e size (.slice (some ⟨g, 0, none⟩) 0 0) 0 [])
  (B : Nat) (x : Value) (len : Nat) (cs : List Value) (S : SliceAt B w x len cs) (hl : cs.length = len * size) (h1 : ∀ u ∈ cs, u.oneCell' = true) (h63 : len ≤ maxLen) (hbytes : len * bytes ≤ 140737488355328) (hbase : base ≤ w.heap.size) :
  ∃ v' w', (Builtin.append_ #[t, t] ty #[.slice (some ⟨g, 0, none⟩) 0 0, x]).run P w = .ok v' w' ∧ w'.ownsRow base e size v' len cs ∧ Below w.heap.size w w' := by
 rcases Nat.eq_zero_or_pos len with h0 | hp
 ·subst h0
  have hc : cs = [] := List.eq_nil_of_length_eq_zero (by simpa using hl)
  subst hc
  obtain ⟨a, cap, rfl, _⟩ := S
  have hs : Src P i.size t (.slice a 0 cap) 0 [] w := by
   cases a with
   | none => exact Src.ofNil w ht cap
   | some ad => exact Src.ofSlice w ht ad 0 cap [] (by simp) (fun j u h => by cases h) (fun u h => by cases h)
  have hr := run_append_room_src (P := P) w t t ty e i ht hi g 0 0 0 (.slice a 0 cap) 0 [] hs (by omega) (by simp) (by simp)
  exact ⟨_, _, hr, hown, Below.refl _ _⟩
 ·obtain ⟨cap, w', hrun, how, hbl, _⟩ := run_copy_new (P := P) w base t ty e i z size bytes ht hi hz hsize hby hzs hsz g B x len cs S hp hl h1 h63 hbytes hbase
  exact ⟨_, w', hrun, how, hbl⟩
def copyWG (b bs : Nat) (x y z u : Int) (W : Wd) (a0 a1 a2 a3 a4 a5 a6 a7 : Option Addr) (c0 c1 c2 c3 c4 c5 c6 c7 : Nat) : Nat → Value → World → Prop
 | 0, v, _ => v = .pointer (some ⟨b, 0, none⟩)
 | 1, v, _ => v = .agg #[.int .i64 x, .int .i64 y, .int .i64 z, .int .i64 u]
 | 2, v, _ => v = .pointer (some ⟨b, 4, none⟩)
 | 3, v, _ => v = .agg #[.int .i64 W.A.camera, .slice a0 W.A.slots.length c0, .slice a1 W.A.guides.length c1, .slice a2 W.A.nodes.length c2, .slice a3 W.A.vers.length c3]
 | 4, v, w => ∃ s g n r, v = .agg #[.int .i64 W.A.camera, s, g, n, r] ∧ OwnAr bs w s g n r W.A
 | 5, v, w => ∃ g, v = .slice (some ⟨g, 0, none⟩) 0 0 ∧ w.ownsRow bs 56 22 (.slice (some ⟨g, 0, none⟩) 0 0) 0 []
 | 6, v, _ => v = .pointer (some ⟨b, 9, none⟩)
 | 7, v, _ => v = .slice a4 W.hands.length c4
 | 8, v, w => w.ownsRow bs 56 22 v W.hands.length (cellsOf hdC W.hands)
 | 9, v, w => ∃ g, v = .slice (some ⟨g, 0, none⟩) 0 0 ∧ w.ownsRow bs 149 10 (.slice (some ⟨g, 0, none⟩) 0 0) 0 []
 | 10, v, _ => v = .pointer (some ⟨b, 10, none⟩)
 | 11, v, _ => v = .slice a5 W.calls.length c5
 | 12, v, w => w.ownsRow bs 149 10 v W.calls.length (cellsOf clC W.calls)
 | 13, v, w => ∃ g, v = .slice (some ⟨g, 0, none⟩) 0 0 ∧ w.ownsRow bs 152 5 (.slice (some ⟨g, 0, none⟩) 0 0) 0 []
 | 14, v, _ => v = .pointer (some ⟨b, 11, none⟩)
 | 15, v, _ => v = .slice a6 W.deeds.length c6
 | 16, v, w => w.ownsRow bs 152 5 v W.deeds.length (cellsOf ddC W.deeds)
 | 17, v, _ => v = .pointer (some ⟨b, 12, none⟩)
 | 18, v, _ => v = .slice a7 W.ticks.length c7
 | 19, v, w => w.ownsRow bs 2 1 v W.ticks.length (cellsOf intC W.ticks)
 | 20, v, _ => v = .pointer (some ⟨b, 13, none⟩)
 | 21, v, _ => v = .int .i64 W.now
 | _, _, _ => True
theorem copyWG_kept {b bs : Nat} {x y z u : Int} {W : Wd} {a0 a1 a2 a3 a4 a5 a6 a7 : Option Addr} {c0 c1 c2 c3 c4 c5 c6 c7 : Nat} (i : Nat) (v : Value) (w w' : World) (h : copyWG b bs x y z u W a0 a1 a2 a3 a4 a5 a6 a7 c0 c1 c2 c3 c4 c5 c6 c7 i v w) (hb : Below w.heap.size w w') : copyWG b bs x y z u W a0 a1 a2 a3 a4 a5 a6 a7 c0 c1 c2 c3 c4 c5 c6 c7 i v w' := by
 match i, h with
 | 0, h => exact h
 | 1, h => exact h
 | 2, h => exact h
 | 3, h => exact h
 | 4, h => obtain ⟨s, g, n, r, e, O⟩ := h; exact ⟨s, g, n, r, e, O.below hb⟩
 | 5, h => obtain ⟨g, e, O⟩ := h; exact ⟨g, e, own_kept O hb⟩
 | 6, h => exact h
 | 7, h => exact h
 | 8, h => exact own_kept h hb
 | 9, h => obtain ⟨g, e, O⟩ := h; exact ⟨g, e, own_kept O hb⟩
 | 10, h => exact h
 | 11, h => exact h
 | 12, h => exact own_kept h hb
 | 13, h => obtain ⟨g, e, O⟩ := h; exact ⟨g, e, own_kept O hb⟩
 | 14, h => exact h
 | 15, h => exact h
 | 16, h => exact own_kept h hb
 | 17, h => exact h
 | 18, h => exact h
 | 19, h => exact own_kept h hb
 | 20, h => exact h
 | 21, h => exact h
 | i + 22, h => exact trivial
theorem row14 {w : World} {b : Nat} {v0 v1 v2 v3 v4 v5 v6 v7 v8 v9 v10 v11 v12 v13 : Value} (R : w.rangeAt b 0 [v0, v1, v2, v3, v4, v5, v6, v7, v8, v9, v10, v11, v12, v13]) :
  w.cell? ⟨b, 0, none⟩ = some v0 ∧ w.cell? ⟨b, 1, none⟩ = some v1 ∧ w.cell? ⟨b, 2, none⟩ = some v2 ∧ w.cell? ⟨b, 3, none⟩ = some v3 ∧ w.cell? ⟨b, 4, none⟩ = some v4 ∧ w.cell? ⟨b, 5, none⟩ = some v5 ∧ w.cell? ⟨b, 6, none⟩ = some v6 ∧ w.cell? ⟨b, 7, none⟩ = some v7 ∧ w.cell? ⟨b, 8, none⟩ = some v8 ∧ w.cell? ⟨b, 9, none⟩ = some v9 ∧ w.cell? ⟨b, 10, none⟩ = some v10 ∧ w.cell? ⟨b, 11, none⟩ = some v11 ∧ w.cell? ⟨b, 12, none⟩ = some v12 ∧ w.cell? ⟨b, 13, none⟩ = some v13 :=
 ⟨by simpa using R 0 v0 rfl, by simpa using R 1 v1 rfl, by simpa using R 2 v2 rfl, by simpa using R 3 v3 rfl, by simpa using R 4 v4 rfl, by simpa using R 5 v5 rfl, by simpa using R 6 v6 rfl, by simpa using R 7 v7 rfl, by simpa using R 8 v8 rfl, by simpa using R 9 v9 rfl, by simpa using R 10 v10 rfl, by simpa using R 11 v11 rfl, by simpa using R 12 v12 rfl, by simpa using R 13 v13 rfl⟩
set_option maxRecDepth 100000 in
set_option maxHeartbeats 4000000 in
theorem l15Copy_any (B : Nat) (x y z u : Int) (W : Wd) (a0 a1 a2 a3 a4 a5 a6 a7 : Option Addr) (c0 c1 c2 c3 c4 c5 c6 c7 : Nat) (w : World) (hB : B ≤ w.heap.size) (hW : W.size ≤ 1048576) (I : WdIs B w (.slice a0 W.A.slots.length c0) (.slice a1 W.A.guides.length c1) (.slice a2 W.A.nodes.length c2) (.slice a3 W.A.vers.length c3) (.slice a4 W.hands.length c4) (.slice a5 W.calls.length c5) (.slice a6 W.deeds.length c6) (.slice a7 W.ticks.length c7) W) (hs : 0 < W.A.slots.length) (hg : 0 < W.A.guides.length) (hn : 0 < W.A.nodes.length) (hr : 0 < W.A.vers.length) :
  Calls Try.prog 98 #[.agg #[.int .i64 x, .int .i64 y, .int .i64 z, .int .i64 u, .int .i64 W.A.camera, .slice a0 W.A.slots.length c0, .slice a1 W.A.guides.length c1, .slice a2 W.A.nodes.length c2, .slice a3 W.A.vers.length c3, .slice a4 W.hands.length c4, .slice a5 W.calls.length c5, .slice a6 W.deeds.length c6, .slice a7 W.ticks.length c7, .int .i64 W.now]] w fun e w' => ∃ s g n r hs cs ds ts, e = .returned (.agg (wdC x y z u W.A.camera s g n r hs cs ds ts W.now).toArray) ∧ WdOwn w.heap.size w' s g n r hs cs ds ts W ∧ Below w.heap.size w w' := by
 have hA : W.A.size ≤ 1048576 := by unfold Wd.size at hW; omega
 unfold Wd.size at hW
 have X0 := World.rangeAt_alloc (rangeAt_new w [.int .i64 x, .int .i64 y, .int .i64 z, .int .i64 u, .int .i64 W.A.camera, .slice a0 W.A.slots.length c0, .slice a1 W.A.guides.length c1, .slice a2 W.A.nodes.length c2, .slice a3 W.A.vers.length c3, .slice a4 W.hands.length c4, .slice a5 W.calls.length c5, .slice a6 W.deeds.length c6, .slice a7 W.ticks.length c7, .int .i64 W.now] 35) (.cells #[.int .i64 0, .int .i64 0, .int .i64 0, .int .i64 0, .int .i64 0, .slice none 0 0, .slice none 0 0, .slice none 0 0, .slice none 0 0, .slice none 0 0, .slice none 0 0, .slice none 0 0, .slice none 0 0, .int .i64 0] 35)
 have F0 := there_new (w.alloc (.cells #[.int .i64 x, .int .i64 y, .int .i64 z, .int .i64 u, .int .i64 W.A.camera, .slice a0 W.A.slots.length c0, .slice a1 W.A.guides.length c1, .slice a2 W.A.nodes.length c2, .slice a3 W.A.vers.length c3, .slice a4 W.hands.length c4, .slice a5 W.calls.length c5, .slice a6 W.deeds.length c6, .slice a7 W.ticks.length c7, .int .i64 W.now] 35)) #[.int .i64 0, .int .i64 0, .int .i64 0, .int .i64 0, .int .i64 0, .slice none 0 0, .slice none 0 0, .slice none 0 0, .slice none 0 0, .slice none 0 0, .slice none 0 0, .slice none 0 0, .slice none 0 0, .int .i64 0] 35 14 (by decide)
 have K0 := ((Below.refl w.heap.size w).alloc (Nat.le_refl _) (.cells #[.int .i64 x, .int .i64 y, .int .i64 z, .int .i64 u, .int .i64 W.A.camera, .slice a0 W.A.slots.length c0, .slice a1 W.A.guides.length c1, .slice a2 W.A.nodes.length c2, .slice a3 W.A.vers.length c3, .slice a4 W.hands.length c4, .slice a5 W.calls.length c5, .slice a6 W.deeds.length c6, .slice a7 W.ticks.length c7, .int .i64 W.now] 35)).alloc (by simp) (.cells #[.int .i64 0, .int .i64 0, .int .i64 0, .int .i64 0, .int .i64 0, .slice none 0 0, .slice none 0 0, .slice none 0 0, .slice none 0 0, .slice none 0 0, .slice none 0 0, .slice none 0 0, .slice none 0 0, .int .i64 0] 35)
 have hz0 : w.heap.size + 1 < ((w.alloc (.cells #[.int .i64 x, .int .i64 y, .int .i64 z, .int .i64 u, .int .i64 W.A.camera, .slice a0 W.A.slots.length c0, .slice a1 W.A.guides.length c1, .slice a2 W.A.nodes.length c2, .slice a3 W.A.vers.length c3, .slice a4 W.hands.length c4, .slice a5 W.calls.length c5, .slice a6 W.deeds.length c6, .slice a7 W.ticks.length c7, .int .i64 W.now] 35)).alloc (.cells #[.int .i64 0, .int .i64 0, .int .i64 0, .int .i64 0, .int .i64 0, .slice none 0 0, .slice none 0 0, .slice none 0 0, .slice none 0 0, .slice none 0 0, .slice none 0 0, .slice none 0 0, .slice none 0 0, .int .i64 0] 35)).heap.size := by simp
 simp only [World.size_alloc] at F0
 have I0 := I.below (K0.mono hB)
 go_enter Try.func98, Try.ntmps98
 go_wp2_with fail
 generalize hw0 : (w.alloc (.cells #[.int .i64 x, .int .i64 y, .int .i64 z, .int .i64 u, .int .i64 W.A.camera, .slice a0 W.A.slots.length c0, .slice a1 W.A.guides.length c1, .slice a2 W.A.nodes.length c2, .slice a3 W.A.vers.length c3, .slice a4 W.hands.length c4, .slice a5 W.calls.length c5, .slice a6 W.deeds.length c6, .slice a7 W.ticks.length c7, .int .i64 W.now] 35)).alloc (.cells #[.int .i64 0, .int .i64 0, .int .i64 0, .int .i64 0, .int .i64 0, .slice none 0 0, .slice none 0 0, .slice none 0 0, .slice none 0 0, .slice none 0 0, .slice none 0 0, .slice none 0 0, .slice none 0 0, .int .i64 0] 35) = w0 at *
 clear hw0 I
 refine any_order_tail 22 (by kernel_rfl) (copyWG w.heap.size (w.heap.size + 2) x y z u W a0 a1 a2 a3 a4 a5 a6 a7 c0 c1 c2 c3 c4 c5 c6 c7) (fun _ => false) (by kernel_rfl) (by kernel_rfl) (by kernel_rfl) (by kernel_rfl) (by rfl) (fun i v w w' _ h hb => copyWG_kept i v w w' h hb) (fun i v w q hf h hq => by cases hf) ?step ?final
 case step =>
  intro i o hik ho a V hb hnn hd K hK
  have XV := rangeAt_below X0 hb (by omega)
  obtain ⟨x0, x1, x2, x3, x4, x5, x6, x7, x8, x9, x10, x11, x12, x13⟩ := row14 XV
  have IV := I0.below (hb.mono (by omega))
  have hzV := hb.size
  match i, ho with
  | 0, ho =>
   obtain rfl := Option.some.inj ho
   have e1 : a.eval (.tmp 1) = .pointer (some ⟨w.heap.size, 0, none⟩) := hnn 1 rfl
   refine step_value (v := .pointer (some ⟨w.heap.size, 0, none⟩)) (w' := V) ?_ (hK _ _ rfl (Below.refl _ _) (fun h => by cases h))
   generalize a.eval = ev at *
   go_simp
  | 1, ho =>
   obtain rfl := Option.some.inj ho
   exact step_load 25 (.tmp 3) rfl w.heap.size 0 (hd ⟨0, .data⟩ (by simp) rfl 3 rfl) [.int .i64 x, .int .i64 y, .int .i64 z, .int .i64 u] _ (fun j v hv => XV j v (by match j, hv with | 0, h => exact h | 1, h => exact h | 2, h => exact h | 3, h => exact h)) Try.underlying25 rfl sizePlanW (hK _ _ rfl (Below.refl _ _) (fun h => by cases h))
  | 2, ho =>
   obtain rfl := Option.some.inj ho
   have e1 : a.eval (.tmp 1) = .pointer (some ⟨w.heap.size, 0, none⟩) := hnn 1 rfl
   refine step_value (v := .pointer (some ⟨w.heap.size, 4, none⟩)) (w' := V) ?_ (hK _ _ rfl (Below.refl _ _) (fun h => by cases h))
   generalize a.eval = ev at *
   go_simp
  | 3, ho =>
   obtain rfl := Option.some.inj ho
   exact step_load 30 (.tmp 5) rfl w.heap.size 4 (hd ⟨2, .data⟩ (by simp) rfl 5 rfl) [.int .i64 W.A.camera, .slice a0 W.A.slots.length c0, .slice a1 W.A.guides.length c1, .slice a2 W.A.nodes.length c2, .slice a3 W.A.vers.length c3] _ (fun j v hv => by match j, hv with | 0, h => exact XV 4 v h | 1, h => exact XV 5 v h | 2, h => exact XV 6 v h | 3, h => exact XV 7 v h | 4, h => exact XV 8 v h) Try.underlying30 rfl infoArena (hK _ _ rfl (Below.refl _ _) (fun h => by cases h))
  | 4, ho =>
   obtain rfl := Option.some.inj ho
   have e1 : a.eval (.tmp 6) = .agg #[.int .i64 W.A.camera, .slice a0 W.A.slots.length c0, .slice a1 W.A.guides.length c1, .slice a2 W.A.nodes.length c2, .slice a3 W.A.vers.length c3] := hd ⟨3, .data⟩ (by simp) rfl 6 rfl
   have ef : a.eval (.func 116) = .func (.func 116) #[] #[] := rfl
   refine step_call (f := 116) (args := #[.agg #[.int .i64 W.A.camera, .slice a0 W.A.slots.length c0, .slice a1 W.A.guides.length c1, .slice a2 W.A.nodes.length c2, .slice a3 W.A.vers.length c3]]) (R := fun v w' => (∃ s g n r, v = .agg #[.int .i64 W.A.camera, s, g, n, r] ∧ OwnAr V.heap.size w' s g n r W.A) ∧ Below V.heap.size V w') ?_ ((l2Copy_any B W.A a0 a1 a2 a3 c0 c1 c2 c3 V (by omega) hA IV.ar hs hg hn hr).mono (fun e w' h => by obtain ⟨s, g, n, r, e, O, K⟩ := h; exact ⟨_, e, ⟨s, g, n, r, rfl, O⟩, K⟩)) (fun v w' h => hK v w' (by obtain ⟨⟨s, g, n, r, e, O⟩, _⟩ := h; exact ⟨s, g, n, r, e, O.lo (by omega)⟩) h.2 (fun h => by cases h))
   generalize a.eval = ev at *
   go_simp
  | 5, ho =>
   obtain rfl := Option.some.inj ho
   have O0 := World.ownsRow_lit (base := V.heap.size) (e := 56) (size := 22) V #[] 0 (by simp) (by decide) (by simp)
   refine step_value (v := .slice (some ⟨V.heap.size, 0, none⟩) 0 0) (w' := V.alloc (.cells #[] 56)) ?_ (hK _ _ ⟨_, rfl, own_lo O0 (by omega)⟩ ((Below.refl _ _).alloc (Nat.le_refl _) _) (fun h => by cases h))
   generalize a.eval = ev at *
   go_simp
  | 6, ho =>
   obtain rfl := Option.some.inj ho
   have e1 : a.eval (.tmp 1) = .pointer (some ⟨w.heap.size, 0, none⟩) := hnn 1 rfl
   refine step_value (v := .pointer (some ⟨w.heap.size, 9, none⟩)) (w' := V) ?_ (hK _ _ rfl (Below.refl _ _) (fun h => by cases h))
   generalize a.eval = ev at *
   go_simp
  | 7, ho =>
   obtain rfl := Option.some.inj ho
   have e1 : a.eval (.tmp 9) = .pointer (some ⟨w.heap.size, 9, none⟩) := hd ⟨6, .data⟩ (by simp) rfl 9 rfl
   refine step_value (v := .slice a4 W.hands.length c4) (w' := V) ?_ (hK _ _ rfl (Below.refl _ _) (fun h => by cases h))
   generalize a.eval = ev at *
   go_simp
  | 8, ho =>
   obtain rfl := Option.some.inj ho
   obtain ⟨g, e1, Og⟩ := (show ∃ g, a.eval (.tmp 8) = .slice (some ⟨g, 0, none⟩) 0 0 ∧ V.ownsRow (w.heap.size + 2) 56 22 (.slice (some ⟨g, 0, none⟩) 0 0) 0 [] from hd ⟨5, .data⟩ (by simp) rfl 8 rfl)
   have e2 : a.eval (.tmp 10) = .slice a4 W.hands.length c4 := hd ⟨7, .data⟩ (by simp) rfl 10 rfl
   obtain ⟨i0, hi, hzr, hsz, hby⟩ := info_parts infoHandW
   obtain ⟨v', w', hrun, how, hbl⟩ := run_copy_any (P := Try.prog) V (w.heap.size + 2) 31 31 56 i0 _ 22 176 Try.underlying31 hi hzr hsz hby rfl (by decide) g Og B _ W.hands.length (cellsOf hdC W.hands) IV.h (by rw [cellsOf_length (sz := 22) (fun _ => rfl)]) (cellsOf_one hdC_one W.hands) (by unfold maxLen; omega) (by omega) (by omega)
   refine step_value (v := v') (w' := w') ?_ (hK _ _ how hbl (fun h => by cases h))
   generalize a.eval = ev at *
   simp [execOp, resolve, invoke, builtin, e1, e2, hrun, Result.andThen]
  | 9, ho =>
   obtain rfl := Option.some.inj ho
   have O0 := World.ownsRow_lit (base := V.heap.size) (e := 149) (size := 10) V #[] 0 (by simp) (by decide) (by simp)
   refine step_value (v := .slice (some ⟨V.heap.size, 0, none⟩) 0 0) (w' := V.alloc (.cells #[] 149)) ?_ (hK _ _ ⟨_, rfl, own_lo O0 (by omega)⟩ ((Below.refl _ _).alloc (Nat.le_refl _) _) (fun h => by cases h))
   generalize a.eval = ev at *
   go_simp
  | 10, ho =>
   obtain rfl := Option.some.inj ho
   have e1 : a.eval (.tmp 1) = .pointer (some ⟨w.heap.size, 0, none⟩) := hnn 1 rfl
   refine step_value (v := .pointer (some ⟨w.heap.size, 10, none⟩)) (w' := V) ?_ (hK _ _ rfl (Below.refl _ _) (fun h => by cases h))
   generalize a.eval = ev at *
   go_simp
  | 11, ho =>
   obtain rfl := Option.some.inj ho
   have e1 : a.eval (.tmp 13) = .pointer (some ⟨w.heap.size, 10, none⟩) := hd ⟨10, .data⟩ (by simp) rfl 13 rfl
   refine step_value (v := .slice a5 W.calls.length c5) (w' := V) ?_ (hK _ _ rfl (Below.refl _ _) (fun h => by cases h))
   generalize a.eval = ev at *
   go_simp
  | 12, ho =>
   obtain rfl := Option.some.inj ho
   obtain ⟨g, e1, Og⟩ := (show ∃ g, a.eval (.tmp 12) = .slice (some ⟨g, 0, none⟩) 0 0 ∧ V.ownsRow (w.heap.size + 2) 149 10 (.slice (some ⟨g, 0, none⟩) 0 0) 0 [] from hd ⟨9, .data⟩ (by simp) rfl 12 rfl)
   have e2 : a.eval (.tmp 14) = .slice a5 W.calls.length c5 := hd ⟨11, .data⟩ (by simp) rfl 14 rfl
   obtain ⟨i0, hi, hzr, hsz, hby⟩ := info_parts infoCallW
   obtain ⟨v', w', hrun, how, hbl⟩ := run_copy_any (P := Try.prog) V (w.heap.size + 2) 32 32 149 i0 _ 10 80 Try.underlying32 hi hzr hsz hby rfl (by decide) g Og B _ W.calls.length (cellsOf clC W.calls) IV.c (by rw [cellsOf_length (sz := 10) (fun _ => rfl)]) (cellsOf_one clC_one W.calls) (by unfold maxLen; omega) (by omega) (by omega)
   refine step_value (v := v') (w' := w') ?_ (hK _ _ how hbl (fun h => by cases h))
   generalize a.eval = ev at *
   simp [execOp, resolve, invoke, builtin, e1, e2, hrun, Result.andThen]
  | 13, ho =>
   obtain rfl := Option.some.inj ho
   have O0 := World.ownsRow_lit (base := V.heap.size) (e := 152) (size := 5) V #[] 0 (by simp) (by decide) (by simp)
   refine step_value (v := .slice (some ⟨V.heap.size, 0, none⟩) 0 0) (w' := V.alloc (.cells #[] 152)) ?_ (hK _ _ ⟨_, rfl, own_lo O0 (by omega)⟩ ((Below.refl _ _).alloc (Nat.le_refl _) _) (fun h => by cases h))
   generalize a.eval = ev at *
   go_simp
  | 14, ho =>
   obtain rfl := Option.some.inj ho
   have e1 : a.eval (.tmp 1) = .pointer (some ⟨w.heap.size, 0, none⟩) := hnn 1 rfl
   refine step_value (v := .pointer (some ⟨w.heap.size, 11, none⟩)) (w' := V) ?_ (hK _ _ rfl (Below.refl _ _) (fun h => by cases h))
   generalize a.eval = ev at *
   go_simp
  | 15, ho =>
   obtain rfl := Option.some.inj ho
   have e1 : a.eval (.tmp 17) = .pointer (some ⟨w.heap.size, 11, none⟩) := hd ⟨14, .data⟩ (by simp) rfl 17 rfl
   refine step_value (v := .slice a6 W.deeds.length c6) (w' := V) ?_ (hK _ _ rfl (Below.refl _ _) (fun h => by cases h))
   generalize a.eval = ev at *
   go_simp
  | 16, ho =>
   obtain rfl := Option.some.inj ho
   obtain ⟨g, e1, Og⟩ := (show ∃ g, a.eval (.tmp 16) = .slice (some ⟨g, 0, none⟩) 0 0 ∧ V.ownsRow (w.heap.size + 2) 152 5 (.slice (some ⟨g, 0, none⟩) 0 0) 0 [] from hd ⟨13, .data⟩ (by simp) rfl 16 rfl)
   have e2 : a.eval (.tmp 18) = .slice a6 W.deeds.length c6 := hd ⟨15, .data⟩ (by simp) rfl 18 rfl
   obtain ⟨i0, hi, hzr, hsz, hby⟩ := info_parts infoDeedW
   obtain ⟨v', w', hrun, how, hbl⟩ := run_copy_any (P := Try.prog) V (w.heap.size + 2) 33 33 152 i0 _ 5 40 Try.underlying33 hi hzr hsz hby rfl (by decide) g Og B _ W.deeds.length (cellsOf ddC W.deeds) IV.d (by rw [cellsOf_length (sz := 5) (fun _ => rfl)]) (cellsOf_one ddC_one W.deeds) (by unfold maxLen; omega) (by omega) (by omega)
   refine step_value (v := v') (w' := w') ?_ (hK _ _ how hbl (fun h => by cases h))
   generalize a.eval = ev at *
   simp [execOp, resolve, invoke, builtin, e1, e2, hrun, Result.andThen]
  | 17, ho =>
   obtain rfl := Option.some.inj ho
   have e1 : a.eval (.tmp 1) = .pointer (some ⟨w.heap.size, 0, none⟩) := hnn 1 rfl
   refine step_value (v := .pointer (some ⟨w.heap.size, 12, none⟩)) (w' := V) ?_ (hK _ _ rfl (Below.refl _ _) (fun h => by cases h))
   generalize a.eval = ev at *
   go_simp
  | 18, ho =>
   obtain rfl := Option.some.inj ho
   have e1 : a.eval (.tmp 20) = .pointer (some ⟨w.heap.size, 12, none⟩) := hd ⟨17, .data⟩ (by simp) rfl 20 rfl
   refine step_value (v := .slice a7 W.ticks.length c7) (w' := V) ?_ (hK _ _ rfl (Below.refl _ _) (fun h => by cases h))
   generalize a.eval = ev at *
   go_simp
  | 19, ho =>
   obtain rfl := Option.some.inj ho
   have e1 : a.eval (.tmp 21) = .slice a7 W.ticks.length c7 := hd ⟨18, .data⟩ (by simp) rfl 21 rfl
   have ef : a.eval (.func 117) = .func (.func 117) #[] #[] := rfl
   refine step_call (f := 117) (args := #[.slice a7 W.ticks.length c7]) (R := fun v w' => w'.ownsRow V.heap.size 2 1 v W.ticks.length (cellsOf intC W.ticks) ∧ Below V.heap.size V w') ?_ ((l1Copy_any B _ W.ticks V (by omega) (by omega) IV.t).mono (fun e w' h => h)) (fun v w' h => hK v w' (own_lo h.1 (by omega)) h.2 (fun h => by cases h))
   generalize a.eval = ev at *
   go_simp
  | 20, ho =>
   obtain rfl := Option.some.inj ho
   have e1 : a.eval (.tmp 1) = .pointer (some ⟨w.heap.size, 0, none⟩) := hnn 1 rfl
   refine step_value (v := .pointer (some ⟨w.heap.size, 13, none⟩)) (w' := V) ?_ (hK _ _ rfl (Below.refl _ _) (fun h => by cases h))
   generalize a.eval = ev at *
   go_simp
  | 21, ho =>
   obtain rfl := Option.some.inj ho
   have e1 : a.eval (.tmp 23) = .pointer (some ⟨w.heap.size, 13, none⟩) := hd ⟨20, .data⟩ (by simp) rfl 23 rfl
   refine step_value (v := .int .i64 W.now) (w' := V) ?_ (hK _ _ rfl (Below.refl _ _) (fun h => by cases h))
   generalize a.eval = ev at *
   go_simp
  | n + 22, ho => omega
 case final =>
  intro vs V hb hG hD
  have g1 : vs 1 = .agg #[.int .i64 x, .int .i64 y, .int .i64 z, .int .i64 u] := hG 1 (by decide)
  obtain ⟨s, g, n, r, g4, O4⟩ := (show ∃ s g n r, vs 4 = .agg #[.int .i64 W.A.camera, s, g, n, r] ∧ OwnAr (w.heap.size + 2) V s g n r W.A from hG 4 (by decide))
  have g8 : V.ownsRow (w.heap.size + 2) 56 22 (vs 8) W.hands.length (cellsOf hdC W.hands) := hG 8 (by decide)
  have g12 : V.ownsRow (w.heap.size + 2) 149 10 (vs 12) W.calls.length (cellsOf clC W.calls) := hG 12 (by decide)
  have g16 : V.ownsRow (w.heap.size + 2) 152 5 (vs 16) W.deeds.length (cellsOf ddC W.deeds) := hG 16 (by decide)
  have g19 : V.ownsRow (w.heap.size + 2) 2 1 (vs 19) W.ticks.length (cellsOf intC W.ticks) := hG 19 (by decide)
  have g21 : vs 21 = .int .i64 W.now := hG 21 (by decide)
  have OW : WdOwn (w.heap.size + 2) V s g n r (vs 8) (vs 12) (vs 16) (vs 19) W := ⟨O4, g8, g12, g16, g19⟩
  have FW := there_below F0 hb (by omega)
  have KW := K0.trans (hb.mono (by omega))
  generalize hl : laid _ vs _ _ _ = A'
  have hA' : A' = { tmps := #[.agg #[.int .i64 x, .int .i64 y, .int .i64 z, .int .i64 u, .int .i64 W.A.camera, .slice a0 W.A.slots.length c0, .slice a1 W.A.guides.length c1, .slice a2 W.A.nodes.length c2, .slice a3 W.A.vers.length c3, .slice a4 W.hands.length c4, .slice a5 W.calls.length c5, .slice a6 W.deeds.length c6, .slice a7 W.ticks.length c7, .int .i64 W.now], .pointer (some ⟨w.heap.size, 0, none⟩), .pointer (some ⟨w.heap.size + 1, 0, none⟩), vs 0, vs 1, vs 2, vs 3, vs 4, vs 5, vs 6, vs 7, vs 8, vs 9, vs 10, vs 11, vs 12, vs 13, vs 14, vs 15, vs 16, vs 17, vs 18, vs 19, vs 20, vs 21, undef], defers := [] } := by
   rw [← hl]
   kernel_rfl
  subst hA'
  rw [g1, g4, g21]
  obtain ⟨sa, sc, es⟩ := own_is O4.rs
  obtain ⟨ga, gc, eg⟩ := own_is O4.rg
  obtain ⟨na, nc, en⟩ := own_is O4.rn
  obtain ⟨ra, rc, er⟩ := own_is O4.rr
  obtain ⟨ha, hc, eh⟩ := own_is g8
  obtain ⟨ca, cc, ec⟩ := own_is g12
  obtain ⟨da, dc, ed⟩ := own_is g16
  obtain ⟨ta, tc, et⟩ := own_is g19
  rw [es, eg, en, er, eh, ec, ed, et] at OW
  rw [es, eg, en, er, eh, ec, ed, et]
  clear hl hG hD g1 g4 g8 g12 g16 g19 g21 O4 es eg en er eh ec ed et X0 F0 I0 K0
  have OF : WdOwn w.heap.size (V.setCells (w.heap.size + 1) 0 [.int .i64 x, .int .i64 y, .int .i64 z, .int .i64 u, .int .i64 W.A.camera, .slice sa W.A.slots.length sc, .slice ga W.A.guides.length gc, .slice na W.A.nodes.length nc, .slice ra W.A.vers.length rc, .slice ha W.hands.length hc, .slice ca W.calls.length cc, .slice da W.deeds.length dc, .slice ta W.ticks.length tc, .int .i64 W.now]) (.slice sa W.A.slots.length sc) (.slice ga W.A.guides.length gc) (.slice na W.A.nodes.length nc) (.slice ra W.A.vers.length rc) (.slice ha W.hands.length hc) (.slice ca W.calls.length cc) (.slice da W.deeds.length dc) (.slice ta W.ticks.length tc) W := (OW.only (only_setCells (w.heap.size + 1) _ 0 V) (by omega)).lo (by omega)
  have KF := Below.setCells (B := w.heap.size) (b := w.heap.size + 1) (by omega) [.int .i64 x, .int .i64 y, .int .i64 z, .int .i64 u, .int .i64 W.A.camera, .slice sa W.A.slots.length sc, .slice ga W.A.guides.length gc, .slice na W.A.nodes.length nc, .slice ra W.A.vers.length rc, .slice ha W.hands.length hc, .slice ca W.calls.length cc, .slice da W.deeds.length dc, .slice ta W.ticks.length tc, .int .i64 W.now] 0 _ KW
  go_wp2_with (refine wpList_store_mid rfl 35 (.tmp 2) (.tmp 25) rfl (w.heap.size + 1) 0 #[.int .i64 x, .int .i64 y, .int .i64 z, .int .i64 u, .int .i64 W.A.camera, .slice sa W.A.slots.length sc, .slice ga W.A.guides.length gc, .slice na W.A.nodes.length nc, .slice ra W.A.vers.length rc, .slice ha W.hands.length hc, .slice ca W.calls.length cc, .slice da W.deeds.length dc, .slice ta W.ticks.length tc, .int .i64 W.now] ?hx ?hy ?ht ?hi ?h1 ?_)
  case hx => rfl
  case hy => rfl
  case ht => exact FW
  case hi => exact sizeWorldW
  case h1 => simp [Value.oneCell']
  refine bodyPost_ret (v := .agg #[.int .i64 x, .int .i64 y, .int .i64 z, .int .i64 u, .int .i64 W.A.camera, .slice sa W.A.slots.length sc, .slice ga W.A.guides.length gc, .slice na W.A.nodes.length nc, .slice ra W.A.vers.length rc, .slice ha W.hands.length hc, .slice ca W.calls.length cc, .slice da W.deeds.length dc, .slice ta W.ticks.length tc, .int .i64 W.now]) ?_ rfl ⟨_, _, _, _, _, _, _, _, rfl, OF, KF⟩
  exact results_row Try.results98 _ _ (w.heap.size + 1) 0 rfl [.int .i64 x, .int .i64 y, .int .i64 z, .int .i64 u, .int .i64 W.A.camera, .slice sa W.A.slots.length sc, .slice ga W.A.guides.length gc, .slice na W.A.nodes.length nc, .slice ra W.A.vers.length rc, .slice ha W.hands.length hc, .slice ca W.calls.length cc, .slice da W.deeds.length dc, .slice ta W.ticks.length tc, .int .i64 W.now] _ (World.rangeAt_setCells_same _ _ _ _ FW) Try.underlying35 rfl sizeWorldW
end
end Go.Proofs.Ytananefdghclfaa
