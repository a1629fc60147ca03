/-
  What the law's proof goes by, part 4.
-/
import Derived.Deep.RegionLaw
import Derived.Deep.Cut
import Derived.Test.YtknncnaikeinbaaGreatSealStepC
namespace Go.Proofs.YtknncnaikeinbaaGreat
open Go.ChangeShapes Go.WideShapes Go.ChangeAt Go.RowKit
set_option maxRecDepth 100000
set_option maxHeartbeats 16000000
set_option linter.unusedVariables false
set_option linter.unusedSimpArgs false
set_option linter.unnecessarySimpa false
set_option linter.unusedSectionVars false
section
attribute [local go_sem ↓] Go.wp_at_zero Go.wp_at_succ
theorem qz9i (B : Nat) (A : Ar) (h : Hd) (a0 a1 a2 a3 : Option Addr) (c0 c1 c2 c3 : Nat) (w : World) (hB : B <= w.heap.size) (hA : A.size <= 1048576) (I : qzi B w (.slice a0 A.slots.length c0) (.slice a1 A.guides.length c1) (.slice a2 A.nodes.length c2) (.slice a3 A.vers.length c3) A) (x y z u : Int) (hOk : qz14 x y z u A = true) (hv0 : 0 <= h.ver) (hv1 : h.ver < (A.vers.length : Int)) (hx0 : 0 <= h.x_) (hx1 : h.x_ < (A.nodes.length : Int)) (ho0 : 0 <= h.out) (ho1 : h.out <= 1000000) (hs0 : 0 <= h.sum) (hs1 : h.sum <= 1000000) :
  Calls Tryz.prog 77 #[.agg #[.int .i64 A.camera, .slice a0 A.slots.length c0, .slice a1 A.guides.length c1, .slice a2 A.nodes.length c2, .slice a3 A.vers.length c3], .agg (hdC h).toArray] w fun e w' => e = .returned (.agg (hdC (useH A h)).toArray) /\ Below w.heap.size w w' := by
 have hA' := hA
 unfold Ar.size at hA
 have X0 := World.rangeAt_alloc (World.rangeAt_alloc (qz5 w [.int .i64 A.camera, .slice a0 A.slots.length c0, .slice a1 A.guides.length c1, .slice a2 A.nodes.length c2, .slice a3 A.vers.length c3] 35) (.cells (hdC h).toArray 36)) (.cells #[.int .i64 0, .int .i64 0, .int .i64 0, .int .i64 0, .int .i64 0, .int .i64 0, .int .i64 0, .int .i64 0, .int .i64 0, .int .i64 0, .int .i64 0, .int .i64 0, .int .i64 0, .int .i64 0, .int .i64 0, .int .i64 0, .int .i64 0, .int .i64 0, .int .i64 0, .int .i64 0, .int .i64 0, .int .i64 0] 36)
 have H0 := World.rangeAt_alloc (qz5 (w.alloc (.cells #[.int .i64 A.camera, .slice a0 A.slots.length c0, .slice a1 A.guides.length c1, .slice a2 A.nodes.length c2, .slice a3 A.vers.length c3] 35)) (hdC h) 36) (.cells #[.int .i64 0, .int .i64 0, .int .i64 0, .int .i64 0, .int .i64 0, .int .i64 0, .int .i64 0, .int .i64 0, .int .i64 0, .int .i64 0, .int .i64 0, .int .i64 0, .int .i64 0, .int .i64 0, .int .i64 0, .int .i64 0, .int .i64 0, .int .i64 0, .int .i64 0, .int .i64 0, .int .i64 0, .int .i64 0] 36)
 have G0 := World.there_alloc (qzf (w.alloc (.cells #[.int .i64 A.camera, .slice a0 A.slots.length c0, .slice a1 A.guides.length c1, .slice a2 A.nodes.length c2, .slice a3 A.vers.length c3] 35)) (hdC h).toArray 36 22 (by simp [hdC])) (.cells #[.int .i64 0, .int .i64 0, .int .i64 0, .int .i64 0, .int .i64 0, .int .i64 0, .int .i64 0, .int .i64 0, .int .i64 0, .int .i64 0, .int .i64 0, .int .i64 0, .int .i64 0, .int .i64 0, .int .i64 0, .int .i64 0, .int .i64 0, .int .i64 0, .int .i64 0, .int .i64 0, .int .i64 0, .int .i64 0] 36)
 have F0 := qzf ((w.alloc (.cells #[.int .i64 A.camera, .slice a0 A.slots.length c0, .slice a1 A.guides.length c1, .slice a2 A.nodes.length c2, .slice a3 A.vers.length c3] 35)).alloc (.cells (hdC h).toArray 36)) #[.int .i64 0, .int .i64 0, .int .i64 0, .int .i64 0, .int .i64 0, .int .i64 0, .int .i64 0, .int .i64 0, .int .i64 0, .int .i64 0, .int .i64 0, .int .i64 0, .int .i64 0, .int .i64 0, .int .i64 0, .int .i64 0, .int .i64 0, .int .i64 0, .int .i64 0, .int .i64 0, .int .i64 0, .int .i64 0] 36 22 (by decide)
 have K0 := (((Below.refl w.heap.size w).alloc (Nat.le_refl _) (.cells #[.int .i64 A.camera, .slice a0 A.slots.length c0, .slice a1 A.guides.length c1, .slice a2 A.nodes.length c2, .slice a3 A.vers.length c3] 35)).alloc (by simp) (.cells (hdC h).toArray 36)).alloc (by simp; omega) (.cells #[.int .i64 0, .int .i64 0, .int .i64 0, .int .i64 0, .int .i64 0, .int .i64 0, .int .i64 0, .int .i64 0, .int .i64 0, .int .i64 0, .int .i64 0, .int .i64 0, .int .i64 0, .int .i64 0, .int .i64 0, .int .i64 0, .int .i64 0, .int .i64 0, .int .i64 0, .int .i64 0, .int .i64 0, .int .i64 0] 36)
 have hz0 : w.heap.size + 1 + 1 < (((w.alloc (.cells #[.int .i64 A.camera, .slice a0 A.slots.length c0, .slice a1 A.guides.length c1, .slice a2 A.nodes.length c2, .slice a3 A.vers.length c3] 35)).alloc (.cells (hdC h).toArray 36)).alloc (.cells #[.int .i64 0, .int .i64 0, .int .i64 0, .int .i64 0, .int .i64 0, .int .i64 0, .int .i64 0, .int .i64 0, .int .i64 0, .int .i64 0, .int .i64 0, .int .i64 0, .int .i64 0, .int .i64 0, .int .i64 0, .int .i64 0, .int .i64 0, .int .i64 0, .int .i64 0, .int .i64 0, .int .i64 0, .int .i64 0] 36)).heap.size := by simp
 simp only [World.size_alloc] at H0 G0 F0
 have I0 := I.below (K0.mono hB)
 go_enter Tryz.func77, Tryz.ntmps77
 have tok : True := trivial
 go_wp2_with (clear tok; refine qz24 (((w.alloc (.cells #[.int .i64 A.camera, .slice a0 A.slots.length c0, .slice a1 A.guides.length c1, .slice a2 A.nodes.length c2, .slice a3 A.vers.length c3] 35)).alloc (.cells (hdC h).toArray 36)).alloc (.cells #[.int .i64 0, .int .i64 0, .int .i64 0, .int .i64 0, .int .i64 0, .int .i64 0, .int .i64 0, .int .i64 0, .int .i64 0, .int .i64 0, .int .i64 0, .int .i64 0, .int .i64 0, .int .i64 0, .int .i64 0, .int .i64 0, .int .i64 0, .int .i64 0, .int .i64 0, .int .i64 0, .int .i64 0, .int .i64 0] 36)) ?_)
 generalize hw0 : ((w.alloc (.cells #[.int .i64 A.camera, .slice a0 A.slots.length c0, .slice a1 A.guides.length c1, .slice a2 A.nodes.length c2, .slice a3 A.vers.length c3] 35)).alloc (.cells (hdC h).toArray 36)).alloc (.cells #[.int .i64 0, .int .i64 0, .int .i64 0, .int .i64 0, .int .i64 0, .int .i64 0, .int .i64 0, .int .i64 0, .int .i64 0, .int .i64 0, .int .i64 0, .int .i64 0, .int .i64 0, .int .i64 0, .int .i64 0, .int .i64 0, .int .i64 0, .int .i64 0, .int .i64 0, .int .i64 0, .int .i64 0, .int .i64 0] 36) = w0 at *
 clear hw0 I
 show wpList _ _ _ _ _ w0
 obtain ⟨v, hv⟩ : ∃ v : Nat, h.ver = v := ⟨h.ver.toNat, by omega⟩
 obtain ⟨n, hn⟩ : ∃ n : Nat, h.x_ = n := ⟨h.x_.toNat, by omega⟩
 have hvl : v < A.vers.length := by omega
 have hvl' : (v : Int) < (A.vers.length : Int) := by omega
 have hvl0 : (0 : Int) <= (v : Int) := by omega
 have hnl : n < A.nodes.length := by omega
 have hnl' : (n : Int) < (A.nodes.length : Int) := by omega
 have hnl0 : (0 : Int) <= (n : Int) := by omega
 have hvr : vrOf A h.ver = A.vers[v] := by rw [hv, qz2z A v hvl]
 have hnd : ndOf A h.x_ = A.nodes[n] := by rw [hn, qzs A n hnl]
 have hval := qz4q hOk n hnl
 have hver := qz44 hOk v hvl
 obtain ⟨bb, off, rfl, hbb, R⟩ := qzh.at I0.r (by omega)
 obtain ⟨bn, on, rfl, hbn, RN⟩ := qzh.at I0.n (by omega)
 have V5 := qza (sz := 5) (fun _ => rfl) R v hvl
 have N3 := qza (sz := 3) (fun _ => rfl) RN n hnl
 have v0 : w0.cell? ⟨bb, off + v * 5, none⟩ = some (.int .i64 A.vers[v].next) := by simpa using V5 0 _ rfl
 have v1 : w0.cell? ⟨bb, off + v * 5 + 1, none⟩ = some (.bool A.vers[v].gone) := V5 1 _ rfl
 have v2 : w0.cell? ⟨bb, off + v * 5 + 2, none⟩ = some (.int .i64 A.vers[v].stamp) := V5 2 _ rfl
 have v3 : w0.cell? ⟨bb, off + v * 5 + 3, none⟩ = some (.int .i64 A.vers[v].prev) := V5 3 _ rfl
 have v4 : w0.cell? ⟨bb, off + v * 5 + 4, none⟩ = some (.int .i64 A.vers[v].kind) := V5 4 _ rfl
 have x4 : w0.cell? ⟨w.heap.size, 4, none⟩ = some (.slice (some ⟨bb, off, none⟩) A.vers.length c3) := by simpa using X0 4 _ rfl
 have q11 : w0.cell? ⟨w.heap.size + 1, 11, none⟩ = some (.int .i64 h.ver) := by simpa using H0 11 (.int .i64 h.ver) rfl
 rw [hv] at q11
 have RN0 := RN
 clear R RN V5 N3
 have tok : True := trivial
 go_wp2_with (clear tok; refine qz24 (w0.alloc (.cells #[.int .i64 A.vers[v].next, .bool A.vers[v].gone, .int .i64 A.vers[v].stamp, .int .i64 A.vers[v].prev, .int .i64 A.vers[v].kind] 80)) ?_)
 have al := (Below.refl w0.heap.size w0).alloc (Nat.le_refl _) (.cells #[.int .i64 A.vers[v].next, .bool A.vers[v].gone, .int .i64 A.vers[v].stamp, .int .i64 A.vers[v].prev, .int .i64 A.vers[v].kind] 80)
 have VB1 := qz5 w0 [.int .i64 A.vers[v].next, .bool A.vers[v].gone, .int .i64 A.vers[v].stamp, .int .i64 A.vers[v].prev, .int .i64 A.vers[v].kind] 80
 have X1 := qz0 X0 al (by omega)
 have H1 := qz0 H0 al (by omega)
 have G1 := qz3 G0 al (by omega)
 have F1 := qz3 F0 al (by omega)
 have K1 := K0.trans (al.mono (by omega))
 have I1 := I0.below (al.mono (by omega))
 have hz1 := Nat.lt_of_lt_of_le hz0 al.size
 have hl1 : w0.heap.size < (w0.alloc (.cells #[.int .i64 A.vers[v].next, .bool A.vers[v].gone, .int .i64 A.vers[v].stamp, .int .i64 A.vers[v].prev, .int .i64 A.vers[v].kind] 80)).heap.size := by simp
 have RN1 := qz0 RN0 al (by omega)
 generalize hw1 : w0.alloc (.cells #[.int .i64 A.vers[v].next, .bool A.vers[v].gone, .int .i64 A.vers[v].stamp, .int .i64 A.vers[v].prev, .int .i64 A.vers[v].kind] 80) = w1 at *
 show wpList _ _ _ _ _ w1
 clear hw1 al X0 H0 G0 F0 K0 I0
 clear v0 v1 v2 v3 v4 x4 q11 RN0
 have N3 := qza (sz := 3) (fun _ => rfl) RN1 n hnl
 have n0 : w1.cell? ⟨bn, on + n * 3, none⟩ = some (.int .i64 A.nodes[n].key) := by simpa using N3 0 _ rfl
 have n1 : w1.cell? ⟨bn, on + n * 3 + 1, none⟩ = some (.int .i64 A.nodes[n].value) := N3 1 _ rfl
 have n2 : w1.cell? ⟨bn, on + n * 3 + 2, none⟩ = some (.int .i64 A.nodes[n].head) := N3 2 _ rfl
 have x3 : w1.cell? ⟨w.heap.size, 3, none⟩ = some (.slice (some ⟨bn, on, none⟩) A.nodes.length c2) := by simpa using X1 3 _ rfl
 have q10 : w1.cell? ⟨w.heap.size + 1, 10, none⟩ = some (.int .i64 h.x_) := by simpa using H1 10 (.int .i64 h.x_) rfl
 rw [hn] at q10
 clear N3
 have tok : True := trivial
 go_wp2_with (clear tok; refine qz24 (w1.alloc (.cells #[.int .i64 A.nodes[n].key, .int .i64 A.nodes[n].value, .int .i64 A.nodes[n].head] 65)) ?_)
 have al := (Below.refl w1.heap.size w1).alloc (Nat.le_refl _) (.cells #[.int .i64 A.nodes[n].key, .int .i64 A.nodes[n].value, .int .i64 A.nodes[n].head] 65)
 have NB2 := qz5 w1 [.int .i64 A.nodes[n].key, .int .i64 A.nodes[n].value, .int .i64 A.nodes[n].head] 65
 have X2 := qz0 X1 al (by omega)
 have H2 := qz0 H1 al (by omega)
 have G2 := qz3 G1 al (by omega)
 have F2 := qz3 F1 al (by omega)
 have K2 := K1.trans (al.mono (by omega))
 have I2 := I1.below (al.mono (by omega))
 have hz2 := Nat.lt_of_lt_of_le hz1 al.size
 have hl2 : w1.heap.size < (w1.alloc (.cells #[.int .i64 A.nodes[n].key, .int .i64 A.nodes[n].value, .int .i64 A.nodes[n].head] 65)).heap.size := by simp
 have RN2 := qz0 RN1 al (by omega)
 have VB2 := qz0 VB1 al (by omega)
 generalize hw2 : w1.alloc (.cells #[.int .i64 A.nodes[n].key, .int .i64 A.nodes[n].value, .int .i64 A.nodes[n].head] 65) = w2 at *
 show wpList _ _ _ _ _ w2
 clear hw2 al X1 H1 G1 F1 K1 I1
 clear n0 n1 n2 x3 q10 RN1 VB1
 have q0 : w2.cell? ⟨w.heap.size + 1, 0, none⟩ = some (.int .i64 h.at_) := by simpa using H2 0 (.int .i64 h.at_) rfl
 have q2 : w2.cell? ⟨w.heap.size + 1, 2, none⟩ = some (.int .i64 h.code) := by simpa using H2 2 (.int .i64 h.code) rfl
 have q3 : w2.cell? ⟨w.heap.size + 1, 3, none⟩ = some (.int .i64 h.key) := by simpa using H2 3 (.int .i64 h.key) rfl
 have q4 : w2.cell? ⟨w.heap.size + 1, 4, none⟩ = some (.int .i64 h.value) := by simpa using H2 4 (.int .i64 h.value) rfl
 have q7 : w2.cell? ⟨w.heap.size + 1, 7, none⟩ = some (.int .i64 h.out) := by simpa using H2 7 (.int .i64 h.out) rfl
 have q8 : w2.cell? ⟨w.heap.size + 1, 8, none⟩ = some (.int .i64 h.sum) := by simpa using H2 8 (.int .i64 h.sum) rfl
 have q10 : w2.cell? ⟨w.heap.size + 1, 10, none⟩ = some (.int .i64 h.x_) := by simpa using H2 10 (.int .i64 h.x_) rfl
 have f0 : w2.frozen? ⟨w.heap.size + 1, 0, none⟩ = false := by simpa using (G2 0 (by decide)).2
 have f7 : w2.frozen? ⟨w.heap.size + 1, 7, none⟩ = false := by simpa using (G2 7 (by decide)).2
 have f8 : w2.frozen? ⟨w.heap.size + 1, 8, none⟩ = false := by simpa using (G2 8 (by decide)).2
 have f10 : w2.frozen? ⟨w.heap.size + 1, 10, none⟩ = false := by simpa using (G2 10 (by decide)).2
 rw [hn] at q10
 have x3 : w2.cell? ⟨w.heap.size, 3, none⟩ = some (.slice (some ⟨bn, on, none⟩) A.nodes.length c2) := by simpa using X2 3 _ rfl
 have v0 : w2.cell? ⟨w0.heap.size, 0, none⟩ = some (.int .i64 A.vers[v].next) := by simpa using VB2 0 _ rfl
 have v1 : w2.cell? ⟨w0.heap.size, 1, none⟩ = some (.bool A.vers[v].gone) := by simpa using VB2 1 _ rfl
 have n0 : w2.cell? ⟨w1.heap.size, 0, none⟩ = some (.int .i64 A.nodes[n].key) := by simpa using NB2 0 _ rfl
 have n1 : w2.cell? ⟨w1.heap.size, 1, none⟩ = some (.int .i64 A.nodes[n].value) := by simpa using NB2 1 _ rfl
 have e1 : ¬ (w.heap.size + 1 = w0.heap.size) := by omega
 have e2 : ¬ (w.heap.size + 1 = w1.heap.size) := by omega
 have e3 : ¬ (w.heap.size + 1 = bn) := by omega
 clear X2 VB2 NB2 hl1 hl2 hz0 hz1
 by_cases k6 : h.code = 6
 case neg =>
  by_cases k7 : h.code = 7
  case neg =>
   have b6 : (h.code == 6) = false := by simp [k6]
   have b7 : (h.code == 7) = false := by simp [k7]
   have nb6 : (h.code != 6) = true := by simp [k6]
   have nb7 : (h.code != 7) = true := by simp [k7]
   obtain ⟨H', hH⟩ : ∃ H' : Hd, Hid (H' = { h with at_ := 0 }) := by exact ⟨_, rfl⟩
   have hv : Hid (useH A h = H') := by show _ = _; rw [hH.out]; simp [useH, k6, k7]
   go_upto_region 5 with (first | (go_at_call 43; refine (qzk _ _ _).mono ?_; rintro e w' ⟨rfl, hw⟩; obtain rfl := hw.symm) | (go_at_call 40; refine (qzd _ _ _ _).mono ?_; rintro e w' ⟨rfl, hw⟩; obtain rfl := hw.symm))
   go_wp2_with (first | (refine wpList_load_mid rfl 36 (.tmp 3) rfl (w.heap.size + 1) 0 ?hxln21 (hdC H') _ ?hcn21 Tryz.underlying36 rfl (qz1 H') ?_) | (refine wpList_store_mid rfl 36 (.tmp 4) _ rfl (w.heap.size + 1 + 1) 0 (hdC H').toArray ?hxn21 ?hyn21 ?htn21 (qz8 _) (qzc _) ?_))
   try (case hxln21 => rfl)
   case hcn21 => rw [hH.out]; exact (qz6 H2 0 (by simp [hdC]) _)
   try (case hxn21 => rfl)
   try (case hyn21 => rfl)
   case htn21 => exact (qz2 F2 _ _)
   refine bodyPost_ret (v := .agg (hdC H').toArray) ?_ rfl ⟨by rw [hv.out], ?_⟩
   ·exact qz4 Tryz.results77 _ _ (w.heap.size + 1 + 1) 0 rfl (hdC H') _ (World.rangeAt_setCells_same _ _ _ _ (qz2 F2 _ _)) Tryz.underlying36 rfl (qz1 _)
   ·exact Below.setCells (by omega) _ _ _ (Below.setCell K2 (p := ⟨w.heap.size + 1, 0, none⟩) (by show w.heap.size <= w.heap.size + 1; omega) _)
  have b6 : (h.code == 6) = false := by simp [k6]
  by_cases kx : n = 0
  case pos =>
   have hcb : qz2q A h = false := by simp [qz2q, hn, kx]
   have bx0 : ((n : Int) == 0) = true := by simp [kx]
   have nbx0 : ((n : Int) != 0) = false := by simp [kx]
   go_upto_region 13 with (first | (go_at_call 43; refine (qzk _ _ _).mono ?_; rintro e w' ⟨rfl, hw⟩; obtain rfl := hw.symm) | (go_at_call 40; refine (qzd _ _ _ _).mono ?_; rintro e w' ⟨rfl, hw⟩; obtain rfl := hw.symm))
   by_cases hl : A.vers[v].next < 0
   ·obtain ⟨H', hH⟩ : ∃ H' : Hd, Hid (H' = h) := by exact ⟨_, rfl⟩
    have hv : Hid (useH A h = qzb H' 4 h.out h.sum) := by show _ = _; rw [hH.out]; simp [useH, k7, qz2k, hvr, hl, hcb]
    go_upto_region 19 with (first | (go_at_call 43; refine (qzk _ _ _).mono ?_; rintro e w' ⟨rfl, hw⟩; obtain rfl := hw.symm) | (go_at_call 40; refine (qzd _ _ _ _).mono ?_; rintro e w' ⟨rfl, hw⟩; obtain rfl := hw.symm))
    go_wp2_with (first | (refine wpList_load_mid rfl 36 (.tmp 3) rfl (w.heap.size + 1) 0 ?hxln22 (hdC H') _ ?hcn22 Tryz.underlying36 rfl (qz1 H') ?_))
    try (case hxln22 => rfl)
    case hcn22 => rw [hH.out]; exact H2
    refine (qzu H' 4 h.out h.sum _).mono ?_
    rintro e w9 ⟨rfl, b9⟩
    have F9 := qz3 F2 b9 (by first | omega | (simp; omega))
    have K9 := K2.trans (b9.mono (by first | omega | (simp; omega)))
    go_wp2_with (refine wpList_store_mid rfl 36 (.tmp 4) _ rfl (w.heap.size + 1 + 1) 0 (hdC (qzb H' 4 h.out h.sum)).toArray ?hxn22 ?hyn22 ?htn22 (qz8 _) (qzc _) ?_)
    try (case hxn22 => rfl)
    try (case hyn22 => rfl)
    case htn22 => exact F9
    refine bodyPost_ret (v := .agg (hdC (qzb H' 4 h.out h.sum)).toArray) ?_ rfl ⟨by rw [hv.out], ?_⟩
    ·exact qz4 Tryz.results77 _ _ (w.heap.size + 1 + 1) 0 rfl (hdC (qzb H' 4 h.out h.sum)) _ (World.rangeAt_setCells_same _ _ _ _ F9) Tryz.underlying36 rfl (qz1 _)
    ·exact Below.setCells (by omega) _ _ _ K9
   obtain ⟨nn, hnn⟩ : ∃ nn : Nat, A.vers[v].next = nn := ⟨A.vers[v].next.toNat, by omega⟩
   have hnnl : nn < A.nodes.length := by omega
   have hnnl' : (nn : Int) < (A.nodes.length : Int) := by omega
   have hnnl0 : (0 : Int) <= (nn : Int) := by omega
   have hnn3 : ¬ ((nn : Int) < 0) := by omega
   have hndn : ndOf A (vrOf A h.ver).next = A.nodes[nn] := by rw [hvr, hnn, qzs A nn hnnl]
   rw [hnn] at v0
   have m0 : w2.cell? ⟨bn, on + nn * 3, none⟩ = some (.int .i64 A.nodes[nn].key) := by simpa using (qza (sz := 3) (fun _ => rfl) RN2 nn hnnl) 0 _ rfl
   by_cases hk : h.value < A.nodes[nn].key
   ·obtain ⟨H', hH⟩ : ∃ H' : Hd, Hid (H' = h) := by exact ⟨_, rfl⟩
    have hv : Hid (useH A h = qzb H' 4 h.out h.sum) := by show _ = _; rw [hH.out]; simp [useH, k7, qz2k, hndn, hk, hcb]
    go_upto_region 19 with (first | (go_at_call 43; refine (qzk _ _ _).mono ?_; rintro e w' ⟨rfl, hw⟩; obtain rfl := hw.symm) | (go_at_call 40; refine (qzd _ _ _ _).mono ?_; rintro e w' ⟨rfl, hw⟩; obtain rfl := hw.symm))
    go_wp2_with (first | (refine wpList_load_mid rfl 36 (.tmp 3) rfl (w.heap.size + 1) 0 ?hxln23 (hdC H') _ ?hcn23 Tryz.underlying36 rfl (qz1 H') ?_))
    try (case hxln23 => rfl)
    case hcn23 => rw [hH.out]; exact H2
    refine (qzu H' 4 h.out h.sum _).mono ?_
    rintro e w9 ⟨rfl, b9⟩
    have F9 := qz3 F2 b9 (by first | omega | (simp; omega))
    have K9 := K2.trans (b9.mono (by first | omega | (simp; omega)))
    go_wp2_with (refine wpList_store_mid rfl 36 (.tmp 4) _ rfl (w.heap.size + 1 + 1) 0 (hdC (qzb H' 4 h.out h.sum)).toArray ?hxn23 ?hyn23 ?htn23 (qz8 _) (qzc _) ?_)
    try (case hxn23 => rfl)
    try (case hyn23 => rfl)
    case htn23 => exact F9
    refine bodyPost_ret (v := .agg (hdC (qzb H' 4 h.out h.sum)).toArray) ?_ rfl ⟨by rw [hv.out], ?_⟩
    ·exact qz4 Tryz.results77 _ _ (w.heap.size + 1 + 1) 0 rfl (hdC (qzb H' 4 h.out h.sum)) _ (World.rangeAt_setCells_same _ _ _ _ F9) Tryz.underlying36 rfl (qz1 _)
    ·exact Below.setCells (by omega) _ _ _ K9
   obtain ⟨H', hH⟩ : ∃ H' : Hd, Hid (H' = { h with x_ := (nn : Int), at_ := 2 }) := by exact ⟨_, rfl⟩
   have hv : Hid (useH A h = H') := by
    show _ = _
    rw [hH.out]
    have hlb : qz2k A h = false := by unfold qz2k; rw [hndn, hvr, hnn]; simp [k7, hk]
    simp [useH, k7, hlb, hcb, hvr, hnn]
   go_upto_region 22 with (first | (go_at_call 43; refine (qzk _ _ _).mono ?_; rintro e w' ⟨rfl, hw⟩; obtain rfl := hw.symm) | (go_at_call 40; refine (qzd _ _ _ _).mono ?_; rintro e w' ⟨rfl, hw⟩; obtain rfl := hw.symm))
   go_wp2_with (first | (refine wpList_load_mid rfl 36 (.tmp 3) rfl (w.heap.size + 1) 0 ?hxln24 (hdC H') _ ?hcn24 Tryz.underlying36 rfl (qz1 H') ?_) | (refine wpList_store_mid rfl 36 (.tmp 4) _ rfl (w.heap.size + 1 + 1) 0 (hdC H').toArray ?hxn24 ?hyn24 ?htn24 (qz8 _) (qzc _) ?_))
   try (case hxln24 => rfl)
   case hcn24 => rw [hH.out]; exact (qz6 (qz6 H2 10 (by simp [hdC]) _) 0 (by simp [hdC]) _)
   try (case hxn24 => rfl)
   try (case hyn24 => rfl)
   case htn24 => exact (qz2 (qz2 F2 _ _) _ _)
   refine bodyPost_ret (v := .agg (hdC H').toArray) ?_ rfl ⟨by rw [hv.out], ?_⟩
   ·exact qz4 Tryz.results77 _ _ (w.heap.size + 1 + 1) 0 rfl (hdC H') _ (World.rangeAt_setCells_same _ _ _ _ (qz2 (qz2 F2 _ _) _ _)) Tryz.underlying36 rfl (qz1 _)
   ·exact Below.setCells (by omega) _ _ _ (Below.setCell (Below.setCell K2 (p := ⟨w.heap.size + 1, 10, none⟩) (by show w.heap.size <= w.heap.size + 1; omega) _) (p := ⟨w.heap.size + 1, 0, none⟩) (by show w.heap.size <= w.heap.size + 1; omega) _)
  have hnx : ¬ (h.x_ = 0) := by omega
  have bx : ((n : Int) == 0) = false := by simp [kx]
  have nbx : ((n : Int) != 0) = true := by simp [kx]
  cases kin : inB A.nodes[n].key h.key h.value
  case false =>
   have hcb : qz2q A h = false := by simp [qz2q, hnd, kin]
   go_upto_region 13 with (first | (go_at_call 43; refine (qzk _ _ _).mono ?_; rintro e w' ⟨rfl, hw⟩; obtain rfl := hw.symm) | (go_at_call 40; refine (qzd _ _ _ _).mono ?_; rintro e w' ⟨rfl, hw⟩; obtain rfl := hw.symm))
   by_cases hl : A.vers[v].next < 0
   ·obtain ⟨H', hH⟩ : ∃ H' : Hd, Hid (H' = h) := by exact ⟨_, rfl⟩
    have hv : Hid (useH A h = qzb H' 4 h.out h.sum) := by show _ = _; rw [hH.out]; simp [useH, k7, qz2k, hvr, hl, hcb]
    go_upto_region 19 with (first | (go_at_call 43; refine (qzk _ _ _).mono ?_; rintro e w' ⟨rfl, hw⟩; obtain rfl := hw.symm) | (go_at_call 40; refine (qzd _ _ _ _).mono ?_; rintro e w' ⟨rfl, hw⟩; obtain rfl := hw.symm))
    go_wp2_with (first | (refine wpList_load_mid rfl 36 (.tmp 3) rfl (w.heap.size + 1) 0 ?hxln25 (hdC H') _ ?hcn25 Tryz.underlying36 rfl (qz1 H') ?_))
    try (case hxln25 => rfl)
    case hcn25 => rw [hH.out]; exact H2
    refine (qzu H' 4 h.out h.sum _).mono ?_
    rintro e w9 ⟨rfl, b9⟩
    have F9 := qz3 F2 b9 (by first | omega | (simp; omega))
    have K9 := K2.trans (b9.mono (by first | omega | (simp; omega)))
    go_wp2_with (refine wpList_store_mid rfl 36 (.tmp 4) _ rfl (w.heap.size + 1 + 1) 0 (hdC (qzb H' 4 h.out h.sum)).toArray ?hxn25 ?hyn25 ?htn25 (qz8 _) (qzc _) ?_)
    try (case hxn25 => rfl)
    try (case hyn25 => rfl)
    case htn25 => exact F9
    refine bodyPost_ret (v := .agg (hdC (qzb H' 4 h.out h.sum)).toArray) ?_ rfl ⟨by rw [hv.out], ?_⟩
    ·exact qz4 Tryz.results77 _ _ (w.heap.size + 1 + 1) 0 rfl (hdC (qzb H' 4 h.out h.sum)) _ (World.rangeAt_setCells_same _ _ _ _ F9) Tryz.underlying36 rfl (qz1 _)
    ·exact Below.setCells (by omega) _ _ _ K9
   obtain ⟨nn, hnn⟩ : ∃ nn : Nat, A.vers[v].next = nn := ⟨A.vers[v].next.toNat, by omega⟩
   have hnnl : nn < A.nodes.length := by omega
   have hnnl' : (nn : Int) < (A.nodes.length : Int) := by omega
   have hnnl0 : (0 : Int) <= (nn : Int) := by omega
   have hnn3 : ¬ ((nn : Int) < 0) := by omega
   have hndn : ndOf A (vrOf A h.ver).next = A.nodes[nn] := by rw [hvr, hnn, qzs A nn hnnl]
   rw [hnn] at v0
   have m0 : w2.cell? ⟨bn, on + nn * 3, none⟩ = some (.int .i64 A.nodes[nn].key) := by simpa using (qza (sz := 3) (fun _ => rfl) RN2 nn hnnl) 0 _ rfl
   by_cases hk : h.value < A.nodes[nn].key
   ·obtain ⟨H', hH⟩ : ∃ H' : Hd, Hid (H' = h) := by exact ⟨_, rfl⟩
    have hv : Hid (useH A h = qzb H' 4 h.out h.sum) := by show _ = _; rw [hH.out]; simp [useH, k7, qz2k, hndn, hk, hcb]
    go_upto_region 19 with (first | (go_at_call 43; refine (qzk _ _ _).mono ?_; rintro e w' ⟨rfl, hw⟩; obtain rfl := hw.symm) | (go_at_call 40; refine (qzd _ _ _ _).mono ?_; rintro e w' ⟨rfl, hw⟩; obtain rfl := hw.symm))
    go_wp2_with (first | (refine wpList_load_mid rfl 36 (.tmp 3) rfl (w.heap.size + 1) 0 ?hxln26 (hdC H') _ ?hcn26 Tryz.underlying36 rfl (qz1 H') ?_))
    try (case hxln26 => rfl)
    case hcn26 => rw [hH.out]; exact H2
    refine (qzu H' 4 h.out h.sum _).mono ?_
    rintro e w9 ⟨rfl, b9⟩
    have F9 := qz3 F2 b9 (by first | omega | (simp; omega))
    have K9 := K2.trans (b9.mono (by first | omega | (simp; omega)))
    go_wp2_with (refine wpList_store_mid rfl 36 (.tmp 4) _ rfl (w.heap.size + 1 + 1) 0 (hdC (qzb H' 4 h.out h.sum)).toArray ?hxn26 ?hyn26 ?htn26 (qz8 _) (qzc _) ?_)
    try (case hxn26 => rfl)
    try (case hyn26 => rfl)
    case htn26 => exact F9
    refine bodyPost_ret (v := .agg (hdC (qzb H' 4 h.out h.sum)).toArray) ?_ rfl ⟨by rw [hv.out], ?_⟩
    ·exact qz4 Tryz.results77 _ _ (w.heap.size + 1 + 1) 0 rfl (hdC (qzb H' 4 h.out h.sum)) _ (World.rangeAt_setCells_same _ _ _ _ F9) Tryz.underlying36 rfl (qz1 _)
    ·exact Below.setCells (by omega) _ _ _ K9
   obtain ⟨H', hH⟩ : ∃ H' : Hd, Hid (H' = { h with x_ := (nn : Int), at_ := 2 }) := by exact ⟨_, rfl⟩
   have hv : Hid (useH A h = H') := by
    show _ = _
    rw [hH.out]
    have hlb : qz2k A h = false := by unfold qz2k; rw [hndn, hvr, hnn]; simp [k7, hk]
    simp [useH, k7, hlb, hcb, hvr, hnn]
   go_upto_region 22 with (first | (go_at_call 43; refine (qzk _ _ _).mono ?_; rintro e w' ⟨rfl, hw⟩; obtain rfl := hw.symm) | (go_at_call 40; refine (qzd _ _ _ _).mono ?_; rintro e w' ⟨rfl, hw⟩; obtain rfl := hw.symm))
   go_wp2_with (first | (refine wpList_load_mid rfl 36 (.tmp 3) rfl (w.heap.size + 1) 0 ?hxln27 (hdC H') _ ?hcn27 Tryz.underlying36 rfl (qz1 H') ?_) | (refine wpList_store_mid rfl 36 (.tmp 4) _ rfl (w.heap.size + 1 + 1) 0 (hdC H').toArray ?hxn27 ?hyn27 ?htn27 (qz8 _) (qzc _) ?_))
   try (case hxln27 => rfl)
   case hcn27 => rw [hH.out]; exact (qz6 (qz6 H2 10 (by simp [hdC]) _) 0 (by simp [hdC]) _)
   try (case hxn27 => rfl)
   try (case hyn27 => rfl)
   case htn27 => exact (qz2 (qz2 F2 _ _) _ _)
   refine bodyPost_ret (v := .agg (hdC H').toArray) ?_ rfl ⟨by rw [hv.out], ?_⟩
   ·exact qz4 Tryz.results77 _ _ (w.heap.size + 1 + 1) 0 rfl (hdC H') _ (World.rangeAt_setCells_same _ _ _ _ (qz2 (qz2 F2 _ _) _ _)) Tryz.underlying36 rfl (qz1 _)
   ·exact Below.setCells (by omega) _ _ _ (Below.setCell (Below.setCell K2 (p := ⟨w.heap.size + 1, 10, none⟩) (by show w.heap.size <= w.heap.size + 1; omega) _) (p := ⟨w.heap.size + 1, 0, none⟩) (by show w.heap.size <= w.heap.size + 1; omega) _)
  cases kg : A.vers[v].gone
  case true =>
   have hcb : qz2q A h = false := by simp [qz2q, hvr, kg]
   go_upto_region 13 with (first | (go_at_call 43; refine (qzk _ _ _).mono ?_; rintro e w' ⟨rfl, hw⟩; obtain rfl := hw.symm) | (go_at_call 40; refine (qzd _ _ _ _).mono ?_; rintro e w' ⟨rfl, hw⟩; obtain rfl := hw.symm))
   by_cases hl : A.vers[v].next < 0
   ·obtain ⟨H', hH⟩ : ∃ H' : Hd, Hid (H' = h) := by exact ⟨_, rfl⟩
    have hv : Hid (useH A h = qzb H' 4 h.out h.sum) := by show _ = _; rw [hH.out]; simp [useH, k7, qz2k, hvr, hl, hcb]
    go_upto_region 19 with (first | (go_at_call 43; refine (qzk _ _ _).mono ?_; rintro e w' ⟨rfl, hw⟩; obtain rfl := hw.symm) | (go_at_call 40; refine (qzd _ _ _ _).mono ?_; rintro e w' ⟨rfl, hw⟩; obtain rfl := hw.symm))
    go_wp2_with (first | (refine wpList_load_mid rfl 36 (.tmp 3) rfl (w.heap.size + 1) 0 ?hxln28 (hdC H') _ ?hcn28 Tryz.underlying36 rfl (qz1 H') ?_))
    try (case hxln28 => rfl)
    case hcn28 => rw [hH.out]; exact H2
    refine (qzu H' 4 h.out h.sum _).mono ?_
    rintro e w9 ⟨rfl, b9⟩
    have F9 := qz3 F2 b9 (by first | omega | (simp; omega))
    have K9 := K2.trans (b9.mono (by first | omega | (simp; omega)))
    go_wp2_with (refine wpList_store_mid rfl 36 (.tmp 4) _ rfl (w.heap.size + 1 + 1) 0 (hdC (qzb H' 4 h.out h.sum)).toArray ?hxn28 ?hyn28 ?htn28 (qz8 _) (qzc _) ?_)
    try (case hxn28 => rfl)
    try (case hyn28 => rfl)
    case htn28 => exact F9
    refine bodyPost_ret (v := .agg (hdC (qzb H' 4 h.out h.sum)).toArray) ?_ rfl ⟨by rw [hv.out], ?_⟩
    ·exact qz4 Tryz.results77 _ _ (w.heap.size + 1 + 1) 0 rfl (hdC (qzb H' 4 h.out h.sum)) _ (World.rangeAt_setCells_same _ _ _ _ F9) Tryz.underlying36 rfl (qz1 _)
    ·exact Below.setCells (by omega) _ _ _ K9
   obtain ⟨nn, hnn⟩ : ∃ nn : Nat, A.vers[v].next = nn := ⟨A.vers[v].next.toNat, by omega⟩
   have hnnl : nn < A.nodes.length := by omega
   have hnnl' : (nn : Int) < (A.nodes.length : Int) := by omega
   have hnnl0 : (0 : Int) <= (nn : Int) := by omega
   have hnn3 : ¬ ((nn : Int) < 0) := by omega
   have hndn : ndOf A (vrOf A h.ver).next = A.nodes[nn] := by rw [hvr, hnn, qzs A nn hnnl]
   rw [hnn] at v0
   have m0 : w2.cell? ⟨bn, on + nn * 3, none⟩ = some (.int .i64 A.nodes[nn].key) := by simpa using (qza (sz := 3) (fun _ => rfl) RN2 nn hnnl) 0 _ rfl
   by_cases hk : h.value < A.nodes[nn].key
   ·obtain ⟨H', hH⟩ : ∃ H' : Hd, Hid (H' = h) := by exact ⟨_, rfl⟩
    have hv : Hid (useH A h = qzb H' 4 h.out h.sum) := by show _ = _; rw [hH.out]; simp [useH, k7, qz2k, hndn, hk, hcb]
    go_upto_region 19 with (first | (go_at_call 43; refine (qzk _ _ _).mono ?_; rintro e w' ⟨rfl, hw⟩; obtain rfl := hw.symm) | (go_at_call 40; refine (qzd _ _ _ _).mono ?_; rintro e w' ⟨rfl, hw⟩; obtain rfl := hw.symm))
    go_wp2_with (first | (refine wpList_load_mid rfl 36 (.tmp 3) rfl (w.heap.size + 1) 0 ?hxln29 (hdC H') _ ?hcn29 Tryz.underlying36 rfl (qz1 H') ?_))
    try (case hxln29 => rfl)
    case hcn29 => rw [hH.out]; exact H2
    refine (qzu H' 4 h.out h.sum _).mono ?_
    rintro e w9 ⟨rfl, b9⟩
    have F9 := qz3 F2 b9 (by first | omega | (simp; omega))
    have K9 := K2.trans (b9.mono (by first | omega | (simp; omega)))
    go_wp2_with (refine wpList_store_mid rfl 36 (.tmp 4) _ rfl (w.heap.size + 1 + 1) 0 (hdC (qzb H' 4 h.out h.sum)).toArray ?hxn29 ?hyn29 ?htn29 (qz8 _) (qzc _) ?_)
    try (case hxn29 => rfl)
    try (case hyn29 => rfl)
    case htn29 => exact F9
    refine bodyPost_ret (v := .agg (hdC (qzb H' 4 h.out h.sum)).toArray) ?_ rfl ⟨by rw [hv.out], ?_⟩
    ·exact qz4 Tryz.results77 _ _ (w.heap.size + 1 + 1) 0 rfl (hdC (qzb H' 4 h.out h.sum)) _ (World.rangeAt_setCells_same _ _ _ _ F9) Tryz.underlying36 rfl (qz1 _)
    ·exact Below.setCells (by omega) _ _ _ K9
   obtain ⟨H', hH⟩ : ∃ H' : Hd, Hid (H' = { h with x_ := (nn : Int), at_ := 2 }) := by exact ⟨_, rfl⟩
   have hv : Hid (useH A h = H') := by
    show _ = _
    rw [hH.out]
    have hlb : qz2k A h = false := by unfold qz2k; rw [hndn, hvr, hnn]; simp [k7, hk]
    simp [useH, k7, hlb, hcb, hvr, hnn]
   go_upto_region 22 with (first | (go_at_call 43; refine (qzk _ _ _).mono ?_; rintro e w' ⟨rfl, hw⟩; obtain rfl := hw.symm) | (go_at_call 40; refine (qzd _ _ _ _).mono ?_; rintro e w' ⟨rfl, hw⟩; obtain rfl := hw.symm))
   go_wp2_with (first | (refine wpList_load_mid rfl 36 (.tmp 3) rfl (w.heap.size + 1) 0 ?hxln30 (hdC H') _ ?hcn30 Tryz.underlying36 rfl (qz1 H') ?_) | (refine wpList_store_mid rfl 36 (.tmp 4) _ rfl (w.heap.size + 1 + 1) 0 (hdC H').toArray ?hxn30 ?hyn30 ?htn30 (qz8 _) (qzc _) ?_))
   try (case hxln30 => rfl)
   case hcn30 => rw [hH.out]; exact (qz6 (qz6 H2 10 (by simp [hdC]) _) 0 (by simp [hdC]) _)
   try (case hxn30 => rfl)
   try (case hyn30 => rfl)
   case htn30 => exact (qz2 (qz2 F2 _ _) _ _)
   refine bodyPost_ret (v := .agg (hdC H').toArray) ?_ rfl ⟨by rw [hv.out], ?_⟩
   ·exact qz4 Tryz.results77 _ _ (w.heap.size + 1 + 1) 0 rfl (hdC H') _ (World.rangeAt_setCells_same _ _ _ _ (qz2 (qz2 F2 _ _) _ _)) Tryz.underlying36 rfl (qz1 _)
   ·exact Below.setCells (by omega) _ _ _ (Below.setCell (Below.setCell K2 (p := ⟨w.heap.size + 1, 10, none⟩) (by show w.heap.size <= w.heap.size + 1; omega) _) (p := ⟨w.heap.size + 1, 0, none⟩) (by show w.heap.size <= w.heap.size + 1; omega) _)
  have hcb : qz2q A h = true := by simp [qz2q, hnd, hvr, kin, kg, hnx, k7]
  go_upto_region 13 with (first | (go_at_call 43; refine (qzk _ _ _).mono ?_; rintro e w' ⟨rfl, hw⟩; obtain rfl := hw.symm) | (go_at_call 40; refine (qzd _ _ _ _).mono ?_; rintro e w' ⟨rfl, hw⟩; obtain rfl := hw.symm))
  by_cases hl : A.vers[v].next < 0
  ·obtain ⟨H', hH⟩ : ∃ H' : Hd, Hid (H' = { h with out := min (h.out + 1) (1000000 : Int), sum := min (h.sum + A.nodes[n].value) (1000000 : Int) }) := by exact ⟨_, rfl⟩
   have hv : Hid (useH A h = qzb H' 4 (min (h.out + 1) 1000000) (min (h.sum + A.nodes[n].value) 1000000)) := by show _ = _; rw [hH.out]; simp [useH, k7, qz2k, hvr, hl, hcb, qz6v, hnd] <;> rfl
   go_upto_region 19 with (first | (go_at_call 43; refine (qzk _ _ _).mono ?_; rintro e w' ⟨rfl, hw⟩; obtain rfl := hw.symm) | (go_at_call 40; refine (qzd _ _ _ _).mono ?_; rintro e w' ⟨rfl, hw⟩; obtain rfl := hw.symm))
   go_wp2_with (first | (refine wpList_load_mid rfl 36 (.tmp 3) rfl (w.heap.size + 1) 0 ?hxln31 (hdC H') _ ?hcn31 Tryz.underlying36 rfl (qz1 H') ?_))
   try (case hxln31 => rfl)
   case hcn31 => rw [hH.out]; exact (qz6 (qz6 H2 7 (by simp [hdC]) _) 8 (by simp [hdC]) _)
   refine (qzu H' 4 (min (h.out + 1) 1000000) (min (h.sum + A.nodes[n].value) 1000000) _).mono ?_
   rintro e w9 ⟨rfl, b9⟩
   have F9 := qz3 (qz2 (qz2 F2 _ _) _ _) b9 (by first | omega | (simp; omega))
   have K9 := (Below.setCell (Below.setCell K2 (p := ⟨w.heap.size + 1, 7, none⟩) (by show w.heap.size <= w.heap.size + 1; omega) _) (p := ⟨w.heap.size + 1, 8, none⟩) (by show w.heap.size <= w.heap.size + 1; omega) _).trans (b9.mono (by first | omega | (simp; omega)))
   go_wp2_with (refine wpList_store_mid rfl 36 (.tmp 4) _ rfl (w.heap.size + 1 + 1) 0 (hdC (qzb H' 4 (min (h.out + 1) 1000000) (min (h.sum + A.nodes[n].value) 1000000))).toArray ?hxn31 ?hyn31 ?htn31 (qz8 _) (qzc _) ?_)
   try (case hxn31 => rfl)
   try (case hyn31 => rfl)
   case htn31 => exact F9
   refine bodyPost_ret (v := .agg (hdC (qzb H' 4 (min (h.out + 1) 1000000) (min (h.sum + A.nodes[n].value) 1000000))).toArray) ?_ rfl ⟨by rw [hv.out], ?_⟩
   ·exact qz4 Tryz.results77 _ _ (w.heap.size + 1 + 1) 0 rfl (hdC (qzb H' 4 (min (h.out + 1) 1000000) (min (h.sum + A.nodes[n].value) 1000000))) _ (World.rangeAt_setCells_same _ _ _ _ F9) Tryz.underlying36 rfl (qz1 _)
   ·exact Below.setCells (by omega) _ _ _ K9
  obtain ⟨nn, hnn⟩ : ∃ nn : Nat, A.vers[v].next = nn := ⟨A.vers[v].next.toNat, by omega⟩
  have hnnl : nn < A.nodes.length := by omega
  have hnnl' : (nn : Int) < (A.nodes.length : Int) := by omega
  have hnnl0 : (0 : Int) <= (nn : Int) := by omega
  have hnn3 : ¬ ((nn : Int) < 0) := by omega
  have hndn : ndOf A (vrOf A h.ver).next = A.nodes[nn] := by rw [hvr, hnn, qzs A nn hnnl]
  rw [hnn] at v0
  have m0 : w2.cell? ⟨bn, on + nn * 3, none⟩ = some (.int .i64 A.nodes[nn].key) := by simpa using (qza (sz := 3) (fun _ => rfl) RN2 nn hnnl) 0 _ rfl
  by_cases hk : h.value < A.nodes[nn].key
  ·obtain ⟨H', hH⟩ : ∃ H' : Hd, Hid (H' = { h with out := min (h.out + 1) (1000000 : Int), sum := min (h.sum + A.nodes[n].value) (1000000 : Int) }) := by exact ⟨_, rfl⟩
   have hv : Hid (useH A h = qzb H' 4 (min (h.out + 1) 1000000) (min (h.sum + A.nodes[n].value) 1000000)) := by show _ = _; rw [hH.out]; simp [useH, k7, qz2k, hndn, hk, hcb, qz6v, hnd] <;> rfl
   go_upto_region 19 with (first | (go_at_call 43; refine (qzk _ _ _).mono ?_; rintro e w' ⟨rfl, hw⟩; obtain rfl := hw.symm) | (go_at_call 40; refine (qzd _ _ _ _).mono ?_; rintro e w' ⟨rfl, hw⟩; obtain rfl := hw.symm))
   go_wp2_with (first | (refine wpList_load_mid rfl 36 (.tmp 3) rfl (w.heap.size + 1) 0 ?hxln32 (hdC H') _ ?hcn32 Tryz.underlying36 rfl (qz1 H') ?_))
   try (case hxln32 => rfl)
   case hcn32 => rw [hH.out]; exact (qz6 (qz6 H2 7 (by simp [hdC]) _) 8 (by simp [hdC]) _)
   refine (qzu H' 4 (min (h.out + 1) 1000000) (min (h.sum + A.nodes[n].value) 1000000) _).mono ?_
   rintro e w9 ⟨rfl, b9⟩
   have F9 := qz3 (qz2 (qz2 F2 _ _) _ _) b9 (by first | omega | (simp; omega))
   have K9 := (Below.setCell (Below.setCell K2 (p := ⟨w.heap.size + 1, 7, none⟩) (by show w.heap.size <= w.heap.size + 1; omega) _) (p := ⟨w.heap.size + 1, 8, none⟩) (by show w.heap.size <= w.heap.size + 1; omega) _).trans (b9.mono (by first | omega | (simp; omega)))
   go_wp2_with (refine wpList_store_mid rfl 36 (.tmp 4) _ rfl (w.heap.size + 1 + 1) 0 (hdC (qzb H' 4 (min (h.out + 1) 1000000) (min (h.sum + A.nodes[n].value) 1000000))).toArray ?hxn32 ?hyn32 ?htn32 (qz8 _) (qzc _) ?_)
   try (case hxn32 => rfl)
   try (case hyn32 => rfl)
   case htn32 => exact F9
   refine bodyPost_ret (v := .agg (hdC (qzb H' 4 (min (h.out + 1) 1000000) (min (h.sum + A.nodes[n].value) 1000000))).toArray) ?_ rfl ⟨by rw [hv.out], ?_⟩
   ·exact qz4 Tryz.results77 _ _ (w.heap.size + 1 + 1) 0 rfl (hdC (qzb H' 4 (min (h.out + 1) 1000000) (min (h.sum + A.nodes[n].value) 1000000))) _ (World.rangeAt_setCells_same _ _ _ _ F9) Tryz.underlying36 rfl (qz1 _)
   ·exact Below.setCells (by omega) _ _ _ K9
  obtain ⟨H', hH⟩ : ∃ H' : Hd, Hid (H' = { h with out := min (h.out + 1) (1000000 : Int), sum := min (h.sum + A.nodes[n].value) (1000000 : Int), x_ := (nn : Int), at_ := 2 }) := by exact ⟨_, rfl⟩
  have hv : Hid (useH A h = H') := by
   show _ = _
   rw [hH.out]
   have hlb : qz2k A h = false := by unfold qz2k; rw [hndn, hvr, hnn]; simp [k7, hk]
   simp [useH, k7, hlb, hcb, hvr, hnn, qz6v, hnd]
  go_upto_region 22 with (first | (go_at_call 43; refine (qzk _ _ _).mono ?_; rintro e w' ⟨rfl, hw⟩; obtain rfl := hw.symm) | (go_at_call 40; refine (qzd _ _ _ _).mono ?_; rintro e w' ⟨rfl, hw⟩; obtain rfl := hw.symm))
  go_wp2_with (first | (refine wpList_load_mid rfl 36 (.tmp 3) rfl (w.heap.size + 1) 0 ?hxln33 (hdC H') _ ?hcn33 Tryz.underlying36 rfl (qz1 H') ?_) | (refine wpList_store_mid rfl 36 (.tmp 4) _ rfl (w.heap.size + 1 + 1) 0 (hdC H').toArray ?hxn33 ?hyn33 ?htn33 (qz8 _) (qzc _) ?_))
  try (case hxln33 => rfl)
  case hcn33 => rw [hH.out]; exact (qz6 (qz6 (qz6 (qz6 H2 7 (by simp [hdC]) _) 8 (by simp [hdC]) _) 10 (by simp [hdC]) _) 0 (by simp [hdC]) _)
  try (case hxn33 => rfl)
  try (case hyn33 => rfl)
  case htn33 => exact (qz2 (qz2 (qz2 (qz2 F2 _ _) _ _) _ _) _ _)
  refine bodyPost_ret (v := .agg (hdC H').toArray) ?_ rfl ⟨by rw [hv.out], ?_⟩
  ·exact qz4 Tryz.results77 _ _ (w.heap.size + 1 + 1) 0 rfl (hdC H') _ (World.rangeAt_setCells_same _ _ _ _ (qz2 (qz2 (qz2 (qz2 F2 _ _) _ _) _ _) _ _)) Tryz.underlying36 rfl (qz1 _)
  ·exact Below.setCells (by omega) _ _ _ (Below.setCell (Below.setCell (Below.setCell (Below.setCell K2 (p := ⟨w.heap.size + 1, 7, none⟩) (by show w.heap.size <= w.heap.size + 1; omega) _) (p := ⟨w.heap.size + 1, 8, none⟩) (by show w.heap.size <= w.heap.size + 1; omega) _) (p := ⟨w.heap.size + 1, 10, none⟩) (by show w.heap.size <= w.heap.size + 1; omega) _) (p := ⟨w.heap.size + 1, 0, none⟩) (by show w.heap.size <= w.heap.size + 1; omega) _)
 have b67 : (h.code == 7) = false := by simp [k6]
 have hcb : qz2q A h = false := by simp [qz2q, k6]
 by_cases kx : n = 0
 case pos =>
  have bx0 : ((n : Int) == 0) = true := by simp [kx]
  have nbx0 : ((n : Int) != 0) = false := by simp [kx]
  go_upto_region 13 with (first | (go_at_call 43; refine (qzk _ _ _).mono ?_; rintro e w' ⟨rfl, hw⟩; obtain rfl := hw.symm) | (go_at_call 40; refine (qzd _ _ _ _).mono ?_; rintro e w' ⟨rfl, hw⟩; obtain rfl := hw.symm))
  by_cases hl : A.vers[v].next < 0
  ·obtain ⟨H', hH⟩ : ∃ H' : Hd, Hid (H' = h) := by exact ⟨_, rfl⟩
   have hv : Hid (useH A h = qzb H' 3 0 0) := by show _ = _; rw [hH.out]; simp [useH, k6, qz2k, hvr, hl, hn, kx]
   go_upto_region 18 with (first | (go_at_call 43; refine (qzk _ _ _).mono ?_; rintro e w' ⟨rfl, hw⟩; obtain rfl := hw.symm) | (go_at_call 40; refine (qzd _ _ _ _).mono ?_; rintro e w' ⟨rfl, hw⟩; obtain rfl := hw.symm))
   go_wp2_with (first | (refine wpList_load_mid rfl 36 (.tmp 3) rfl (w.heap.size + 1) 0 ?hxln34 (hdC H') _ ?hcn34 Tryz.underlying36 rfl (qz1 H') ?_))
   try (case hxln34 => rfl)
   case hcn34 => rw [hH.out]; exact H2
   refine (qzu H' 3 0 0 _).mono ?_
   rintro e w9 ⟨rfl, b9⟩
   have F9 := qz3 F2 b9 (by first | omega | (simp; omega))
   have K9 := K2.trans (b9.mono (by first | omega | (simp; omega)))
   go_wp2_with (refine wpList_store_mid rfl 36 (.tmp 4) _ rfl (w.heap.size + 1 + 1) 0 (hdC (qzb H' 3 0 0)).toArray ?hxn34 ?hyn34 ?htn34 (qz8 _) (qzc _) ?_)
   try (case hxn34 => rfl)
   try (case hyn34 => rfl)
   case htn34 => exact F9
   refine bodyPost_ret (v := .agg (hdC (qzb H' 3 0 0)).toArray) ?_ rfl ⟨by rw [hv.out], ?_⟩
   ·exact qz4 Tryz.results77 _ _ (w.heap.size + 1 + 1) 0 rfl (hdC (qzb H' 3 0 0)) _ (World.rangeAt_setCells_same _ _ _ _ F9) Tryz.underlying36 rfl (qz1 _)
   ·exact Below.setCells (by omega) _ _ _ K9
  obtain ⟨nn, hnn⟩ : ∃ nn : Nat, A.vers[v].next = nn := ⟨A.vers[v].next.toNat, by omega⟩
  have hnnl : nn < A.nodes.length := by omega
  have hnnl' : (nn : Int) < (A.nodes.length : Int) := by omega
  have hnnl0 : (0 : Int) <= (nn : Int) := by omega
  have hnn3 : ¬ ((nn : Int) < 0) := by omega
  have hndn : ndOf A (vrOf A h.ver).next = A.nodes[nn] := by rw [hvr, hnn, qzs A nn hnnl]
  rw [hnn] at v0
  have m0 : w2.cell? ⟨bn, on + nn * 3, none⟩ = some (.int .i64 A.nodes[nn].key) := by simpa using (qza (sz := 3) (fun _ => rfl) RN2 nn hnnl) 0 _ rfl
  by_cases hk : h.key < A.nodes[nn].key
  ·obtain ⟨H', hH⟩ : ∃ H' : Hd, Hid (H' = h) := by exact ⟨_, rfl⟩
   have hv : Hid (useH A h = qzb H' 3 0 0) := by show _ = _; rw [hH.out]; simp [useH, k6, qz2k, hndn, hk, hn, kx]
   go_upto_region 18 with (first | (go_at_call 43; refine (qzk _ _ _).mono ?_; rintro e w' ⟨rfl, hw⟩; obtain rfl := hw.symm) | (go_at_call 40; refine (qzd _ _ _ _).mono ?_; rintro e w' ⟨rfl, hw⟩; obtain rfl := hw.symm))
   go_wp2_with (first | (refine wpList_load_mid rfl 36 (.tmp 3) rfl (w.heap.size + 1) 0 ?hxln35 (hdC H') _ ?hcn35 Tryz.underlying36 rfl (qz1 H') ?_))
   try (case hxln35 => rfl)
   case hcn35 => rw [hH.out]; exact H2
   refine (qzu H' 3 0 0 _).mono ?_
   rintro e w9 ⟨rfl, b9⟩
   have F9 := qz3 F2 b9 (by first | omega | (simp; omega))
   have K9 := K2.trans (b9.mono (by first | omega | (simp; omega)))
   go_wp2_with (refine wpList_store_mid rfl 36 (.tmp 4) _ rfl (w.heap.size + 1 + 1) 0 (hdC (qzb H' 3 0 0)).toArray ?hxn35 ?hyn35 ?htn35 (qz8 _) (qzc _) ?_)
   try (case hxn35 => rfl)
   try (case hyn35 => rfl)
   case htn35 => exact F9
   refine bodyPost_ret (v := .agg (hdC (qzb H' 3 0 0)).toArray) ?_ rfl ⟨by rw [hv.out], ?_⟩
   ·exact qz4 Tryz.results77 _ _ (w.heap.size + 1 + 1) 0 rfl (hdC (qzb H' 3 0 0)) _ (World.rangeAt_setCells_same _ _ _ _ F9) Tryz.underlying36 rfl (qz1 _)
   ·exact Below.setCells (by omega) _ _ _ K9
  obtain ⟨H', hH⟩ : ∃ H' : Hd, Hid (H' = { h with x_ := (nn : Int), at_ := 2 }) := by exact ⟨_, rfl⟩
  have hv : Hid (useH A h = H') := by
   show _ = _
   rw [hH.out]
   have hlb : qz2k A h = false := by unfold qz2k; rw [hndn, hvr, hnn]; simp [k6, hk]
   simp [useH, k6, hlb, hcb, hvr, hnn, hn, kx]
  go_upto_region 22 with (first | (go_at_call 43; refine (qzk _ _ _).mono ?_; rintro e w' ⟨rfl, hw⟩; obtain rfl := hw.symm) | (go_at_call 40; refine (qzd _ _ _ _).mono ?_; rintro e w' ⟨rfl, hw⟩; obtain rfl := hw.symm))
  go_wp2_with (first | (refine wpList_load_mid rfl 36 (.tmp 3) rfl (w.heap.size + 1) 0 ?hxln36 (hdC H') _ ?hcn36 Tryz.underlying36 rfl (qz1 H') ?_) | (refine wpList_store_mid rfl 36 (.tmp 4) _ rfl (w.heap.size + 1 + 1) 0 (hdC H').toArray ?hxn36 ?hyn36 ?htn36 (qz8 _) (qzc _) ?_))
  try (case hxln36 => rfl)
  case hcn36 => rw [hH.out]; exact (qz6 (qz6 H2 10 (by simp [hdC]) _) 0 (by simp [hdC]) _)
  try (case hxn36 => rfl)
  try (case hyn36 => rfl)
  case htn36 => exact (qz2 (qz2 F2 _ _) _ _)
  refine bodyPost_ret (v := .agg (hdC H').toArray) ?_ rfl ⟨by rw [hv.out], ?_⟩
  ·exact qz4 Tryz.results77 _ _ (w.heap.size + 1 + 1) 0 rfl (hdC H') _ (World.rangeAt_setCells_same _ _ _ _ (qz2 (qz2 F2 _ _) _ _)) Tryz.underlying36 rfl (qz1 _)
  ·exact Below.setCells (by omega) _ _ _ (Below.setCell (Below.setCell K2 (p := ⟨w.heap.size + 1, 10, none⟩) (by show w.heap.size <= w.heap.size + 1; omega) _) (p := ⟨w.heap.size + 1, 0, none⟩) (by show w.heap.size <= w.heap.size + 1; omega) _)
 have hnx : ¬ (h.x_ = 0) := by omega
 have bx : ((n : Int) == 0) = false := by simp [kx]
 have nbx : ((n : Int) != 0) = true := by simp [kx]
 have hnd' : ndOf A (n : Int) = A.nodes[n] := qzs A n hnl
 by_cases kk : A.nodes[n].key = h.key
 case neg =>
  have bk : (A.nodes[n].key == h.key) = false := by simp [kk]
  go_upto_region 13 with (first | (go_at_call 43; refine (qzk _ _ _).mono ?_; rintro e w' ⟨rfl, hw⟩; obtain rfl := hw.symm) | (go_at_call 40; refine (qzd _ _ _ _).mono ?_; rintro e w' ⟨rfl, hw⟩; obtain rfl := hw.symm))
  by_cases hl : A.vers[v].next < 0
  ·obtain ⟨H', hH⟩ : ∃ H' : Hd, Hid (H' = h) := by exact ⟨_, rfl⟩
   have hv : Hid (useH A h = qzb H' 3 0 0) := by show _ = _; rw [hH.out]; simp [useH, k6, qz2k, hvr, hl, hnd, kk]
   go_upto_region 18 with (first | (go_at_call 43; refine (qzk _ _ _).mono ?_; rintro e w' ⟨rfl, hw⟩; obtain rfl := hw.symm) | (go_at_call 40; refine (qzd _ _ _ _).mono ?_; rintro e w' ⟨rfl, hw⟩; obtain rfl := hw.symm))
   go_wp2_with (first | (refine wpList_load_mid rfl 36 (.tmp 3) rfl (w.heap.size + 1) 0 ?hxln37 (hdC H') _ ?hcn37 Tryz.underlying36 rfl (qz1 H') ?_))
   try (case hxln37 => rfl)
   case hcn37 => rw [hH.out]; exact H2
   refine (qzu H' 3 0 0 _).mono ?_
   rintro e w9 ⟨rfl, b9⟩
   have F9 := qz3 F2 b9 (by first | omega | (simp; omega))
   have K9 := K2.trans (b9.mono (by first | omega | (simp; omega)))
   go_wp2_with (refine wpList_store_mid rfl 36 (.tmp 4) _ rfl (w.heap.size + 1 + 1) 0 (hdC (qzb H' 3 0 0)).toArray ?hxn37 ?hyn37 ?htn37 (qz8 _) (qzc _) ?_)
   try (case hxn37 => rfl)
   try (case hyn37 => rfl)
   case htn37 => exact F9
   refine bodyPost_ret (v := .agg (hdC (qzb H' 3 0 0)).toArray) ?_ rfl ⟨by rw [hv.out], ?_⟩
   ·exact qz4 Tryz.results77 _ _ (w.heap.size + 1 + 1) 0 rfl (hdC (qzb H' 3 0 0)) _ (World.rangeAt_setCells_same _ _ _ _ F9) Tryz.underlying36 rfl (qz1 _)
   ·exact Below.setCells (by omega) _ _ _ K9
  obtain ⟨nn, hnn⟩ : ∃ nn : Nat, A.vers[v].next = nn := ⟨A.vers[v].next.toNat, by omega⟩
  have hnnl : nn < A.nodes.length := by omega
  have hnnl' : (nn : Int) < (A.nodes.length : Int) := by omega
  have hnnl0 : (0 : Int) <= (nn : Int) := by omega
  have hnn3 : ¬ ((nn : Int) < 0) := by omega
  have hndn : ndOf A (vrOf A h.ver).next = A.nodes[nn] := by rw [hvr, hnn, qzs A nn hnnl]
  rw [hnn] at v0
  have m0 : w2.cell? ⟨bn, on + nn * 3, none⟩ = some (.int .i64 A.nodes[nn].key) := by simpa using (qza (sz := 3) (fun _ => rfl) RN2 nn hnnl) 0 _ rfl
  by_cases hk : h.key < A.nodes[nn].key
  ·obtain ⟨H', hH⟩ : ∃ H' : Hd, Hid (H' = h) := by exact ⟨_, rfl⟩
   have hv : Hid (useH A h = qzb H' 3 0 0) := by show _ = _; rw [hH.out]; simp [useH, k6, qz2k, hndn, hk, hnd, kk]
   go_upto_region 18 with (first | (go_at_call 43; refine (qzk _ _ _).mono ?_; rintro e w' ⟨rfl, hw⟩; obtain rfl := hw.symm) | (go_at_call 40; refine (qzd _ _ _ _).mono ?_; rintro e w' ⟨rfl, hw⟩; obtain rfl := hw.symm))
   go_wp2_with (first | (refine wpList_load_mid rfl 36 (.tmp 3) rfl (w.heap.size + 1) 0 ?hxln38 (hdC H') _ ?hcn38 Tryz.underlying36 rfl (qz1 H') ?_))
   try (case hxln38 => rfl)
   case hcn38 => rw [hH.out]; exact H2
   refine (qzu H' 3 0 0 _).mono ?_
   rintro e w9 ⟨rfl, b9⟩
   have F9 := qz3 F2 b9 (by first | omega | (simp; omega))
   have K9 := K2.trans (b9.mono (by first | omega | (simp; omega)))
   go_wp2_with (refine wpList_store_mid rfl 36 (.tmp 4) _ rfl (w.heap.size + 1 + 1) 0 (hdC (qzb H' 3 0 0)).toArray ?hxn38 ?hyn38 ?htn38 (qz8 _) (qzc _) ?_)
   try (case hxn38 => rfl)
   try (case hyn38 => rfl)
   case htn38 => exact F9
   refine bodyPost_ret (v := .agg (hdC (qzb H' 3 0 0)).toArray) ?_ rfl ⟨by rw [hv.out], ?_⟩
   ·exact qz4 Tryz.results77 _ _ (w.heap.size + 1 + 1) 0 rfl (hdC (qzb H' 3 0 0)) _ (World.rangeAt_setCells_same _ _ _ _ F9) Tryz.underlying36 rfl (qz1 _)
   ·exact Below.setCells (by omega) _ _ _ K9
  obtain ⟨H', hH⟩ : ∃ H' : Hd, Hid (H' = { h with x_ := (nn : Int), at_ := 2 }) := by exact ⟨_, rfl⟩
  have hv : Hid (useH A h = H') := by
   show _ = _
   rw [hH.out]
   have hlb : qz2k A h = false := by unfold qz2k; rw [hndn, hvr, hnn]; simp [k6, hk]
   simp [useH, k6, hlb, hcb, hvr, hnn, hnd, kk]
  go_upto_region 22 with (first | (go_at_call 43; refine (qzk _ _ _).mono ?_; rintro e w' ⟨rfl, hw⟩; obtain rfl := hw.symm) | (go_at_call 40; refine (qzd _ _ _ _).mono ?_; rintro e w' ⟨rfl, hw⟩; obtain rfl := hw.symm))
  go_wp2_with (first | (refine wpList_load_mid rfl 36 (.tmp 3) rfl (w.heap.size + 1) 0 ?hxln39 (hdC H') _ ?hcn39 Tryz.underlying36 rfl (qz1 H') ?_) | (refine wpList_store_mid rfl 36 (.tmp 4) _ rfl (w.heap.size + 1 + 1) 0 (hdC H').toArray ?hxn39 ?hyn39 ?htn39 (qz8 _) (qzc _) ?_))
  try (case hxln39 => rfl)
  case hcn39 => rw [hH.out]; exact (qz6 (qz6 H2 10 (by simp [hdC]) _) 0 (by simp [hdC]) _)
  try (case hxn39 => rfl)
  try (case hyn39 => rfl)
  case htn39 => exact (qz2 (qz2 F2 _ _) _ _)
  refine bodyPost_ret (v := .agg (hdC H').toArray) ?_ rfl ⟨by rw [hv.out], ?_⟩
  ·exact qz4 Tryz.results77 _ _ (w.heap.size + 1 + 1) 0 rfl (hdC H') _ (World.rangeAt_setCells_same _ _ _ _ (qz2 (qz2 F2 _ _) _ _)) Tryz.underlying36 rfl (qz1 _)
  ·exact Below.setCells (by omega) _ _ _ (Below.setCell (Below.setCell K2 (p := ⟨w.heap.size + 1, 10, none⟩) (by show w.heap.size <= w.heap.size + 1; omega) _) (p := ⟨w.heap.size + 1, 0, none⟩) (by show w.heap.size <= w.heap.size + 1; omega) _)
 cases kg : A.vers[v].gone
 ·obtain ⟨H', hH⟩ : ∃ H' : Hd, Hid (H' = h) := by exact ⟨_, rfl⟩
  have hv : Hid (useH A h = qzb H' 2 A.nodes[n].value 0) := by show _ = _; rw [hH.out]; simp [useH, k6, hnx, hnd, kk, hvr, kg]
  go_upto_region 9 with (first | (go_at_call 43; refine (qzk _ _ _).mono ?_; rintro e w' ⟨rfl, hw⟩; obtain rfl := hw.symm) | (go_at_call 40; refine (qzd _ _ _ _).mono ?_; rintro e w' ⟨rfl, hw⟩; obtain rfl := hw.symm))
  go_wp2_with (first | (refine wpList_load_mid rfl 36 (.tmp 3) rfl (w.heap.size + 1) 0 ?hxln40 (hdC H') _ ?hcn40 Tryz.underlying36 rfl (qz1 H') ?_))
  try (case hxln40 => rfl)
  case hcn40 => rw [hH.out]; exact H2
  refine (qzu H' 2 A.nodes[n].value 0 _).mono ?_
  rintro e w9 ⟨rfl, b9⟩
  have F9 := qz3 F2 b9 (by first | omega | (simp; omega))
  have K9 := K2.trans (b9.mono (by first | omega | (simp; omega)))
  go_wp2_with (refine wpList_store_mid rfl 36 (.tmp 4) _ rfl (w.heap.size + 1 + 1) 0 (hdC (qzb H' 2 A.nodes[n].value 0)).toArray ?hxn40 ?hyn40 ?htn40 (qz8 _) (qzc _) ?_)
  try (case hxn40 => rfl)
  try (case hyn40 => rfl)
  case htn40 => exact F9
  refine bodyPost_ret (v := .agg (hdC (qzb H' 2 A.nodes[n].value 0)).toArray) ?_ rfl ⟨by rw [hv.out], ?_⟩
  ·exact qz4 Tryz.results77 _ _ (w.heap.size + 1 + 1) 0 rfl (hdC (qzb H' 2 A.nodes[n].value 0)) _ (World.rangeAt_setCells_same _ _ _ _ F9) Tryz.underlying36 rfl (qz1 _)
  ·exact Below.setCells (by omega) _ _ _ K9
 ·obtain ⟨H', hH⟩ : ∃ H' : Hd, Hid (H' = h) := by exact ⟨_, rfl⟩
  have hv : Hid (useH A h = qzb H' 3 0 0) := by show _ = _; rw [hH.out]; simp [useH, k6, hnx, hnd, kk, hvr, kg]
  go_upto_region 8 with (first | (go_at_call 43; refine (qzk _ _ _).mono ?_; rintro e w' ⟨rfl, hw⟩; obtain rfl := hw.symm) | (go_at_call 40; refine (qzd _ _ _ _).mono ?_; rintro e w' ⟨rfl, hw⟩; obtain rfl := hw.symm))
  go_wp2_with (first | (refine wpList_load_mid rfl 36 (.tmp 3) rfl (w.heap.size + 1) 0 ?hxln41 (hdC H') _ ?hcn41 Tryz.underlying36 rfl (qz1 H') ?_))
  try (case hxln41 => rfl)
  case hcn41 => rw [hH.out]; exact H2
  refine (qzu H' 3 0 0 _).mono ?_
  rintro e w9 ⟨rfl, b9⟩
  have F9 := qz3 F2 b9 (by first | omega | (simp; omega))
  have K9 := K2.trans (b9.mono (by first | omega | (simp; omega)))
  go_wp2_with (refine wpList_store_mid rfl 36 (.tmp 4) _ rfl (w.heap.size + 1 + 1) 0 (hdC (qzb H' 3 0 0)).toArray ?hxn41 ?hyn41 ?htn41 (qz8 _) (qzc _) ?_)
  try (case hxn41 => rfl)
  try (case hyn41 => rfl)
  case htn41 => exact F9
  refine bodyPost_ret (v := .agg (hdC (qzb H' 3 0 0)).toArray) ?_ rfl ⟨by rw [hv.out], ?_⟩
  ·exact qz4 Tryz.results77 _ _ (w.heap.size + 1 + 1) 0 rfl (hdC (qzb H' 3 0 0)) _ (World.rangeAt_setCells_same _ _ _ _ F9) Tryz.underlying36 rfl (qz1 _)
  ·exact Below.setCells (by omega) _ _ _ K9
end
section
attribute [local go_sem ↓] Go.wp_at_zero Go.wp_at_succ
structure Dd where
 kind : Int
 key : Int
 value : Int
 stamp : Int
 clock : Int
def ddC (d : Dd) : List Value := [.int .i64 d.kind, .int .i64 d.key, .int .i64 d.value, .int .i64 d.stamp, .int .i64 d.clock]
def qz29 : Dd := ⟨0, 0, 0, 0, 0⟩
def qzb4 (A : Ar) (h : Hd) : Int := if (vrOf A h.ver).kind = 1 then max (vrOf A h.ver).next 0 else h.x_
def qz2b (A : Ar) (h : Hd) : Dd := if (vrOf A h.ver).kind = 0 then qz29 else ⟨(vrOf A h.ver).kind, (ndOf A (qzb4 A h)).key, (ndOf A (qzb4 A h)).value, h.cam, h.camAt⟩
theorem qz25 (d : Dd) : (Tryz.prog.info? 38).map (fun i => i.size) = some (ddC d).toArray.size := by
 show _ = some 5
 kernel_rfl
theorem qz1m (d : Dd) : (Tryz.prog.info? 38).map (fun i => i.size) = some (ddC d).length := by
 show _ = some 5
 kernel_rfl
theorem qz33 (d : Dd) : (ddC d).toArray.all (·.oneCell') = true := by simp [ddC, Value.oneCell']
theorem qz92 (B : Nat) (A : Ar) (h : Hd) (a0 a1 a2 a3 : Option Addr) (c0 c1 c2 c3 : Nat) (w : World) (hB : B <= w.heap.size) (hA : A.size <= 1048576) (I : qzi B w (.slice a0 A.slots.length c0) (.slice a1 A.guides.length c1) (.slice a2 A.nodes.length c2) (.slice a3 A.vers.length c3) A) (x y z u : Int) (hOk : qz14 x y z u A = true) (hv0 : 0 <= h.ver) (hv1 : h.ver < (A.vers.length : Int)) (hx0 : 0 <= h.x_) (hx1 : h.x_ < (A.nodes.length : Int)) :
  Calls Tryz.prog 44 #[.agg #[.int .i64 A.camera, .slice a0 A.slots.length c0, .slice a1 A.guides.length c1, .slice a2 A.nodes.length c2, .slice a3 A.vers.length c3], .agg (hdC h).toArray] w fun e w' => e = .returned (.agg (ddC (qz2b A h)).toArray) /\ Below w.heap.size w w' := by
 unfold Ar.size at hA
 have X0 := World.rangeAt_alloc (World.rangeAt_alloc (qz5 w [.int .i64 A.camera, .slice a0 A.slots.length c0, .slice a1 A.guides.length c1, .slice a2 A.nodes.length c2, .slice a3 A.vers.length c3] 35) (.cells (hdC h).toArray 36)) (.cells #[.int .i64 0, .int .i64 0, .int .i64 0, .int .i64 0, .int .i64 0] 38)
 have H0 := World.rangeAt_alloc (qz5 (w.alloc (.cells #[.int .i64 A.camera, .slice a0 A.slots.length c0, .slice a1 A.guides.length c1, .slice a2 A.nodes.length c2, .slice a3 A.vers.length c3] 35)) (hdC h) 36) (.cells #[.int .i64 0, .int .i64 0, .int .i64 0, .int .i64 0, .int .i64 0] 38)
 have G0 := World.there_alloc (qzf (w.alloc (.cells #[.int .i64 A.camera, .slice a0 A.slots.length c0, .slice a1 A.guides.length c1, .slice a2 A.nodes.length c2, .slice a3 A.vers.length c3] 35)) (hdC h).toArray 36 22 (by simp [hdC])) (.cells #[.int .i64 0, .int .i64 0, .int .i64 0, .int .i64 0, .int .i64 0] 38)
 have F0 := qzf ((w.alloc (.cells #[.int .i64 A.camera, .slice a0 A.slots.length c0, .slice a1 A.guides.length c1, .slice a2 A.nodes.length c2, .slice a3 A.vers.length c3] 35)).alloc (.cells (hdC h).toArray 36)) #[.int .i64 0, .int .i64 0, .int .i64 0, .int .i64 0, .int .i64 0] 38 5 (by decide)
 have K0 := (((Below.refl w.heap.size w).alloc (Nat.le_refl _) (.cells #[.int .i64 A.camera, .slice a0 A.slots.length c0, .slice a1 A.guides.length c1, .slice a2 A.nodes.length c2, .slice a3 A.vers.length c3] 35)).alloc (by simp) (.cells (hdC h).toArray 36)).alloc (by simp; omega) (.cells #[.int .i64 0, .int .i64 0, .int .i64 0, .int .i64 0, .int .i64 0] 38)
 have hz0 : w.heap.size + 1 + 1 < (((w.alloc (.cells #[.int .i64 A.camera, .slice a0 A.slots.length c0, .slice a1 A.guides.length c1, .slice a2 A.nodes.length c2, .slice a3 A.vers.length c3] 35)).alloc (.cells (hdC h).toArray 36)).alloc (.cells #[.int .i64 0, .int .i64 0, .int .i64 0, .int .i64 0, .int .i64 0] 38)).heap.size := by simp
 simp only [World.size_alloc] at H0 G0 F0
 have I0 := I.below (K0.mono hB)
 go_enter Tryz.func44, Tryz.ntmps44
 have tok : True := trivial
 go_wp2_with (clear tok; refine qz24 (((w.alloc (.cells #[.int .i64 A.camera, .slice a0 A.slots.length c0, .slice a1 A.guides.length c1, .slice a2 A.nodes.length c2, .slice a3 A.vers.length c3] 35)).alloc (.cells (hdC h).toArray 36)).alloc (.cells #[.int .i64 0, .int .i64 0, .int .i64 0, .int .i64 0, .int .i64 0] 38)) ?_)
 generalize hw0 : ((w.alloc (.cells #[.int .i64 A.camera, .slice a0 A.slots.length c0, .slice a1 A.guides.length c1, .slice a2 A.nodes.length c2, .slice a3 A.vers.length c3] 35)).alloc (.cells (hdC h).toArray 36)).alloc (.cells #[.int .i64 0, .int .i64 0, .int .i64 0, .int .i64 0, .int .i64 0] 38) = w0 at *
 clear hw0 I
 show wpList _ _ _ _ _ w0
 obtain ⟨v, hv⟩ : ∃ v : Nat, h.ver = v := ⟨h.ver.toNat, by omega⟩
 have hvl : v < A.vers.length := by omega
 have hvl' : (v : Int) < (A.vers.length : Int) := by omega
 have hvl0 : (0 : Int) <= (v : Int) := by omega
 have hvr : vrOf A h.ver = A.vers[v] := by rw [hv, qz2z A v hvl]
 have hver := qz44 hOk v hvl
 obtain ⟨bb, off, rfl, hbb, R⟩ := qzh.at I0.r (by omega)
 have V5 := qza (sz := 5) (fun _ => rfl) R v hvl
 have v0 : w0.cell? ⟨bb, off + v * 5, none⟩ = some (.int .i64 A.vers[v].next) := by simpa using V5 0 _ rfl
 have v1 : w0.cell? ⟨bb, off + v * 5 + 1, none⟩ = some (.bool A.vers[v].gone) := V5 1 _ rfl
 have v2 : w0.cell? ⟨bb, off + v * 5 + 2, none⟩ = some (.int .i64 A.vers[v].stamp) := V5 2 _ rfl
 have v3 : w0.cell? ⟨bb, off + v * 5 + 3, none⟩ = some (.int .i64 A.vers[v].prev) := V5 3 _ rfl
 have v4 : w0.cell? ⟨bb, off + v * 5 + 4, none⟩ = some (.int .i64 A.vers[v].kind) := V5 4 _ rfl
 have x4 : w0.cell? ⟨w.heap.size, 4, none⟩ = some (.slice (some ⟨bb, off, none⟩) A.vers.length c3) := by simpa using X0 4 _ rfl
 have q11 : w0.cell? ⟨w.heap.size + 1, 11, none⟩ = some (.int .i64 h.ver) := by simpa using H0 11 (.int .i64 h.ver) rfl
 rw [hv] at q11
 clear R V5
 have tok : True := trivial
 go_wp2_with (clear tok; refine qz24 (w0.alloc (.cells #[.int .i64 A.vers[v].next, .bool A.vers[v].gone, .int .i64 A.vers[v].stamp, .int .i64 A.vers[v].prev, .int .i64 A.vers[v].kind] 80)) ?_)
 have al := (Below.refl w0.heap.size w0).alloc (Nat.le_refl _) (.cells #[.int .i64 A.vers[v].next, .bool A.vers[v].gone, .int .i64 A.vers[v].stamp, .int .i64 A.vers[v].prev, .int .i64 A.vers[v].kind] 80)
 have VB1 := qz5 w0 [.int .i64 A.vers[v].next, .bool A.vers[v].gone, .int .i64 A.vers[v].stamp, .int .i64 A.vers[v].prev, .int .i64 A.vers[v].kind] 80
 have X1 := qz0 X0 al (by omega)
 have H1 := qz0 H0 al (by omega)
 have G1 := qz3 G0 al (by omega)
 have F1 := qz3 F0 al (by omega)
 have K1 := K0.trans (al.mono (by omega))
 have I1 := I0.below (al.mono (by omega))
 have hz1 := Nat.lt_of_lt_of_le hz0 al.size
 have hl1 : w0.heap.size < (w0.alloc (.cells #[.int .i64 A.vers[v].next, .bool A.vers[v].gone, .int .i64 A.vers[v].stamp, .int .i64 A.vers[v].prev, .int .i64 A.vers[v].kind] 80)).heap.size := by simp
 generalize hw1 : w0.alloc (.cells #[.int .i64 A.vers[v].next, .bool A.vers[v].gone, .int .i64 A.vers[v].stamp, .int .i64 A.vers[v].prev, .int .i64 A.vers[v].kind] 80) = w1 at *
 show wpList _ _ _ _ _ w1
 clear hw1 al X0 H0 G0 F0 K0 I0
 clear v0 v1 v2 v3 v4 x4 q11
 have hvH : Hid (h.ver = v) := hv
 clear hv hvl' hvl0
 obtain ⟨x0, x1, x2, x3, x4⟩ := row5 X1
 have q10 : w1.cell? ⟨w.heap.size + 1, 10, none⟩ = some (.int .i64 h.x_) := by simpa using H1 10 (.int .i64 h.x_) rfl
 have q12 : w1.cell? ⟨w.heap.size + 1, 12, none⟩ = some (.int .i64 h.cam) := by simpa using H1 12 (.int .i64 h.cam) rfl
 have q13 : w1.cell? ⟨w.heap.size + 1, 13, none⟩ = some (.int .i64 h.camAt) := by simpa using H1 13 (.int .i64 h.camAt) rfl
 have v0 : w1.cell? ⟨w0.heap.size, 0, none⟩ = some (.int .i64 A.vers[v].next) := by simpa using VB1 0 _ rfl
 have v4 : w1.cell? ⟨w0.heap.size, 4, none⟩ = some (.int .i64 A.vers[v].kind) := by simpa using VB1 4 _ rfl
 by_cases k0 : A.vers[v].kind = 0
 case pos =>
  have hd : Hid (qz2b A h = qz29) := by show _ = _; simp [qz2b, hvr, k0]
  go_upto_region 6 with fail
  go_wp2_with (refine wpList_store_mid rfl 38 (.tmp 4) _ rfl (w.heap.size + 1 + 1) 0 (ddC qz29).toArray ?dx1 ?dy1 ?dt1 (qz25 _) (qz33 _) ?_)
  try (case dx1 => rfl)
  try (case dy1 => rfl)
  try (case dt1 => exact F1)
  refine bodyPost_ret (v := .agg (ddC qz29).toArray) ?_ rfl ⟨by rw [hd.out], ?_⟩
  ·exact qz4 Tryz.results44 _ _ (w.heap.size + 1 + 1) 0 rfl (ddC qz29) _ (World.rangeAt_setCells_same _ _ _ _ F1) Tryz.underlying38 rfl (qz1m _)
  ·exact Below.setCells (by omega) _ _ _ K1
 have b0 : (A.vers[v].kind == 0) = false := by simp [k0]
 by_cases k1 : A.vers[v].kind = 1
 case pos =>
  obtain ⟨n, hn⟩ : ∃ n : Nat, max A.vers[v].next 0 = n := ⟨(max A.vers[v].next 0).toNat, by omega⟩
  have hdn : qzb4 A h = (n : Int) := by unfold qzb4; rw [hvr, if_pos k1, hn]
  have hnl : n < A.nodes.length := by omega
  have hnl' : (n : Int) < (A.nodes.length : Int) := by omega
  have hnl0 : (0 : Int) <= (n : Int) := by omega
  have hnd : ndOf A (n : Int) = A.nodes[n] := qzs A n hnl
  obtain ⟨bn, on, rfl, hbn, RN⟩ := qzh.at I1.n (by omega)
  have N3 := qza (sz := 3) (fun _ => rfl) RN n hnl
  have n0 : w1.cell? ⟨bn, on + n * 3, none⟩ = some (.int .i64 A.nodes[n].key) := by simpa using N3 0 _ rfl
  have n1 : w1.cell? ⟨bn, on + n * 3 + 1, none⟩ = some (.int .i64 A.nodes[n].value) := N3 1 _ rfl
  clear RN N3
  obtain ⟨D', hD⟩ : ∃ D' : Dd, Hid (D' = ⟨1, A.nodes[n].key, A.nodes[n].value, h.cam, h.camAt⟩) := by exact ⟨_, rfl⟩
  have hd : Hid (qz2b A h = D') := by show _ = _; rw [hD.out]; unfold qz2b; rw [hvr, if_neg k0, hdn, hnd, k1]
  go_upto_region 7 with (first | (go_at_call 76; refine (qz10 _ _ _).mono ?_; rintro e w' ⟨rfl, hw⟩; obtain rfl := hw.symm))
  clear hn
  refine qzz 18 (by kernel_rfl) (by kernel_rfl) ?_
  simp only [List.take_succ_cons, List.take_zero, List.drop_succ_cons, List.drop_zero]
  repeat (quiet_step (fail))
  refine wpQuiet_nil ?_
  rintro _ ⟨nr, rfl⟩
  have FR : (w1.drewN nr).there (w.heap.size + 1 + 1) 0 5 := F1
  have KR : Below w.heap.size w (w1.drewN nr) := ⟨K1.os, K1.tape, K1.output, K1.size, K1.block⟩
  go_wp2_with (refine wpList_store_mid rfl 38 (.tmp 4) _ rfl (w.heap.size + 1 + 1) 0 (ddC D').toArray ?dx2 ?dy2 ?dt2 (qz25 _) (qz33 _) ?_)
  try (case dx2 => rfl)
  try (case dy2 => rw [hD.out]; rfl)
  try (case dt2 => exact FR)
  refine bodyPost_ret (v := .agg (ddC D').toArray) ?_ rfl ⟨by rw [hd.out], ?_⟩
  ·exact qz4 Tryz.results44 _ _ (w.heap.size + 1 + 1) 0 rfl (ddC D') _ (World.rangeAt_setCells_same _ _ _ _ FR) Tryz.underlying38 rfl (qz1m _)
  ·exact Below.setCells (by omega) _ _ _ KR
 have b1 : (A.vers[v].kind == 1) = false := by simp [k1]
 obtain ⟨n, hn⟩ : ∃ n : Nat, h.x_ = n := ⟨h.x_.toNat, by omega⟩
 have hdn : qzb4 A h = (n : Int) := by unfold qzb4; rw [hvr, if_neg k1, hn]
 rw [hn] at q10
 have hnl : n < A.nodes.length := by omega
 have hnl' : (n : Int) < (A.nodes.length : Int) := by omega
 have hnl0 : (0 : Int) <= (n : Int) := by omega
 have hnd : ndOf A (n : Int) = A.nodes[n] := qzs A n hnl
 obtain ⟨bn, on, rfl, hbn, RN⟩ := qzh.at I1.n (by omega)
 have N3 := qza (sz := 3) (fun _ => rfl) RN n hnl
 have n0 : w1.cell? ⟨bn, on + n * 3, none⟩ = some (.int .i64 A.nodes[n].key) := by simpa using N3 0 _ rfl
 have n1 : w1.cell? ⟨bn, on + n * 3 + 1, none⟩ = some (.int .i64 A.nodes[n].value) := N3 1 _ rfl
 clear RN N3
 obtain ⟨D', hD⟩ : ∃ D' : Dd, Hid (D' = ⟨A.vers[v].kind, A.nodes[n].key, A.nodes[n].value, h.cam, h.camAt⟩) := by exact ⟨_, rfl⟩
 have hd : Hid (qz2b A h = D') := by show _ = _; rw [hD.out]; unfold qz2b; rw [hvr, if_neg k0, hdn, hnd]
 go_upto_region 7 with (first | (go_at_call 76; refine (qz10 _ _ _).mono ?_; rintro e w' ⟨rfl, hw⟩; obtain rfl := hw.symm))
 clear hn
 refine qzz 18 (by kernel_rfl) (by kernel_rfl) ?_
 simp only [List.take_succ_cons, List.take_zero, List.drop_succ_cons, List.drop_zero]
 repeat (quiet_step (fail))
 refine wpQuiet_nil ?_
 rintro _ ⟨nr, rfl⟩
 have FR : (w1.drewN nr).there (w.heap.size + 1 + 1) 0 5 := F1
 have KR : Below w.heap.size w (w1.drewN nr) := ⟨K1.os, K1.tape, K1.output, K1.size, K1.block⟩
 go_wp2_with (refine wpList_store_mid rfl 38 (.tmp 4) _ rfl (w.heap.size + 1 + 1) 0 (ddC D').toArray ?dx3 ?dy3 ?dt3 (qz25 _) (qz33 _) ?_)
 try (case dx3 => rfl)
 try (case dy3 => rw [hD.out]; rfl)
 try (case dt3 => exact FR)
 refine bodyPost_ret (v := .agg (ddC D').toArray) ?_ rfl ⟨by rw [hd.out], ?_⟩
 ·exact qz4 Tryz.results44 _ _ (w.heap.size + 1 + 1) 0 rfl (ddC D') _ (World.rangeAt_setCells_same _ _ _ _ FR) Tryz.underlying38 rfl (qz1m _)
 ·exact Below.setCells (by omega) _ _ _ KR
end
section
attribute [local go_sem ↓] Go.wp_at_zero Go.wp_at_succ
def qzl (cam : Int) (s g n r : Value) (h : Hd) (d : Dd) (tk : Bool) : List Value := [.int .i64 cam, s, g, n, r] ++ (hdC h ++ (ddC d ++ [.bool tk]))
theorem qz26 (cam : Int) (s g n r : Value) (h : Hd) (d : Dd) (tk : Bool) : (qzl cam s g n r h d tk).length = 33 := rfl
theorem qz34 {w : World} {b o : Nat} {p q : List Value} (R : w.rangeAt b o (p ++ q)) : w.rangeAt b o p /\ w.rangeAt b (o + p.length) q := by
 constructor
 ·intro j v hj
  have hlt : j < p.length := by
   rcases Nat.lt_or_ge j p.length with h | h
   ·exact h
   ·rw [List.getElem?_eq_none h] at hj; cases hj
  exact R j v (by rw [List.getElem?_append_left hlt]; exact hj)
 ·intro j v hj
  have := R (p.length + j) v (by rw [List.getElem?_append_right (by omega)]; simpa using hj)
  rw [<- Nat.add_assoc] at this
  exact this
theorem qz5a {w : World} {b o : Nat} {p q : List Value} (R : w.rangeAt b o p) (R' : w.rangeAt b (o + p.length) q) : w.rangeAt b o (p ++ q) := by
 intro j v hj
 rcases Nat.lt_or_ge j p.length with h | h
 ·rw [List.getElem?_append_left h] at hj
  exact R j v hj
 ·rw [List.getElem?_append_right h] at hj
  have := R' (j - p.length) v hj
  rw [show o + p.length + (j - p.length) = o + j by omega] at this
  exact this
theorem qz2d {w : World} {b : Nat} {cam : Int} {s g n r : Value} {h : Hd} {d : Dd} {tk : Bool} (R : w.rangeAt b 0 (qzl cam s g n r h d tk)) : w.rangeAt b 0 [.int .i64 cam, s, g, n, r] /\ w.rangeAt b 5 (hdC h) /\ w.rangeAt b 27 (ddC d) /\ w.cell? ⟨b, 32, none⟩ = some (.bool tk) := by
 unfold qzl at R
 obtain ⟨R1, R2⟩ := qz34 R
 obtain ⟨R3, R4⟩ := qz34 R2
 obtain ⟨R5, R6⟩ := qz34 R4
 refine ⟨R1, R3, R5, ?_⟩
 have := R6 0 (.bool tk) rfl
 exact this
theorem qz1t (cam : Int) (s g n r : Value) (h : Hd) (d : Dd) (tk : Bool) : (Tryz.prog.info? 40).map (fun i => i.size) = some (qzl cam s g n r h d tk).toArray.size := by
 show _ = some 33
 kernel_rfl
theorem qzv (cam : Int) (s g n r : Value) (h : Hd) (d : Dd) (tk : Bool) : (Tryz.prog.info? 40).map (fun i => i.size) = some (qzl cam s g n r h d tk).length := by
 show _ = some 33
 kernel_rfl
theorem qz2p (cam : Int) (a0 a1 a2 a3 : Option Addr) (l0 l1 l2 l3 c0 c1 c2 c3 : Nat) (h : Hd) (d : Dd) (tk : Bool) : (qzl cam (.slice a0 l0 c0) (.slice a1 l1 c1) (.slice a2 l2 c2) (.slice a3 l3 c3) h d tk).toArray.all (·.oneCell') = true := by simp [qzl, hdC, ddC, Value.oneCell']
end
section
def qz5s (k : Int) : Int := k
def qz1o (k : Int) (n : Nat) : List Int := (List.range n).map fun (j : Nat) => qz5s (k + (j : Int))
theorem qz30 (k : Int) (n : Nat) : (qz1o k n).length = n := by simp [qz1o]
theorem qz6n (k : Int) (n : Nat) : qz1o k (n + 1) = qz1o k n ++ [qz5s (k + (n : Int))] := by
 simp [qz1o, List.range_succ]
theorem qz7t (k : Int) (n j : Nat) (h : j < n) : (qz1o k n)[j]'(by rw [qz30]; exact h) = qz5s (k + (j : Int)) := by simp [qz1o]
theorem qz6d (a : Option Addr) (b off len cap : Nat) (k : Int) (w : World) (hl : len <= 1048576) (hk0 : 0 <= k) (hk1 : k <= 1000000000) (hT : len = 0 ∨ (a = some ⟨b, off, none⟩ /\ w.there b off (len))) :
  Calls Tryz.prog 35 #[.slice a len cap, .int .i64 k] w fun e w' => e = .returned (.int .i64 (k + (len : Int))) /\ (len = 0 ∨ (w'.rangeAt b off (qz9 intC (qz1o k len)) /\ w'.there b off (len))) /\ But (fun q => 0 < len /\ q = b) w w' := by
 go_enter Tryz.func35, Tryz.ntmps35
 go_wp2
 go_loopw [1, 5] (fun kk i wr => ∃ j : Nat, j <= len /\ i = .int .i64 j /\ kk = .int .i64 (k + (j : Int)) /\ (len = 0 ∨ (wr.rangeAt b off (qz9 intC (qz1o k j)) /\ wr.there b off (len))) /\ But (fun q => 0 < len /\ q = b) w wr) (fun _ i _ => len - (intOf i).toNat)
 case atStart => exact ⟨0, Nat.zero_le _, rfl, by simp, hT.imp id (fun h => ⟨by simp [qz1o, qz9, World.rangeAt], h.2⟩), But.refl _ _⟩
 case round =>
  obtain ⟨j, hj, rfl, rfl, RT, O⟩ := hrel
  by_cases hlt : j < len
  ·have hlt' : (j : Int) < (len : Int) := by omega
   rcases hT with h0 | ⟨rfl, _⟩
   ·omega
   rcases RT with h0 | ⟨R, T⟩
   ·omega
   have hjn : j + 1 <= len := by omega
   obtain ⟨tc0, tf0⟩ := T (j + 0) (by omega)
   obtain ⟨u0, hu0⟩ := Option.isSome_iff_exists.1 tc0
   rw [show off + (j + 0) = off + j by omega] at hu0 tf0
   have hlen : (qz9 intC (qz1o k j)).length = j := by rw [qzj (sz := 1) (fun _ => rfl), qz30]; omega
   have T2 := qz1f T (j) 1 hjn
   have G := qz1u R (vs := intC (qz5s (k + (j : Int)))) (by rw [hlen]; exact T2)
   rw [hlen, <- qz1c, <- qz6n] at G
   have O2 := O.trans (But.of_only (S := fun q => 0 < len /\ q = b) (qzg b (intC (qz5s (k + (j : Int)))) (off + j) wr) ⟨by omega, rfl⟩)
   have T3 := World.there_setCells T b (off + j) (intC (qz5s (k + (j : Int))))
   clear hlen T2 R O
   go_wp2
   go_roundw
   case rel => exact ⟨j + 1, by omega, by go_num, by go_num, Or.inr ⟨G, T3⟩, O2⟩
   case measure => simp [intOf]; omega
  ·obtain rfl : len = j := by omega
   go_wp2
   go_ret
   exact ⟨rfl, RT, O⟩
theorem qz6c (a : Option Addr) (b off len cap : Nat) (k : Int) (w : World) (hl : len <= 1048576) (hk0 : 0 <= k) (hk1 : k <= 1000000000) (hR : len = 0 ∨ (a = some ⟨b, off, none⟩ /\ w.rangeAt b off (qz9 intC (qz1o k len)))) :
  Calls Tryz.prog 66 #[.slice a len cap, .int .i64 k] w fun e w' => e = .returned (.int .i64 (k + (len : Int))) /\ w' = w := by
 go_enter Tryz.func66, Tryz.ntmps66
 go_wp2
 go_loop [1, 5] (fun kk i => ∃ j : Nat, j <= len /\ i = .int .i64 j /\ kk = .int .i64 (k + (j : Int))) (fun _ i => len - (intOf i).toNat)
 case atStart => exact ⟨0, Nat.zero_le _, rfl, by simp⟩
 case round =>
  obtain ⟨j, hj, rfl, rfl⟩ := hrel
  by_cases hlt : j < len
  ·have hlt' : (j : Int) < (len : Int) := by omega
   rcases hR with h0 | ⟨rfl, R⟩
   ·omega
   have E := qza (sz := 1) (fun _ => rfl) R j (by rw [qz30]; exact hlt)
   rw [qz7t k len j hlt] at E
   have f0 : w.cell? ⟨b, off + j, none⟩ = some (.int .i64 (k + (j : Int))) := by have h := E 0 _ rfl; rw [Nat.mul_one] at h; exact h
   clear E R
   go_wp2
   go_round
   case rel => exact ⟨j + 1, by omega, by go_num, by go_num⟩
   case measure => simp [intOf]; omega
  ·obtain rfl : len = j := by omega
   go_wp2
   go_ret
   exact ⟨rfl, rfl⟩
def qz86 (k : Int) : Nd := ⟨k, k + 1, k + 1 + 1⟩
def qz2s (k : Int) (n : Nat) : List Nd := (List.range n).map fun (j : Nat) => qz86 (k + (j : Int) * 3)
theorem qz38 (k : Int) (n : Nat) : (qz2s k n).length = n := by simp [qz2s]
theorem qz7i (k : Int) (n : Nat) : qz2s k (n + 1) = qz2s k n ++ [qz86 (k + (n : Int) * 3)] := by
 simp [qz2s, List.range_succ]
theorem qz8f (k : Int) (n j : Nat) (h : j < n) : (qz2s k n)[j]'(by rw [qz38]; exact h) = qz86 (k + (j : Int) * 3) := by simp [qz2s]
theorem qz6p (a : Option Addr) (b off len cap : Nat) (k : Int) (w : World) (hl : len <= 1048576) (hk0 : 0 <= k) (hk1 : k <= 1000000000) (hT : len = 0 ∨ (a = some ⟨b, off, none⟩ /\ w.there b off (len * 3))) :
  Calls Tryz.prog 36 #[.slice a len cap, .int .i64 k] w fun e w' => e = .returned (.int .i64 (k + (len : Int) * 3)) /\ (len = 0 ∨ (w'.rangeAt b off (qz9 ndC (qz2s k len)) /\ w'.there b off (len * 3))) /\ But (fun q => 0 < len /\ q = b) w w' := by
 go_enter Tryz.func36, Tryz.ntmps36
 go_wp2
 go_loopw [1, 5] (fun kk i wr => ∃ j : Nat, j <= len /\ i = .int .i64 j /\ kk = .int .i64 (k + (j : Int) * 3) /\ (len = 0 ∨ (wr.rangeAt b off (qz9 ndC (qz2s k j)) /\ wr.there b off (len * 3))) /\ But (fun q => 0 < len /\ q = b) w wr) (fun _ i _ => len - (intOf i).toNat)
 case atStart => exact ⟨0, Nat.zero_le _, rfl, by simp, hT.imp id (fun h => ⟨by simp [qz2s, qz9, World.rangeAt], h.2⟩), But.refl _ _⟩
 case round =>
  obtain ⟨j, hj, rfl, rfl, RT, O⟩ := hrel
  by_cases hlt : j < len
  ·have hlt' : (j : Int) < (len : Int) := by omega
   rcases hT with h0 | ⟨rfl, _⟩
   ·omega
   rcases RT with h0 | ⟨R, T⟩
   ·omega
   have hjn : j * 3 + 3 <= len * 3 := by omega
   obtain ⟨tc0, tf0⟩ := T (j * 3 + 0) (by omega)
   obtain ⟨u0, hu0⟩ := Option.isSome_iff_exists.1 tc0
   rw [show off + (j * 3 + 0) = off + j * 3 by omega] at hu0 tf0
   obtain ⟨tc1, tf1⟩ := T (j * 3 + 1) (by omega)
   obtain ⟨u1, hu1⟩ := Option.isSome_iff_exists.1 tc1
   rw [show off + (j * 3 + 1) = off + j * 3 + 1 by omega] at hu1 tf1
   obtain ⟨tc2, tf2⟩ := T (j * 3 + 2) (by omega)
   obtain ⟨u2, hu2⟩ := Option.isSome_iff_exists.1 tc2
   rw [show off + (j * 3 + 2) = off + j * 3 + 2 by omega] at hu2 tf2
   have hlen : (qz9 ndC (qz2s k j)).length = j * 3 := by rw [qzj (sz := 3) (fun _ => rfl), qz38]
   have T2 := qz1f T (j * 3) 3 hjn
   have G := qz1u R (vs := ndC (qz86 (k + (j : Int) * 3))) (by rw [hlen]; exact T2)
   rw [hlen, <- qz1c, <- qz7i] at G
   have O2 := O.trans (But.of_only (S := fun q => 0 < len /\ q = b) (qzg b (ndC (qz86 (k + (j : Int) * 3))) (off + j * 3) wr) ⟨by omega, rfl⟩)
   have T3 := World.there_setCells T b (off + j * 3) (ndC (qz86 (k + (j : Int) * 3)))
   clear hlen T2 R O
   go_wp2
   go_roundw
   case rel => exact ⟨j + 1, by omega, by go_num, by go_num, Or.inr ⟨G, T3⟩, O2⟩
   case measure => simp [intOf]; omega
  ·obtain rfl : len = j := by omega
   go_wp2
   go_ret
   exact ⟨rfl, RT, O⟩
theorem qz75 (a : Option Addr) (b off len cap : Nat) (k : Int) (w : World) (hl : len <= 1048576) (hk0 : 0 <= k) (hk1 : k <= 1000000000) (hR : len = 0 ∨ (a = some ⟨b, off, none⟩ /\ w.rangeAt b off (qz9 ndC (qz2s k len)))) :
  Calls Tryz.prog 67 #[.slice a len cap, .int .i64 k] w fun e w' => e = .returned (.int .i64 (k + (len : Int) * 3)) /\ w' = w := by
 go_enter Tryz.func67, Tryz.ntmps67
 go_wp2
 go_loop [1, 5] (fun kk i => ∃ j : Nat, j <= len /\ i = .int .i64 j /\ kk = .int .i64 (k + (j : Int) * 3)) (fun _ i => len - (intOf i).toNat)
 case atStart => exact ⟨0, Nat.zero_le _, rfl, by simp⟩
 case round =>
  obtain ⟨j, hj, rfl, rfl⟩ := hrel
  by_cases hlt : j < len
  ·have hlt' : (j : Int) < (len : Int) := by omega
   rcases hR with h0 | ⟨rfl, R⟩
   ·omega
   have E := qza (sz := 3) (fun _ => rfl) R j (by rw [qz38]; exact hlt)
   rw [qz8f k len j hlt] at E
   have f0 : w.cell? ⟨b, off + j * 3, none⟩ = some (.int .i64 (k + (j : Int) * 3)) := by have h := E 0 _ rfl; exact h
   have f1 : w.cell? ⟨b, off + j * 3 + 1, none⟩ = some (.int .i64 (k + (j : Int) * 3 + 1)) := by have h := E 1 _ rfl; exact h
   have f2 : w.cell? ⟨b, off + j * 3 + 2, none⟩ = some (.int .i64 (k + (j : Int) * 3 + 1 + 1)) := by have h := E 2 _ rfl; exact h
   clear E R
   go_wp2
   go_round
   case rel => exact ⟨j + 1, by omega, by go_num, by go_num⟩
   case measure => simp [intOf]; omega
  ·obtain rfl : len = j := by omega
   go_wp2
   go_ret
   exact ⟨rfl, rfl⟩
def qz8j (k : Int) : Vr := ⟨k, (k + 1) % 3 == 0, k + 1 + 1, k + 1 + 1 + 1, k + 1 + 1 + 1 + 1⟩
def qz2o (k : Int) (n : Nat) : List Vr := (List.range n).map fun (j : Nat) => qz8j (k + (j : Int) * 5)
theorem qz39 (k : Int) (n : Nat) : (qz2o k n).length = n := by simp [qz2o]
theorem qz7j (k : Int) (n : Nat) : qz2o k (n + 1) = qz2o k n ++ [qz8j (k + (n : Int) * 5)] := by
 simp [qz2o, List.range_succ]
theorem qz8t (k : Int) (n j : Nat) (h : j < n) : (qz2o k n)[j]'(by rw [qz39]; exact h) = qz8j (k + (j : Int) * 5) := by simp [qz2o]
theorem qz7r (a : Option Addr) (b off len cap : Nat) (k : Int) (w : World) (hl : len <= 1048576) (hk0 : 0 <= k) (hk1 : k <= 1000000000) (hT : len = 0 ∨ (a = some ⟨b, off, none⟩ /\ w.there b off (len * 5))) :
  Calls Tryz.prog 37 #[.slice a len cap, .int .i64 k] w fun e w' => e = .returned (.int .i64 (k + (len : Int) * 5)) /\ (len = 0 ∨ (w'.rangeAt b off (qz9 vrC (qz2o k len)) /\ w'.there b off (len * 5))) /\ But (fun q => 0 < len /\ q = b) w w' := by
 go_enter Tryz.func37, Tryz.ntmps37
 go_wp2
 go_loopw [1, 5] (fun kk i wr => ∃ j : Nat, j <= len /\ i = .int .i64 j /\ kk = .int .i64 (k + (j : Int) * 5) /\ (len = 0 ∨ (wr.rangeAt b off (qz9 vrC (qz2o k j)) /\ wr.there b off (len * 5))) /\ But (fun q => 0 < len /\ q = b) w wr) (fun _ i _ => len - (intOf i).toNat)
 case atStart => exact ⟨0, Nat.zero_le _, rfl, by simp, hT.imp id (fun h => ⟨by simp [qz2o, qz9, World.rangeAt], h.2⟩), But.refl _ _⟩
 case round =>
  obtain ⟨j, hj, rfl, rfl, RT, O⟩ := hrel
  by_cases hlt : j < len
  ·have hlt' : (j : Int) < (len : Int) := by omega
   rcases hT with h0 | ⟨rfl, _⟩
   ·omega
   rcases RT with h0 | ⟨R, T⟩
   ·omega
   have hjn : j * 5 + 5 <= len * 5 := by omega
   obtain ⟨tc0, tf0⟩ := T (j * 5 + 0) (by omega)
   obtain ⟨u0, hu0⟩ := Option.isSome_iff_exists.1 tc0
   rw [show off + (j * 5 + 0) = off + j * 5 by omega] at hu0 tf0
   obtain ⟨tc1, tf1⟩ := T (j * 5 + 1) (by omega)
   obtain ⟨u1, hu1⟩ := Option.isSome_iff_exists.1 tc1
   rw [show off + (j * 5 + 1) = off + j * 5 + 1 by omega] at hu1 tf1
   obtain ⟨tc2, tf2⟩ := T (j * 5 + 2) (by omega)
   obtain ⟨u2, hu2⟩ := Option.isSome_iff_exists.1 tc2
   rw [show off + (j * 5 + 2) = off + j * 5 + 2 by omega] at hu2 tf2
   obtain ⟨tc3, tf3⟩ := T (j * 5 + 3) (by omega)
   obtain ⟨u3, hu3⟩ := Option.isSome_iff_exists.1 tc3
   rw [show off + (j * 5 + 3) = off + j * 5 + 3 by omega] at hu3 tf3
   obtain ⟨tc4, tf4⟩ := T (j * 5 + 4) (by omega)
   obtain ⟨u4, hu4⟩ := Option.isSome_iff_exists.1 tc4
   rw [show off + (j * 5 + 4) = off + j * 5 + 4 by omega] at hu4 tf4
   have hlen : (qz9 vrC (qz2o k j)).length = j * 5 := by rw [qzj (sz := 5) (fun _ => rfl), qz39]
   have T2 := qz1f T (j * 5) 5 hjn
   have G := qz1u R (vs := vrC (qz8j (k + (j : Int) * 5))) (by rw [hlen]; exact T2)
   rw [hlen, <- qz1c, <- qz7j] at G
   have O2 := O.trans (But.of_only (S := fun q => 0 < len /\ q = b) (qzg b (vrC (qz8j (k + (j : Int) * 5))) (off + j * 5) wr) ⟨by omega, rfl⟩)
   have T3 := World.there_setCells T b (off + j * 5) (vrC (qz8j (k + (j : Int) * 5)))
   clear hlen T2 R O
   go_wp2
   go_roundw
   case rel => exact ⟨j + 1, by omega, by go_num, by go_num, Or.inr ⟨G, T3⟩, O2⟩
   case measure => simp [intOf]; omega
  ·obtain rfl : len = j := by omega
   go_wp2
   go_ret
   exact ⟨rfl, RT, O⟩
theorem qz7p (a : Option Addr) (b off len cap : Nat) (k : Int) (w : World) (hl : len <= 1048576) (hk0 : 0 <= k) (hk1 : k <= 1000000000) (hR : len = 0 ∨ (a = some ⟨b, off, none⟩ /\ w.rangeAt b off (qz9 vrC (qz2o k len)))) :
  Calls Tryz.prog 68 #[.slice a len cap, .int .i64 k] w fun e w' => e = .returned (.int .i64 (k + (len : Int) * 5)) /\ w' = w := by
 go_enter Tryz.func68, Tryz.ntmps68
 go_wp2
 go_loop [1, 5] (fun kk i => ∃ j : Nat, j <= len /\ i = .int .i64 j /\ kk = .int .i64 (k + (j : Int) * 5)) (fun _ i => len - (intOf i).toNat)
 case atStart => exact ⟨0, Nat.zero_le _, rfl, by simp⟩
 case round =>
  obtain ⟨j, hj, rfl, rfl⟩ := hrel
  by_cases hlt : j < len
  ·have hlt' : (j : Int) < (len : Int) := by omega
   rcases hR with h0 | ⟨rfl, R⟩
   ·omega
   have E := qza (sz := 5) (fun _ => rfl) R j (by rw [qz39]; exact hlt)
   rw [qz8t k len j hlt] at E
   have f0 : w.cell? ⟨b, off + j * 5, none⟩ = some (.int .i64 (k + (j : Int) * 5)) := by have h := E 0 _ rfl; exact h
   have f1 : w.cell? ⟨b, off + j * 5 + 1, none⟩ = some (.bool ((k + (j : Int) * 5 + 1) % 3 == 0)) := by have h := E 1 _ rfl; exact h
   have f2 : w.cell? ⟨b, off + j * 5 + 2, none⟩ = some (.int .i64 (k + (j : Int) * 5 + 1 + 1)) := by have h := E 2 _ rfl; exact h
   have f3 : w.cell? ⟨b, off + j * 5 + 3, none⟩ = some (.int .i64 (k + (j : Int) * 5 + 1 + 1 + 1)) := by have h := E 3 _ rfl; exact h
   have f4 : w.cell? ⟨b, off + j * 5 + 4, none⟩ = some (.int .i64 (k + (j : Int) * 5 + 1 + 1 + 1 + 1)) := by have h := E 4 _ rfl; exact h
   clear E R
   go_wp2
   go_round
   case rel => exact ⟨j + 1, by omega, by go_num, by go_num⟩
   case measure => simp [intOf]; omega
  ·obtain rfl : len = j := by omega
   go_wp2
   go_ret
   exact ⟨rfl, rfl⟩
def qz11 (lo : Nat) (w : World) (v : Value) (len sz : Nat) (cs : List Value) (b : Nat) : Prop :=
 ∃ a cap off, v = .slice a len cap /\ (len = 0 ∨ (a = some ⟨b, off, none⟩ /\ lo <= b /\ b < w.heap.size /\ w.rangeAt b off cs /\ w.there b off (len * sz)))
theorem qz11.but {lo : Nat} {w w' : World} {v : Value} {len sz b : Nat} {cs : List Value} {S : Nat -> Prop} (h : qz11 lo w v len sz cs b) (hO : But S w w') (hne : 0 < len -> ¬ S b) : qz11 lo w' v len sz cs b := by
 obtain ⟨a, cap, off, rfl, h⟩ := h
 refine ⟨a, cap, off, rfl, ?_⟩
 rcases h with h | ⟨rfl, h1, h2, h3, h4⟩
 ·exact Or.inl h
 ·rcases Nat.eq_zero_or_pos len with h0 | hp
  ·exact Or.inl h0
  ·exact Or.inr ⟨rfl, h1, Nat.lt_of_lt_of_le h2 hO.size, hO.range h3 h2 (hne hp), hO.there h4 h2 (hne hp)⟩
theorem qz11.below {lo : Nat} {w w' : World} {v : Value} {len sz b : Nat} {cs : List Value} (h : qz11 lo w v len sz cs b) (hb : Below w.heap.size w w') : qz11 lo w' v len sz cs b := by
 obtain ⟨a, cap, off, rfl, h⟩ := h
 refine ⟨a, cap, off, rfl, ?_⟩
 rcases h with h | ⟨rfl, h1, h2, h3, h4⟩
 ·exact Or.inl h
 ·exact Or.inr ⟨rfl, h1, Nat.lt_of_lt_of_le h2 hb.size, qz0 h3 hb h2, qz3 h4 hb h2⟩
theorem qz11.slice {lo : Nat} {w : World} {v : Value} {len sz b : Nat} {cs : List Value} (h : qz11 lo w v len sz cs b) : qzh w.heap.size w v len cs := by
 obtain ⟨a, cap, off, rfl, h⟩ := h
 refine ⟨a, cap, rfl, ?_⟩
 rcases h with h | ⟨rfl, h1, h2, h3, h4⟩
 ·exact Or.inl h
 ·exact Or.inr ⟨b, off, rfl, h2, h3⟩
theorem qz3v {lo : Nat} {v : Value} {len b : Nat} {cs : List Value} {w : World} (N : qz11 lo w v len 1 cs b) (k : Int) (hl : len <= 1048576) (hk0 : 0 <= k) (hk1 : k <= 1000000000) :
  Calls Tryz.prog 35 #[v, .int .i64 k] w fun e w' => e = .returned (.int .i64 (k + (len : Int))) /\ qz11 lo w' v len 1 (qz9 intC (qz1o k len)) b /\ But (fun q => 0 < len /\ q = b) w w' := by
 obtain ⟨a, cap, off, rfl, h⟩ := N
 refine (qz6d a b off len cap k w hl hk0 hk1 (h.imp id (fun h => ⟨h.1, by simpa using h.2.2.2.2⟩))).mono ?_
 rintro e w' ⟨rfl, RT, O⟩
 refine ⟨rfl, ⟨a, cap, off, rfl, ?_⟩, O⟩
 rcases h with h | ⟨rfl, h1, h2, h3, h4⟩
 ·exact Or.inl h
 rcases RT with h | ⟨R, T⟩
 ·exact Or.inl h
 ·exact Or.inr ⟨rfl, h1, Nat.lt_of_lt_of_le h2 O.size, R, by simpa using T⟩
theorem qz43 {lo : Nat} {v : Value} {len b : Nat} {w : World} (k : Int) (N : qz11 lo w v len 1 (qz9 intC (qz1o k len)) b) (hl : len <= 1048576) (hk0 : 0 <= k) (hk1 : k <= 1000000000) :
  Calls Tryz.prog 66 #[v, .int .i64 k] w fun e w' => e = .returned (.int .i64 (k + (len : Int))) /\ w' = w := by
 obtain ⟨a, cap, off, rfl, h⟩ := N
 exact qz6c a b off len cap k w hl hk0 hk1 (h.imp id (fun h => ⟨h.1, h.2.2.2.1⟩))
theorem qz6t {lo : Nat} {v : Value} {len b : Nat} {cs : List Value} {w : World} (N : qz11 lo w v len 3 cs b) (k : Int) (hl : len <= 1048576) (hk0 : 0 <= k) (hk1 : k <= 1000000000) :
  Calls Tryz.prog 36 #[v, .int .i64 k] w fun e w' => e = .returned (.int .i64 (k + (len : Int) * 3)) /\ qz11 lo w' v len 3 (qz9 ndC (qz2s k len)) b /\ But (fun q => 0 < len /\ q = b) w w' := by
 obtain ⟨a, cap, off, rfl, h⟩ := N
 refine (qz6p a b off len cap k w hl hk0 hk1 (h.imp id (fun h => ⟨h.1, h.2.2.2.2⟩))).mono ?_
 rintro e w' ⟨rfl, RT, O⟩
 refine ⟨rfl, ⟨a, cap, off, rfl, ?_⟩, O⟩
 rcases h with h | ⟨rfl, h1, h2, h3, h4⟩
 ·exact Or.inl h
 rcases RT with h | ⟨R, T⟩
 ·exact Or.inl h
 ·exact Or.inr ⟨rfl, h1, Nat.lt_of_lt_of_le h2 O.size, R, T⟩
theorem qz79 {lo : Nat} {v : Value} {len b : Nat} {w : World} (k : Int) (N : qz11 lo w v len 3 (qz9 ndC (qz2s k len)) b) (hl : len <= 1048576) (hk0 : 0 <= k) (hk1 : k <= 1000000000) :
  Calls Tryz.prog 67 #[v, .int .i64 k] w fun e w' => e = .returned (.int .i64 (k + (len : Int) * 3)) /\ w' = w := by
 obtain ⟨a, cap, off, rfl, h⟩ := N
 exact qz75 a b off len cap k w hl hk0 hk1 (h.imp id (fun h => ⟨h.1, h.2.2.2.1⟩))
theorem qz7u {lo : Nat} {v : Value} {len b : Nat} {cs : List Value} {w : World} (N : qz11 lo w v len 5 cs b) (k : Int) (hl : len <= 1048576) (hk0 : 0 <= k) (hk1 : k <= 1000000000) :
  Calls Tryz.prog 37 #[v, .int .i64 k] w fun e w' => e = .returned (.int .i64 (k + (len : Int) * 5)) /\ qz11 lo w' v len 5 (qz9 vrC (qz2o k len)) b /\ But (fun q => 0 < len /\ q = b) w w' := by
 obtain ⟨a, cap, off, rfl, h⟩ := N
 refine (qz7r a b off len cap k w hl hk0 hk1 (h.imp id (fun h => ⟨h.1, h.2.2.2.2⟩))).mono ?_
 rintro e w' ⟨rfl, RT, O⟩
 refine ⟨rfl, ⟨a, cap, off, rfl, ?_⟩, O⟩
 rcases h with h | ⟨rfl, h1, h2, h3, h4⟩
 ·exact Or.inl h
 rcases RT with h | ⟨R, T⟩
 ·exact Or.inl h
 ·exact Or.inr ⟨rfl, h1, Nat.lt_of_lt_of_le h2 O.size, R, T⟩
theorem qz7n {lo : Nat} {v : Value} {len b : Nat} {w : World} (k : Int) (N : qz11 lo w v len 5 (qz9 vrC (qz2o k len)) b) (hl : len <= 1048576) (hk0 : 0 <= k) (hk1 : k <= 1000000000) :
  Calls Tryz.prog 68 #[v, .int .i64 k] w fun e w' => e = .returned (.int .i64 (k + (len : Int) * 5)) /\ w' = w := by
 obtain ⟨a, cap, off, rfl, h⟩ := N
 exact qz7p a b off len cap k w hl hk0 hk1 (h.imp id (fun h => ⟨h.1, h.2.2.2.1⟩))
structure qzm (lo : Nat) (w : World) (s g n r : Value) (A : Ar) (b0 b1 b2 b3 : Nat) : Prop where
 s : qz11 lo w s A.slots.length 1 (qz9 intC A.slots) b0
 g : qz11 lo w g A.guides.length 1 (qz9 intC A.guides) b1
 n : qz11 lo w n A.nodes.length 3 (qz9 ndC A.nodes) b2
 r : qz11 lo w r A.vers.length 5 (qz9 vrC A.vers) b3
 d01 : b0 ≠ b1
 d02 : b0 ≠ b2
 d03 : b0 ≠ b3
 d12 : b1 ≠ b2
 d13 : b1 ≠ b3
 d23 : b2 ≠ b3
theorem qzm.is {lo : Nat} {w : World} {s g n r : Value} {A : Ar} {b0 b1 b2 b3 : Nat} (N : qzm lo w s g n r A b0 b1 b2 b3) : qzi w.heap.size w s g n r A := ⟨N.s.slice, N.g.slice, N.n.slice, N.r.slice⟩
theorem qzm.below {lo : Nat} {w w' : World} {s g n r : Value} {A : Ar} {b0 b1 b2 b3 : Nat} (N : qzm lo w s g n r A b0 b1 b2 b3) (hb : Below w.heap.size w w') : qzm lo w' s g n r A b0 b1 b2 b3 := ⟨N.s.below hb, N.g.below hb, N.n.below hb, N.r.below hb, N.d01, N.d02, N.d03, N.d12, N.d13, N.d23⟩
theorem qz11.lo {lo lo' : Nat} {w : World} {v : Value} {len sz b : Nat} {cs : List Value} (h : qz11 lo w v len sz cs b) (hl : lo' <= lo) : qz11 lo' w v len sz cs b := by
 obtain ⟨a, cap, off, rfl, h⟩ := h
 refine ⟨a, cap, off, rfl, ?_⟩
 rcases h with h | ⟨rfl, h1, h2, h3, h4⟩
 ·exact Or.inl h
 ·exact Or.inr ⟨rfl, Nat.le_trans hl h1, h2, h3, h4⟩
theorem qzm.lo {lo lo' : Nat} {w : World} {s g n r : Value} {A : Ar} {b0 b1 b2 b3 : Nat} (N : qzm lo w s g n r A b0 b1 b2 b3) (hl : lo' <= lo) : qzm lo' w s g n r A b0 b1 b2 b3 :=
 ⟨N.s.lo hl, N.g.lo hl, N.n.lo hl, N.r.lo hl, N.d01, N.d02, N.d03, N.d12, N.d13, N.d23⟩
structure qz7o (lo : Nat) (w : World) (s g n r : Value) (ls lg ln lv : Nat) (k : Int) (b0 b1 b2 b3 : Nat) : Prop where
 s : qz11 lo w s ls 1 (qz9 intC (qz1o k ls)) b0
 g : qz11 lo w g lg 1 (qz9 intC (qz1o (k + (ls : Int)) lg)) b1
 n : qz11 lo w n ln 3 (qz9 ndC (qz2s (k + (ls : Int) + (lg : Int)) ln)) b2
 r : qz11 lo w r lv 5 (qz9 vrC (qz2o (k + (ls : Int) + (lg : Int) + (ln : Int) * 3) lv)) b3
theorem qz7o.below {lo : Nat} {w w' : World} {s g n r : Value} {ls lg ln lv : Nat} {k : Int} {b0 b1 b2 b3 : Nat} (N : qz7o lo w s g n r ls lg ln lv k b0 b1 b2 b3) (hb : Below w.heap.size w w') : qz7o lo w' s g n r ls lg ln lv k b0 b1 b2 b3 := ⟨N.s.below hb, N.g.below hb, N.n.below hb, N.r.below hb⟩
def qz6l (ls lg ln lv b0 b1 b2 b3 : Nat) (q : Nat) : Prop := (0 < ls /\ q = b0) ∨ (0 < lg /\ q = b1) ∨ (0 < ln /\ q = b2) ∨ (0 < lv /\ q = b3)
theorem qz11.lt {lo : Nat} {w : World} {v : Value} {len sz b : Nat} {cs : List Value} (h : qz11 lo w v len sz cs b) (hp : 0 < len) : lo <= b /\ b < w.heap.size := by
 obtain ⟨a, cap, off, rfl, h⟩ := h
 rcases h with h | ⟨rfl, h1, h2, h3, h4⟩
 ·omega
 ·exact ⟨h1, h2⟩
theorem qz8x {B : Nat} {A : Ar} {s g n r : Value} {w1 W : World} (BB : Below w1.heap.size w1 W) (hB : B <= w1.heap.size) (hA : A.size <= 1048576) (I : qzi B w1 s g n r A) :
  Calls Tryz.prog 7 #[.agg #[.int .i64 A.camera, s, g, n, r]] W fun e w' => ∃ p0 p1 p2 p3, e = .returned (.agg #[.int .i64 A.camera, .slice (some ⟨p0, 0, none⟩) A.slots.length A.slots.length, .slice (some ⟨p1, 0, none⟩) A.guides.length A.guides.length, .slice (some ⟨p2, 0, none⟩) A.nodes.length A.nodes.length, .slice (some ⟨p3, 0, none⟩) A.vers.length A.vers.length]) /\
   qzm W.heap.size w' (.slice (some ⟨p0, 0, none⟩) A.slots.length A.slots.length) (.slice (some ⟨p1, 0, none⟩) A.guides.length A.guides.length) (.slice (some ⟨p2, 0, none⟩) A.nodes.length A.nodes.length) (.slice (some ⟨p3, 0, none⟩) A.vers.length A.vers.length) A p0 p1 p2 p3 /\ Below W.heap.size W w' :=
 (qz4n B A s g n r W (Nat.le_trans hB BB.size) hA (I.below (BB.mono hB))).mono fun e w' ⟨p0, p1, p2, p3, he, h0, h1, h2, h3, h4, R0, R1, R2, R3, b⟩ => ⟨p0, p1, p2, p3, he,
  ⟨⟨_, _, 0, rfl, Or.inr ⟨rfl, by omega, by omega, R0.row, R0.may⟩⟩, ⟨_, _, 0, rfl, Or.inr ⟨rfl, by omega, by omega, R1.row, R1.may⟩⟩, ⟨_, _, 0, rfl, Or.inr ⟨rfl, by omega, by omega, R2.row, R2.may⟩⟩, ⟨_, _, 0, rfl, Or.inr ⟨rfl, by omega, h4, R3.row, R3.may⟩⟩, by omega, by omega, by omega, by omega, by omega, by omega⟩, b⟩
theorem qzbt {w : World} {b : Nat} {v0 v1 v2 v3 v4 : Value} (R : w.rangeAt b 0 [v0, v1, v2, v3, v4]) : w.cell? ⟨b, 1, none⟩ = some v1 /\ w.cell? ⟨b, 2, none⟩ = some v2 /\ w.cell? ⟨b, 3, none⟩ = some v3 /\ w.cell? ⟨b, 4, none⟩ = some v4 := by
 refine ⟨?_, ?_, ?_, ?_⟩
 ·simpa using R 1 v1 rfl
 ·simpa using R 2 v2 rfl
 ·simpa using R 3 v3 rfl
 ·simpa using R 4 v4 rfl
theorem qz4g {lo : Nat} {w : World} {s g n r : Value} {A : Ar} {b0 b1 b2 b3 : Nat} (cam : Int) (N : qzm lo w s g n r A b0 b1 b2 b3) (k : Int) (hA : A.size <= 1048576) (hk0 : 0 <= k) (hk1 : k <= 1000000) :
  Calls Tryz.prog 12 #[.agg #[.int .i64 cam, s, g, n, r], .int .i64 k] w fun e w' => e = .returned (.int .i64 (k + (A.slots.length : Int) + (A.guides.length : Int) + (A.nodes.length : Int) * 3 + (A.vers.length : Int) * 5)) /\
   qz7o lo w' s g n r A.slots.length A.guides.length A.nodes.length A.vers.length k b0 b1 b2 b3 /\ But (qz6l A.slots.length A.guides.length A.nodes.length A.vers.length b0 b1 b2 b3) w w' := by
 unfold Ar.size at hA
 have l0 := N.s.lt
 have l1 := N.g.lt
 have l2 := N.n.lt
 have l3 := N.r.lt
 obtain ⟨N0, N1, N2, N3, d01, d02, d03, d12, d13, d23⟩ := N
 have al := (Below.refl w.heap.size w).alloc (Nat.le_refl _) (.cells #[.int .i64 cam, s, g, n, r] 35)
 have X0 := qz5 w [.int .i64 cam, s, g, n, r] 35
 have hz0 : w.heap.size < (w.alloc (.cells #[.int .i64 cam, s, g, n, r] 35)).heap.size := by simp
 have M0 := N0.below al
 have M1 := N1.below al
 have M2 := N2.below al
 have M3 := N3.below al
 have K0 : But (qz6l A.slots.length A.guides.length A.nodes.length A.vers.length b0 b1 b2 b3) w (w.alloc (.cells #[.int .i64 cam, s, g, n, r] 35)) := But.of_below al
 clear N0 N1 N2 N3 al
 generalize hls : A.slots.length = ls at *
 generalize hlg : A.guides.length = lg at *
 generalize hln : A.nodes.length = ln at *
 generalize hlv : A.vers.length = lv at *
 clear hls hlg hln hlv
 go_enter Tryz.func12, Tryz.ntmps12
 go_wp2_with fail
 refine (qz3v M0 (k) (by omega) (by omega) (by omega)).mono ?_
 rintro e w1 ⟨rfl, M0', O0⟩
 clear M0
 have M0 := M0'
 clear M0'
 replace M1 := M1.but O0 (fun _ h => by have := h.2; omega)
 replace M2 := M2.but O0 (fun _ h => by have := h.2; omega)
 replace M3 := M3.but O0 (fun _ h => by have := h.2; omega)
 have X1 := O0.range X0 hz0 (fun h => by have := h.2; have := l0 h.1; omega)
 have hz1 := Nat.lt_of_lt_of_le hz0 O0.size
 have K1 := K0.trans (O0.mono (fun q h => by unfold qz6l; omega))
 clear O0 X0 K0
 obtain ⟨x1, x2, x3, x4⟩ := qzbt X1
 go_wp2_with fail
 refine (qz3v M1 (k + (ls : Int)) (by omega) (by omega) (by omega)).mono ?_
 rintro e w2 ⟨rfl, M1', O1⟩
 clear M1
 have M1 := M1'
 clear M1'
 replace M0 := M0.but O1 (fun _ h => by have := h.2; omega)
 replace M2 := M2.but O1 (fun _ h => by have := h.2; omega)
 replace M3 := M3.but O1 (fun _ h => by have := h.2; omega)
 have X2 := O1.range X1 hz1 (fun h => by have := h.2; have := l1 h.1; omega)
 have hz2 := Nat.lt_of_lt_of_le hz1 O1.size
 have K2 := K1.trans (O1.mono (fun q h => by unfold qz6l; omega))
 clear O1 X1 K1
 obtain ⟨x1, x2, x3, x4⟩ := qzbt X2
 go_wp2_with fail
 refine (qz6t M2 (k + (ls : Int) + (lg : Int)) (by omega) (by omega) (by omega)).mono ?_
 rintro e w3 ⟨rfl, M2', O2⟩
 clear M2
 have M2 := M2'
 clear M2'
 replace M0 := M0.but O2 (fun _ h => by have := h.2; omega)
 replace M1 := M1.but O2 (fun _ h => by have := h.2; omega)
 replace M3 := M3.but O2 (fun _ h => by have := h.2; omega)
 have X3 := O2.range X2 hz2 (fun h => by have := h.2; have := l2 h.1; omega)
 have hz3 := Nat.lt_of_lt_of_le hz2 O2.size
 have K3 := K2.trans (O2.mono (fun q h => by unfold qz6l; omega))
 clear O2 X2 K2
 obtain ⟨x1, x2, x3, x4⟩ := qzbt X3
 go_wp2_with fail
 refine (qz7u M3 (k + (ls : Int) + (lg : Int) + (ln : Int) * 3) (by omega) (by omega) (by omega)).mono ?_
 rintro e w4 ⟨rfl, M3', O3⟩
 clear M3
 have M3 := M3'
 clear M3'
 replace M0 := M0.but O3 (fun _ h => by have := h.2; omega)
 replace M1 := M1.but O3 (fun _ h => by have := h.2; omega)
 replace M2 := M2.but O3 (fun _ h => by have := h.2; omega)
 have X4 := O3.range X3 hz3 (fun h => by have := h.2; have := l3 h.1; omega)
 have hz4 := Nat.lt_of_lt_of_le hz3 O3.size
 have K4 := K3.trans (O3.mono (fun q h => by unfold qz6l; omega))
 clear O3 X3 K3
 go_wp2
 go_ret
 exact ⟨rfl, ⟨M0, M1, M2, M3⟩, K4⟩
theorem qz6y {lo : Nat} {w : World} {s g n r : Value} {ls lg ln lv : Nat} {b0 b1 b2 b3 : Nat} (cam : Int) (k : Int) (M : qz7o lo w s g n r ls lg ln lv k b0 b1 b2 b3) (hA : ls + lg + ln + lv <= 1048576) (hk0 : 0 <= k) (hk1 : k <= 1000000) :
  Calls Tryz.prog 38 #[.agg #[.int .i64 cam, s, g, n, r], .int .i64 k] w fun e w' => e = .returned (.int .i64 (k + (ls : Int) + (lg : Int) + (ln : Int) * 3 + (lv : Int) * 5)) /\ Below w.heap.size w w' := by
 have al := (Below.refl w.heap.size w).alloc (Nat.le_refl _) (.cells #[.int .i64 cam, s, g, n, r] 35)
 obtain ⟨M0, M1, M2, M3⟩ := M.below al
 go_enter Tryz.func38, Tryz.ntmps38
 go_wp2_with fail
 refine (qz43 (k) M0 (by omega) (by omega) (by omega)).mono ?_
 rintro e w1 ⟨rfl, rfl⟩
 go_wp2_with fail
 refine (qz43 (k + (ls : Int)) M1 (by omega) (by omega) (by omega)).mono ?_
 rintro e w2 ⟨rfl, rfl⟩
 go_wp2_with fail
 refine (qz79 (k + (ls : Int) + (lg : Int)) M2 (by omega) (by omega) (by omega)).mono ?_
 rintro e w3 ⟨rfl, rfl⟩
 go_wp2_with fail
 refine (qz7n (k + (ls : Int) + (lg : Int) + (ln : Int) * 3) M3 (by omega) (by omega) (by omega)).mono ?_
 rintro e w4 ⟨rfl, rfl⟩
 go_wp2
 go_ret
 exact ⟨rfl, al⟩
end
section
attribute [local go_sem ↓] Go.wp_at_zero Go.wp_at_succ
theorem qz9k (d : Dd) (w : World) :
  Calls Tryz.prog 31 #[.agg (ddC d).toArray, .agg (ddC d).toArray] w fun e w' => e = .returned (.bool true) /\ Below w.heap.size w w' := by
 show Calls Tryz.prog 31 #[.agg #[.int .i64 d.kind, .int .i64 d.key, .int .i64 d.value, .int .i64 d.stamp, .int .i64 d.clock], .agg #[.int .i64 d.kind, .int .i64 d.key, .int .i64 d.value, .int .i64 d.stamp, .int .i64 d.clock]] w _
 have K0 := ((Below.refl w.heap.size w).alloc (Nat.le_refl _) (.cells #[.int .i64 d.kind, .int .i64 d.key, .int .i64 d.value, .int .i64 d.stamp, .int .i64 d.clock] 38)).alloc (by simp) (.cells #[.int .i64 d.kind, .int .i64 d.key, .int .i64 d.value, .int .i64 d.stamp, .int .i64 d.clock] 38)
 go_enter Tryz.func31, Tryz.ntmps31
 go_wp2
 go_ret
 exact ⟨rfl, K0⟩
theorem qz4x (B : Nat) (A : Ar) (h : Hd) (d : Dd) (tk : Bool) (s1 g1 n1 r1 s2 g2 n2 r2 : Value) (w : World) (hB : B <= w.heap.size) (hA : A.size <= 1048576) (I1 : qzi B w s1 g1 n1 r1 A) (I2 : qzi B w s2 g2 n2 r2 A) :
  Calls Tryz.prog 10 #[.agg (qzl A.camera s1 g1 n1 r1 h d tk).toArray, .agg (qzl A.camera s2 g2 n2 r2 h d tk).toArray] w fun e w' => e = .returned (.bool true) /\ Below w.heap.size w w' := by
 have X0 := World.rangeAt_alloc (qz5 w (qzl A.camera s1 g1 n1 r1 h d tk) 40) (.cells (qzl A.camera s2 g2 n2 r2 h d tk).toArray 40)
 have Y0 := qz5 (w.alloc (.cells (qzl A.camera s1 g1 n1 r1 h d tk).toArray 40)) (qzl A.camera s2 g2 n2 r2 h d tk) 40
 have K0 := ((Below.refl w.heap.size w).alloc (Nat.le_refl _) (.cells (qzl A.camera s1 g1 n1 r1 h d tk).toArray 40)).alloc (by simp) (.cells (qzl A.camera s2 g2 n2 r2 h d tk).toArray 40)
 have hz0 : w.heap.size + 1 < ((w.alloc (.cells (qzl A.camera s1 g1 n1 r1 h d tk).toArray 40)).alloc (.cells (qzl A.camera s2 g2 n2 r2 h d tk).toArray 40)).heap.size := by simp
 have J1 := I1.below (K0.mono hB)
 have J2 := I2.below (K0.mono hB)
 simp only [World.size_alloc] at Y0
 go_enter Tryz.func10, Tryz.ntmps10
 go_upto_region 1 with fail
 generalize hw0 : (w.alloc (.cells (qzl A.camera s1 g1 n1 r1 h d tk).toArray 40)).alloc (.cells (qzl A.camera s2 g2 n2 r2 h d tk).toArray 40) = w0 at *
 clear hw0 I1 I2
 obtain ⟨PA, PH, PD, pt⟩ := qz2d X0
 obtain ⟨QA, QH, QD, qt⟩ := qz2d Y0
 obtain ⟨x0, x1, x2, x3, x4⟩ := row5 PA
 obtain ⟨y0, y1, y2, y3, y4⟩ := row5 QA
 go_wp2_with fail
 refine (qz5y B A s1 g1 n1 r1 s2 g2 n2 r2 w0 (Nat.le_trans hB K0.size) hA J1 J2).mono ?_
 rintro e w1 ⟨rfl, b1⟩
 have PH1 := qz0 PH b1 (by omega)
 have QH1 := qz0 QH b1 (by omega)
 have PD1 := qz0 PD b1 (by omega)
 have QD1 := qz0 QD b1 (by omega)
 have pt1 := (b1.cell (p := ⟨w.heap.size, 32, none⟩) (by show w.heap.size < _; omega)).trans pt
 have qt1 := (b1.cell (p := ⟨w.heap.size + 1, 32, none⟩) (by show w.heap.size + 1 < _; omega)).trans qt
 have K1 := K0.trans (b1.mono K0.size)
 have hz1 := Nat.lt_of_lt_of_le hz0 b1.size
 clear X0 Y0 PA QA PH QH PD QD pt qt x0 x1 x2 x3 x4 y0 y1 y2 y3 y4 J1 J2 K0 hz0 b1
 go_wp2_with (first | (refine wpList_load_mid rfl 36 (.tmp 11) rfl w.heap.size 5 ?l1 (hdC h) _ ?l2 Tryz.underlying36 rfl (qz1 h) ?_) | (refine wpList_load_mid rfl 36 (.tmp 13) rfl (w.heap.size + 1) 5 ?l3 (hdC h) _ ?l4 Tryz.underlying36 rfl (qz1 h) ?_))
 try (case l1 => rfl)
 try (case l2 => exact PH1)
 try (case l3 => rfl)
 try (case l4 => exact QH1)
 refine (qz9p h w1).mono ?_
 rintro e w2 ⟨rfl, b2⟩
 have PD2 := qz0 PD1 b2 (by omega)
 have QD2 := qz0 QD1 b2 (by omega)
 have pt2 := (b2.cell (p := ⟨w.heap.size, 32, none⟩) (by show w.heap.size < _; omega)).trans pt1
 have qt2 := (b2.cell (p := ⟨w.heap.size + 1, 32, none⟩) (by show w.heap.size + 1 < _; omega)).trans qt1
 have K2 := K1.trans (b2.mono K1.size)
 have hz2 := Nat.lt_of_lt_of_le hz1 b2.size
 clear PH1 QH1 PD1 QD1 pt1 qt1 K1 hz1 b2
 go_wp2_with (first | (refine wpList_load_mid rfl 38 (.tmp 17) rfl w.heap.size 27 ?m1 (ddC d) _ ?m2 Tryz.underlying38 rfl (qz1m d) ?_) | (refine wpList_load_mid rfl 38 (.tmp 19) rfl (w.heap.size + 1) 27 ?m3 (ddC d) _ ?m4 Tryz.underlying38 rfl (qz1m d) ?_))
 try (case m1 => rfl)
 try (case m2 => exact PD2)
 try (case m3 => rfl)
 try (case m4 => exact QD2)
 refine (qz9k d w2).mono ?_
 rintro e w3 ⟨rfl, b3⟩
 have pt3 := (b3.cell (p := ⟨w.heap.size, 32, none⟩) (by show w.heap.size < _; omega)).trans pt2
 have qt3 := (b3.cell (p := ⟨w.heap.size + 1, 32, none⟩) (by show w.heap.size + 1 < _; omega)).trans qt2
 have K3 := K2.trans (b3.mono K2.size)
 have htk : (tk != tk) = false := by simp
 clear PD2 QD2 pt2 qt2 K2 hz2 b3
 go_wp2
 go_ret
 exact ⟨rfl, K3⟩
theorem qz7e {lo : Nat} {w : World} {s g n r : Value} {A : Ar} {b0 b1 b2 b3 : Nat} (h : Hd) (d : Dd) (tk : Bool) (N : qzm lo w s g n r A b0 b1 b2 b3) (k : Int) (hA : A.size <= 1048576) (hk0 : 0 <= k) (hk1 : k <= 1000000) :
  Calls Tryz.prog 13 #[.agg (qzl A.camera s g n r h d tk).toArray, .int .i64 k] w fun e w' => e = .returned (.int .i64 (k + (A.slots.length : Int) + (A.guides.length : Int) + (A.nodes.length : Int) * 3 + (A.vers.length : Int) * 5)) /\
   qz7o lo w' s g n r A.slots.length A.guides.length A.nodes.length A.vers.length k b0 b1 b2 b3 /\ But (qz6l A.slots.length A.guides.length A.nodes.length A.vers.length b0 b1 b2 b3) w w' := by
 have X0 := qz5 w (qzl A.camera s g n r h d tk) 40
 have al := (Below.refl w.heap.size w).alloc (Nat.le_refl _) (.cells (qzl A.camera s g n r h d tk).toArray 40)
 have N0 := N.below al
 go_enter Tryz.func13, Tryz.ntmps13
 go_upto_region 1 with fail
 generalize hw0 : w.alloc (.cells (qzl A.camera s g n r h d tk).toArray 40) = w0 at *
 clear hw0 N
 obtain ⟨x0, x1, x2, x3, x4⟩ := row5 (qz2d X0).1
 go_wp2_with fail
 refine (qz4g A.camera N0 k hA hk0 hk1).mono ?_
 rintro e w1 ⟨rfl, M, O⟩
 have O' := (But.of_below (S := qz6l A.slots.length A.guides.length A.nodes.length A.vers.length b0 b1 b2 b3) al).trans O
 clear x0 x1 x2 x3 x4 X0 N0 al O
 go_wp2
 go_ret
 exact ⟨rfl, M, O'⟩
theorem qz59 {lo : Nat} {w : World} {s g n r : Value} {ls lg ln lv : Nat} {b0 b1 b2 b3 : Nat} (cam : Int) (h : Hd) (d : Dd) (tk : Bool) (k : Int) (M : qz7o lo w s g n r ls lg ln lv k b0 b1 b2 b3) (hA : ls + lg + ln + lv <= 1048576) (hk0 : 0 <= k) (hk1 : k <= 1000000) :
  Calls Tryz.prog 14 #[.agg (qzl cam s g n r h d tk).toArray, .int .i64 k] w fun e w' => e = .returned (.int .i64 (k + (ls : Int) + (lg : Int) + (ln : Int) * 3 + (lv : Int) * 5)) /\ Below w.heap.size w w' := by
 have X0 := qz5 w (qzl cam s g n r h d tk) 40
 have al := (Below.refl w.heap.size w).alloc (Nat.le_refl _) (.cells (qzl cam s g n r h d tk).toArray 40)
 have M0 := M.below al
 go_enter Tryz.func14, Tryz.ntmps14
 go_upto_region 1 with fail
 generalize hw0 : w.alloc (.cells (qzl cam s g n r h d tk).toArray 40) = w0 at *
 clear hw0 M
 obtain ⟨x0, x1, x2, x3, x4⟩ := row5 (qz2d X0).1
 go_wp2_with fail
 refine (qz6y cam k M0 hA hk0 hk1).mono ?_
 rintro e w1 ⟨rfl, b1⟩
 have K1 := al.trans (b1.mono al.size)
 clear x0 x1 x2 x3 x4 X0 M0 al b1
 go_wp2
 go_ret
 exact ⟨rfl, K1⟩
end
end Go.Proofs.YtknncnaikeinbaaGreat
