/-
  What the law's proof goes by, part 10.
-/
import Derived.Test.YthjkdnlmopafkaaFnRest00
import Derived.Test.YthjkdnlmopafkaaFnRest08
namespace Go.Proofs.Ythjkdnlmopafkaa
open Go.ChangeShapes Go.WideShapes Go.ChangeAt Go.RowKit
set_option maxRecDepth 100000
set_option maxHeartbeats 16000000
set_option linter.unusedVariables false
set_option linter.unusedSimpArgs false
set_option linter.unnecessarySimpa false
set_option linter.unusedSectionVars false
section
attribute [local go_sem ↓] Go.wp_at_zero Go.wp_at_succ
theorem qz7t (B : Nat) (A : Ar) (h : Hd) (a0 a1 a2 a3 : Option Addr) (c0 c1 c2 c3 : Nat) (w : World) (hB : B <= w.heap.size) (hA : A.size <= 1048576) (I : qz1v B w (.slice a0 A.slots.length c0) (.slice a1 A.guides.length c1) (.slice a2 A.nodes.length c2) (.slice a3 A.vers.length c3) A) (x y z u : Int) (hOk : qz1i x y z u A = true) (hv0 : 0 <= h.ver) (hv1 : h.ver < (A.vers.length : Int)) (hx0 : 0 <= h.x_) (hx1 : h.x_ < (A.nodes.length : Int)) (ho0 : 0 <= h.out) (ho1 : h.out <= 1000000) (hs0 : 0 <= h.sum) (hs1 : h.sum <= 1000000) :
  Calls Try.prog 123 #[.agg #[.int .i64 A.camera, .slice a0 A.slots.length c0, .slice a1 A.guides.length c1, .slice a2 A.nodes.length c2, .slice a3 A.vers.length c3], .agg (hdC h).toArray] w fun e w' => e = .returned (.agg (hdC (useH A h)).toArray) /\ Below w.heap.size w w' := by
 have hA' := hA
 unfold Ar.size at hA
 have X0 := World.rangeAt_alloc (World.rangeAt_alloc (qzd w [.int .i64 A.camera, .slice a0 A.slots.length c0, .slice a1 A.guides.length c1, .slice a2 A.nodes.length c2, .slice a3 A.vers.length c3] 30) (.cells (hdC h).toArray 56)) (.cells #[.int .i64 0, .int .i64 0, .int .i64 0, .int .i64 0, .int .i64 0, .int .i64 0, .int .i64 0, .int .i64 0, .int .i64 0, .int .i64 0, .int .i64 0, .int .i64 0, .int .i64 0, .int .i64 0, .int .i64 0, .int .i64 0, .int .i64 0, .int .i64 0, .int .i64 0, .int .i64 0, .int .i64 0, .int .i64 0] 56)
 have H0 := World.rangeAt_alloc (qzd (w.alloc (.cells #[.int .i64 A.camera, .slice a0 A.slots.length c0, .slice a1 A.guides.length c1, .slice a2 A.nodes.length c2, .slice a3 A.vers.length c3] 30)) (hdC h) 56) (.cells #[.int .i64 0, .int .i64 0, .int .i64 0, .int .i64 0, .int .i64 0, .int .i64 0, .int .i64 0, .int .i64 0, .int .i64 0, .int .i64 0, .int .i64 0, .int .i64 0, .int .i64 0, .int .i64 0, .int .i64 0, .int .i64 0, .int .i64 0, .int .i64 0, .int .i64 0, .int .i64 0, .int .i64 0, .int .i64 0] 56)
 have G0 := World.there_alloc (qzh (w.alloc (.cells #[.int .i64 A.camera, .slice a0 A.slots.length c0, .slice a1 A.guides.length c1, .slice a2 A.nodes.length c2, .slice a3 A.vers.length c3] 30)) (hdC h).toArray 56 22 (by simp [hdC])) (.cells #[.int .i64 0, .int .i64 0, .int .i64 0, .int .i64 0, .int .i64 0, .int .i64 0, .int .i64 0, .int .i64 0, .int .i64 0, .int .i64 0, .int .i64 0, .int .i64 0, .int .i64 0, .int .i64 0, .int .i64 0, .int .i64 0, .int .i64 0, .int .i64 0, .int .i64 0, .int .i64 0, .int .i64 0, .int .i64 0] 56)
 have F0 := qzh ((w.alloc (.cells #[.int .i64 A.camera, .slice a0 A.slots.length c0, .slice a1 A.guides.length c1, .slice a2 A.nodes.length c2, .slice a3 A.vers.length c3] 30)).alloc (.cells (hdC h).toArray 56)) #[.int .i64 0, .int .i64 0, .int .i64 0, .int .i64 0, .int .i64 0, .int .i64 0, .int .i64 0, .int .i64 0, .int .i64 0, .int .i64 0, .int .i64 0, .int .i64 0, .int .i64 0, .int .i64 0, .int .i64 0, .int .i64 0, .int .i64 0, .int .i64 0, .int .i64 0, .int .i64 0, .int .i64 0, .int .i64 0] 56 22 (by decide)
 have K0 := (((Below.refl w.heap.size w).alloc (Nat.le_refl _) (.cells #[.int .i64 A.camera, .slice a0 A.slots.length c0, .slice a1 A.guides.length c1, .slice a2 A.nodes.length c2, .slice a3 A.vers.length c3] 30)).alloc (by simp) (.cells (hdC h).toArray 56)).alloc (by simp; omega) (.cells #[.int .i64 0, .int .i64 0, .int .i64 0, .int .i64 0, .int .i64 0, .int .i64 0, .int .i64 0, .int .i64 0, .int .i64 0, .int .i64 0, .int .i64 0, .int .i64 0, .int .i64 0, .int .i64 0, .int .i64 0, .int .i64 0, .int .i64 0, .int .i64 0, .int .i64 0, .int .i64 0, .int .i64 0, .int .i64 0] 56)
 have hz0 : w.heap.size + 1 + 1 < (((w.alloc (.cells #[.int .i64 A.camera, .slice a0 A.slots.length c0, .slice a1 A.guides.length c1, .slice a2 A.nodes.length c2, .slice a3 A.vers.length c3] 30)).alloc (.cells (hdC h).toArray 56)).alloc (.cells #[.int .i64 0, .int .i64 0, .int .i64 0, .int .i64 0, .int .i64 0, .int .i64 0, .int .i64 0, .int .i64 0, .int .i64 0, .int .i64 0, .int .i64 0, .int .i64 0, .int .i64 0, .int .i64 0, .int .i64 0, .int .i64 0, .int .i64 0, .int .i64 0, .int .i64 0, .int .i64 0, .int .i64 0, .int .i64 0] 56)).heap.size := by simp
 simp only [World.size_alloc] at H0 G0 F0
 have I0 := I.below (K0.mono hB)
 go_enter Try.func123, Try.ntmps123
 have tok : True := trivial
 go_wp2_with (clear tok; refine qz2r (((w.alloc (.cells #[.int .i64 A.camera, .slice a0 A.slots.length c0, .slice a1 A.guides.length c1, .slice a2 A.nodes.length c2, .slice a3 A.vers.length c3] 30)).alloc (.cells (hdC h).toArray 56)).alloc (.cells #[.int .i64 0, .int .i64 0, .int .i64 0, .int .i64 0, .int .i64 0, .int .i64 0, .int .i64 0, .int .i64 0, .int .i64 0, .int .i64 0, .int .i64 0, .int .i64 0, .int .i64 0, .int .i64 0, .int .i64 0, .int .i64 0, .int .i64 0, .int .i64 0, .int .i64 0, .int .i64 0, .int .i64 0, .int .i64 0] 56)) ?_)
 generalize hw0 : ((w.alloc (.cells #[.int .i64 A.camera, .slice a0 A.slots.length c0, .slice a1 A.guides.length c1, .slice a2 A.nodes.length c2, .slice a3 A.vers.length c3] 30)).alloc (.cells (hdC h).toArray 56)).alloc (.cells #[.int .i64 0, .int .i64 0, .int .i64 0, .int .i64 0, .int .i64 0, .int .i64 0, .int .i64 0, .int .i64 0, .int .i64 0, .int .i64 0, .int .i64 0, .int .i64 0, .int .i64 0, .int .i64 0, .int .i64 0, .int .i64 0, .int .i64 0, .int .i64 0, .int .i64 0, .int .i64 0, .int .i64 0, .int .i64 0] 56) = w0 at *
 clear hw0 I
 show wpList _ _ _ _ _ w0
 obtain ⟨v, hv⟩ : ∃ v : Nat, h.ver = v := ⟨h.ver.toNat, by omega⟩
 obtain ⟨n, hn⟩ : ∃ n : Nat, h.x_ = n := ⟨h.x_.toNat, by omega⟩
 have hvl : v < A.vers.length := by omega
 have hvl' : (v : Int) < (A.vers.length : Int) := by omega
 have hvl0 : (0 : Int) <= (v : Int) := by omega
 have hnl : n < A.nodes.length := by omega
 have hnl' : (n : Int) < (A.nodes.length : Int) := by omega
 have hnl0 : (0 : Int) <= (n : Int) := by omega
 have hvr : vrOf A h.ver = A.vers[v] := by rw [hv, qz2w A v hvl]
 have hnd : ndOf A h.x_ = A.nodes[n] := by rw [hn, qz1x A n hnl]
 have hval := qz86 hOk n hnl
 have hver := qz4a hOk v hvl
 obtain ⟨bb, off, rfl, hbb, R⟩ := qz12.at I0.r (by omega)
 obtain ⟨bn, on, rfl, hbn, RN⟩ := qz12.at I0.n (by omega)
 have V5 := qzr (sz := 5) (fun _ => rfl) R v hvl
 have N3 := qzr (sz := 3) (fun _ => rfl) RN n hnl
 have v0 : w0.cell? ⟨bb, off + v * 5, none⟩ = some (.int .i64 A.vers[v].next) := by simpa using V5 0 _ rfl
 have v1 : w0.cell? ⟨bb, off + v * 5 + 1, none⟩ = some (.bool A.vers[v].gone) := V5 1 _ rfl
 have v2 : w0.cell? ⟨bb, off + v * 5 + 2, none⟩ = some (.int .i64 A.vers[v].stamp) := V5 2 _ rfl
 have v3 : w0.cell? ⟨bb, off + v * 5 + 3, none⟩ = some (.int .i64 A.vers[v].prev) := V5 3 _ rfl
 have v4 : w0.cell? ⟨bb, off + v * 5 + 4, none⟩ = some (.int .i64 A.vers[v].kind) := V5 4 _ rfl
 have x4 : w0.cell? ⟨w.heap.size, 4, none⟩ = some (.slice (some ⟨bb, off, none⟩) A.vers.length c3) := by simpa using X0 4 _ rfl
 have q11 : w0.cell? ⟨w.heap.size + 1, 11, none⟩ = some (.int .i64 h.ver) := by simpa using H0 11 (.int .i64 h.ver) rfl
 rw [hv] at q11
 have RN0 := RN
 clear R RN V5 N3
 have tok : True := trivial
 go_wp2_with (clear tok; refine qz2r (w0.alloc (.cells #[.int .i64 A.vers[v].next, .bool A.vers[v].gone, .int .i64 A.vers[v].stamp, .int .i64 A.vers[v].prev, .int .i64 A.vers[v].kind] 54)) ?_)
 have al := (Below.refl w0.heap.size w0).alloc (Nat.le_refl _) (.cells #[.int .i64 A.vers[v].next, .bool A.vers[v].gone, .int .i64 A.vers[v].stamp, .int .i64 A.vers[v].prev, .int .i64 A.vers[v].kind] 54)
 have VB1 := qzd w0 [.int .i64 A.vers[v].next, .bool A.vers[v].gone, .int .i64 A.vers[v].stamp, .int .i64 A.vers[v].prev, .int .i64 A.vers[v].kind] 54
 have X1 := qz0 X0 al (by omega)
 have H1 := qz0 H0 al (by omega)
 have G1 := qz6 G0 al (by omega)
 have F1 := qz6 F0 al (by omega)
 have K1 := K0.trans (al.mono (by omega))
 have I1 := I0.below (al.mono (by omega))
 have hz1 := Nat.lt_of_lt_of_le hz0 al.size
 have hl1 : w0.heap.size < (w0.alloc (.cells #[.int .i64 A.vers[v].next, .bool A.vers[v].gone, .int .i64 A.vers[v].stamp, .int .i64 A.vers[v].prev, .int .i64 A.vers[v].kind] 54)).heap.size := by simp
 have RN1 := qz0 RN0 al (by omega)
 generalize hw1 : w0.alloc (.cells #[.int .i64 A.vers[v].next, .bool A.vers[v].gone, .int .i64 A.vers[v].stamp, .int .i64 A.vers[v].prev, .int .i64 A.vers[v].kind] 54) = w1 at *
 show wpList _ _ _ _ _ w1
 clear hw1 al X0 H0 G0 F0 K0 I0
 clear v0 v1 v2 v3 v4 x4 q11 RN0
 have N3 := qzr (sz := 3) (fun _ => rfl) RN1 n hnl
 have n0 : w1.cell? ⟨bn, on + n * 3, none⟩ = some (.int .i64 A.nodes[n].key) := by simpa using N3 0 _ rfl
 have n1 : w1.cell? ⟨bn, on + n * 3 + 1, none⟩ = some (.int .i64 A.nodes[n].value) := N3 1 _ rfl
 have n2 : w1.cell? ⟨bn, on + n * 3 + 2, none⟩ = some (.int .i64 A.nodes[n].head) := N3 2 _ rfl
 have x3 : w1.cell? ⟨w.heap.size, 3, none⟩ = some (.slice (some ⟨bn, on, none⟩) A.nodes.length c2) := by simpa using X1 3 _ rfl
 have q10 : w1.cell? ⟨w.heap.size + 1, 10, none⟩ = some (.int .i64 h.x_) := by simpa using H1 10 (.int .i64 h.x_) rfl
 rw [hn] at q10
 clear N3
 have tok : True := trivial
 go_wp2_with (clear tok; refine qz2r (w1.alloc (.cells #[.int .i64 A.nodes[n].key, .int .i64 A.nodes[n].value, .int .i64 A.nodes[n].head] 78)) ?_)
 have al := (Below.refl w1.heap.size w1).alloc (Nat.le_refl _) (.cells #[.int .i64 A.nodes[n].key, .int .i64 A.nodes[n].value, .int .i64 A.nodes[n].head] 78)
 have NB2 := qzd w1 [.int .i64 A.nodes[n].key, .int .i64 A.nodes[n].value, .int .i64 A.nodes[n].head] 78
 have X2 := qz0 X1 al (by omega)
 have H2 := qz0 H1 al (by omega)
 have G2 := qz6 G1 al (by omega)
 have F2 := qz6 F1 al (by omega)
 have K2 := K1.trans (al.mono (by omega))
 have I2 := I1.below (al.mono (by omega))
 have hz2 := Nat.lt_of_lt_of_le hz1 al.size
 have hl2 : w1.heap.size < (w1.alloc (.cells #[.int .i64 A.nodes[n].key, .int .i64 A.nodes[n].value, .int .i64 A.nodes[n].head] 78)).heap.size := by simp
 have RN2 := qz0 RN1 al (by omega)
 have VB2 := qz0 VB1 al (by omega)
 generalize hw2 : w1.alloc (.cells #[.int .i64 A.nodes[n].key, .int .i64 A.nodes[n].value, .int .i64 A.nodes[n].head] 78) = w2 at *
 show wpList _ _ _ _ _ w2
 clear hw2 al X1 H1 G1 F1 K1 I1
 clear n0 n1 n2 x3 q10 RN1 VB1
 have q0 : w2.cell? ⟨w.heap.size + 1, 0, none⟩ = some (.int .i64 h.at_) := by simpa using H2 0 (.int .i64 h.at_) rfl
 have q2 : w2.cell? ⟨w.heap.size + 1, 2, none⟩ = some (.int .i64 h.code) := by simpa using H2 2 (.int .i64 h.code) rfl
 have q3 : w2.cell? ⟨w.heap.size + 1, 3, none⟩ = some (.int .i64 h.key) := by simpa using H2 3 (.int .i64 h.key) rfl
 have q4 : w2.cell? ⟨w.heap.size + 1, 4, none⟩ = some (.int .i64 h.value) := by simpa using H2 4 (.int .i64 h.value) rfl
 have q7 : w2.cell? ⟨w.heap.size + 1, 7, none⟩ = some (.int .i64 h.out) := by simpa using H2 7 (.int .i64 h.out) rfl
 have q8 : w2.cell? ⟨w.heap.size + 1, 8, none⟩ = some (.int .i64 h.sum) := by simpa using H2 8 (.int .i64 h.sum) rfl
 have q10 : w2.cell? ⟨w.heap.size + 1, 10, none⟩ = some (.int .i64 h.x_) := by simpa using H2 10 (.int .i64 h.x_) rfl
 have f0 : w2.frozen? ⟨w.heap.size + 1, 0, none⟩ = false := by simpa using (G2 0 (by decide)).2
 have f7 : w2.frozen? ⟨w.heap.size + 1, 7, none⟩ = false := by simpa using (G2 7 (by decide)).2
 have f8 : w2.frozen? ⟨w.heap.size + 1, 8, none⟩ = false := by simpa using (G2 8 (by decide)).2
 have f10 : w2.frozen? ⟨w.heap.size + 1, 10, none⟩ = false := by simpa using (G2 10 (by decide)).2
 rw [hn] at q10
 have x3 : w2.cell? ⟨w.heap.size, 3, none⟩ = some (.slice (some ⟨bn, on, none⟩) A.nodes.length c2) := by simpa using X2 3 _ rfl
 have v0 : w2.cell? ⟨w0.heap.size, 0, none⟩ = some (.int .i64 A.vers[v].next) := by simpa using VB2 0 _ rfl
 have v1 : w2.cell? ⟨w0.heap.size, 1, none⟩ = some (.bool A.vers[v].gone) := by simpa using VB2 1 _ rfl
 have n0 : w2.cell? ⟨w1.heap.size, 0, none⟩ = some (.int .i64 A.nodes[n].key) := by simpa using NB2 0 _ rfl
 have n1 : w2.cell? ⟨w1.heap.size, 1, none⟩ = some (.int .i64 A.nodes[n].value) := by simpa using NB2 1 _ rfl
 have e1 : ¬ (w.heap.size + 1 = w0.heap.size) := by omega
 have e2 : ¬ (w.heap.size + 1 = w1.heap.size) := by omega
 have e3 : ¬ (w.heap.size + 1 = bn) := by omega
 clear X2 VB2 NB2 hl1 hl2 hz0 hz1
 by_cases k6 : h.code = 6
 case neg =>
  by_cases k7 : h.code = 7
  case neg =>
   have b6 : (h.code == 6) = false := by simp [k6]
   have b7 : (h.code == 7) = false := by simp [k7]
   have nb6 : (h.code != 6) = true := by simp [k6]
   have nb7 : (h.code != 7) = true := by simp [k7]
   obtain ⟨H', hH⟩ : ∃ H' : Hd, Hid (H' = { h with at_ := 0 }) := by exact ⟨_, rfl⟩
   have hv : Hid (useH A h = H') := by show _ = _; rw [hH.out]; simp [useH, k6, k7]
   go_upto_region 5 with (first | (go_at_call 90; refine (qzo _ _ _).mono ?_; rintro e w' ⟨rfl, hw⟩; obtain rfl := hw.symm) | (go_at_call 46; refine (qzf _ _ _ _).mono ?_; rintro e w' ⟨rfl, hw⟩; obtain rfl := hw.symm))
   go_wp2_with (first | (refine wpList_load_mid rfl 56 (.tmp 3) rfl (w.heap.size + 1) 0 ?hxln21 (hdC H') _ ?hcn21 Try.underlying56 rfl (qz1 H') ?_) | (refine wpList_store_mid rfl 56 (.tmp 4) _ rfl (w.heap.size + 1 + 1) 0 (hdC H').toArray ?hxn21 ?hyn21 ?htn21 (qzb _) (qzg _) ?_))
   try (case hxln21 => rfl)
   case hcn21 => rw [hH.out]; exact (qza H2 0 (by simp [hdC]) _)
   try (case hxn21 => rfl)
   try (case hyn21 => rfl)
   case htn21 => exact (qz3 F2 _ _)
   refine bodyPost_ret (v := .agg (hdC H').toArray) ?_ rfl ⟨by rw [hv.out], ?_⟩
   ·exact qz4 Try.results123 _ _ (w.heap.size + 1 + 1) 0 rfl (hdC H') _ (World.rangeAt_setCells_same _ _ _ _ (qz3 F2 _ _)) Try.underlying56 rfl (qz1 _)
   ·exact Below.setCells (by omega) _ _ _ (Below.setCell K2 (p := ⟨w.heap.size + 1, 0, none⟩) (by show w.heap.size <= w.heap.size + 1; omega) _)
  have b6 : (h.code == 6) = false := by simp [k6]
  by_cases kx : n = 0
  case pos =>
   have hcb : qz47 A h = false := by simp [qz47, hn, kx]
   have bx0 : ((n : Int) == 0) = true := by simp [kx]
   have nbx0 : ((n : Int) != 0) = false := by simp [kx]
   go_upto_region 13 with (first | (go_at_call 90; refine (qzo _ _ _).mono ?_; rintro e w' ⟨rfl, hw⟩; obtain rfl := hw.symm) | (go_at_call 46; refine (qzf _ _ _ _).mono ?_; rintro e w' ⟨rfl, hw⟩; obtain rfl := hw.symm))
   by_cases hl : A.vers[v].next < 0
   ·obtain ⟨H', hH⟩ : ∃ H' : Hd, Hid (H' = h) := by exact ⟨_, rfl⟩
    have hv : Hid (useH A h = qzc H' 4 h.out h.sum) := by show _ = _; rw [hH.out]; simp [useH, k7, qz5c, hvr, hl, hcb]
    go_upto_region 19 with (first | (go_at_call 90; refine (qzo _ _ _).mono ?_; rintro e w' ⟨rfl, hw⟩; obtain rfl := hw.symm) | (go_at_call 46; refine (qzf _ _ _ _).mono ?_; rintro e w' ⟨rfl, hw⟩; obtain rfl := hw.symm))
    go_wp2_with (first | (refine wpList_load_mid rfl 56 (.tmp 3) rfl (w.heap.size + 1) 0 ?hxln22 (hdC H') _ ?hcn22 Try.underlying56 rfl (qz1 H') ?_))
    try (case hxln22 => rfl)
    case hcn22 => rw [hH.out]; exact H2
    refine (qzs H' 4 h.out h.sum _).mono ?_
    rintro e w9 ⟨rfl, b9⟩
    have F9 := qz6 F2 b9 (by first | omega | (simp; omega))
    have K9 := K2.trans (b9.mono (by first | omega | (simp; omega)))
    go_wp2_with (refine wpList_store_mid rfl 56 (.tmp 4) _ rfl (w.heap.size + 1 + 1) 0 (hdC (qzc H' 4 h.out h.sum)).toArray ?hxn22 ?hyn22 ?htn22 (qzb _) (qzg _) ?_)
    try (case hxn22 => rfl)
    try (case hyn22 => rfl)
    case htn22 => exact F9
    refine bodyPost_ret (v := .agg (hdC (qzc H' 4 h.out h.sum)).toArray) ?_ rfl ⟨by rw [hv.out], ?_⟩
    ·exact qz4 Try.results123 _ _ (w.heap.size + 1 + 1) 0 rfl (hdC (qzc H' 4 h.out h.sum)) _ (World.rangeAt_setCells_same _ _ _ _ F9) Try.underlying56 rfl (qz1 _)
    ·exact Below.setCells (by omega) _ _ _ K9
   obtain ⟨nn, hnn⟩ : ∃ nn : Nat, A.vers[v].next = nn := ⟨A.vers[v].next.toNat, by omega⟩
   have hnnl : nn < A.nodes.length := by omega
   have hnnl' : (nn : Int) < (A.nodes.length : Int) := by omega
   have hnnl0 : (0 : Int) <= (nn : Int) := by omega
   have hnn3 : ¬ ((nn : Int) < 0) := by omega
   have hndn : ndOf A (vrOf A h.ver).next = A.nodes[nn] := by rw [hvr, hnn, qz1x A nn hnnl]
   rw [hnn] at v0
   have m0 : w2.cell? ⟨bn, on + nn * 3, none⟩ = some (.int .i64 A.nodes[nn].key) := by simpa using (qzr (sz := 3) (fun _ => rfl) RN2 nn hnnl) 0 _ rfl
   by_cases hk : h.value < A.nodes[nn].key
   ·obtain ⟨H', hH⟩ : ∃ H' : Hd, Hid (H' = h) := by exact ⟨_, rfl⟩
    have hv : Hid (useH A h = qzc H' 4 h.out h.sum) := by show _ = _; rw [hH.out]; simp [useH, k7, qz5c, hndn, hk, hcb]
    go_upto_region 19 with (first | (go_at_call 90; refine (qzo _ _ _).mono ?_; rintro e w' ⟨rfl, hw⟩; obtain rfl := hw.symm) | (go_at_call 46; refine (qzf _ _ _ _).mono ?_; rintro e w' ⟨rfl, hw⟩; obtain rfl := hw.symm))
    go_wp2_with (first | (refine wpList_load_mid rfl 56 (.tmp 3) rfl (w.heap.size + 1) 0 ?hxln23 (hdC H') _ ?hcn23 Try.underlying56 rfl (qz1 H') ?_))
    try (case hxln23 => rfl)
    case hcn23 => rw [hH.out]; exact H2
    refine (qzs H' 4 h.out h.sum _).mono ?_
    rintro e w9 ⟨rfl, b9⟩
    have F9 := qz6 F2 b9 (by first | omega | (simp; omega))
    have K9 := K2.trans (b9.mono (by first | omega | (simp; omega)))
    go_wp2_with (refine wpList_store_mid rfl 56 (.tmp 4) _ rfl (w.heap.size + 1 + 1) 0 (hdC (qzc H' 4 h.out h.sum)).toArray ?hxn23 ?hyn23 ?htn23 (qzb _) (qzg _) ?_)
    try (case hxn23 => rfl)
    try (case hyn23 => rfl)
    case htn23 => exact F9
    refine bodyPost_ret (v := .agg (hdC (qzc H' 4 h.out h.sum)).toArray) ?_ rfl ⟨by rw [hv.out], ?_⟩
    ·exact qz4 Try.results123 _ _ (w.heap.size + 1 + 1) 0 rfl (hdC (qzc H' 4 h.out h.sum)) _ (World.rangeAt_setCells_same _ _ _ _ F9) Try.underlying56 rfl (qz1 _)
    ·exact Below.setCells (by omega) _ _ _ K9
   obtain ⟨H', hH⟩ : ∃ H' : Hd, Hid (H' = { h with x_ := (nn : Int), at_ := 2 }) := by exact ⟨_, rfl⟩
   have hv : Hid (useH A h = H') := by
    show _ = _
    rw [hH.out]
    have hlb : qz5c A h = false := by unfold qz5c; rw [hndn, hvr, hnn]; simp [k7, hk]
    simp [useH, k7, hlb, hcb, hvr, hnn]
   go_upto_region 22 with (first | (go_at_call 90; refine (qzo _ _ _).mono ?_; rintro e w' ⟨rfl, hw⟩; obtain rfl := hw.symm) | (go_at_call 46; refine (qzf _ _ _ _).mono ?_; rintro e w' ⟨rfl, hw⟩; obtain rfl := hw.symm))
   go_wp2_with (first | (refine wpList_load_mid rfl 56 (.tmp 3) rfl (w.heap.size + 1) 0 ?hxln24 (hdC H') _ ?hcn24 Try.underlying56 rfl (qz1 H') ?_) | (refine wpList_store_mid rfl 56 (.tmp 4) _ rfl (w.heap.size + 1 + 1) 0 (hdC H').toArray ?hxn24 ?hyn24 ?htn24 (qzb _) (qzg _) ?_))
   try (case hxln24 => rfl)
   case hcn24 => rw [hH.out]; exact (qza (qza H2 10 (by simp [hdC]) _) 0 (by simp [hdC]) _)
   try (case hxn24 => rfl)
   try (case hyn24 => rfl)
   case htn24 => exact (qz3 (qz3 F2 _ _) _ _)
   refine bodyPost_ret (v := .agg (hdC H').toArray) ?_ rfl ⟨by rw [hv.out], ?_⟩
   ·exact qz4 Try.results123 _ _ (w.heap.size + 1 + 1) 0 rfl (hdC H') _ (World.rangeAt_setCells_same _ _ _ _ (qz3 (qz3 F2 _ _) _ _)) Try.underlying56 rfl (qz1 _)
   ·exact Below.setCells (by omega) _ _ _ (Below.setCell (Below.setCell K2 (p := ⟨w.heap.size + 1, 10, none⟩) (by show w.heap.size <= w.heap.size + 1; omega) _) (p := ⟨w.heap.size + 1, 0, none⟩) (by show w.heap.size <= w.heap.size + 1; omega) _)
  have hnx : ¬ (h.x_ = 0) := by omega
  have bx : ((n : Int) == 0) = false := by simp [kx]
  have nbx : ((n : Int) != 0) = true := by simp [kx]
  cases kin : inB A.nodes[n].key h.key h.value
  case false =>
   have hcb : qz47 A h = false := by simp [qz47, hnd, kin]
   go_upto_region 13 with (first | (go_at_call 90; refine (qzo _ _ _).mono ?_; rintro e w' ⟨rfl, hw⟩; obtain rfl := hw.symm) | (go_at_call 46; refine (qzf _ _ _ _).mono ?_; rintro e w' ⟨rfl, hw⟩; obtain rfl := hw.symm))
   by_cases hl : A.vers[v].next < 0
   ·obtain ⟨H', hH⟩ : ∃ H' : Hd, Hid (H' = h) := by exact ⟨_, rfl⟩
    have hv : Hid (useH A h = qzc H' 4 h.out h.sum) := by show _ = _; rw [hH.out]; simp [useH, k7, qz5c, hvr, hl, hcb]
    go_upto_region 19 with (first | (go_at_call 90; refine (qzo _ _ _).mono ?_; rintro e w' ⟨rfl, hw⟩; obtain rfl := hw.symm) | (go_at_call 46; refine (qzf _ _ _ _).mono ?_; rintro e w' ⟨rfl, hw⟩; obtain rfl := hw.symm))
    go_wp2_with (first | (refine wpList_load_mid rfl 56 (.tmp 3) rfl (w.heap.size + 1) 0 ?hxln25 (hdC H') _ ?hcn25 Try.underlying56 rfl (qz1 H') ?_))
    try (case hxln25 => rfl)
    case hcn25 => rw [hH.out]; exact H2
    refine (qzs H' 4 h.out h.sum _).mono ?_
    rintro e w9 ⟨rfl, b9⟩
    have F9 := qz6 F2 b9 (by first | omega | (simp; omega))
    have K9 := K2.trans (b9.mono (by first | omega | (simp; omega)))
    go_wp2_with (refine wpList_store_mid rfl 56 (.tmp 4) _ rfl (w.heap.size + 1 + 1) 0 (hdC (qzc H' 4 h.out h.sum)).toArray ?hxn25 ?hyn25 ?htn25 (qzb _) (qzg _) ?_)
    try (case hxn25 => rfl)
    try (case hyn25 => rfl)
    case htn25 => exact F9
    refine bodyPost_ret (v := .agg (hdC (qzc H' 4 h.out h.sum)).toArray) ?_ rfl ⟨by rw [hv.out], ?_⟩
    ·exact qz4 Try.results123 _ _ (w.heap.size + 1 + 1) 0 rfl (hdC (qzc H' 4 h.out h.sum)) _ (World.rangeAt_setCells_same _ _ _ _ F9) Try.underlying56 rfl (qz1 _)
    ·exact Below.setCells (by omega) _ _ _ K9
   obtain ⟨nn, hnn⟩ : ∃ nn : Nat, A.vers[v].next = nn := ⟨A.vers[v].next.toNat, by omega⟩
   have hnnl : nn < A.nodes.length := by omega
   have hnnl' : (nn : Int) < (A.nodes.length : Int) := by omega
   have hnnl0 : (0 : Int) <= (nn : Int) := by omega
   have hnn3 : ¬ ((nn : Int) < 0) := by omega
   have hndn : ndOf A (vrOf A h.ver).next = A.nodes[nn] := by rw [hvr, hnn, qz1x A nn hnnl]
   rw [hnn] at v0
   have m0 : w2.cell? ⟨bn, on + nn * 3, none⟩ = some (.int .i64 A.nodes[nn].key) := by simpa using (qzr (sz := 3) (fun _ => rfl) RN2 nn hnnl) 0 _ rfl
   by_cases hk : h.value < A.nodes[nn].key
   ·obtain ⟨H', hH⟩ : ∃ H' : Hd, Hid (H' = h) := by exact ⟨_, rfl⟩
    have hv : Hid (useH A h = qzc H' 4 h.out h.sum) := by show _ = _; rw [hH.out]; simp [useH, k7, qz5c, hndn, hk, hcb]
    go_upto_region 19 with (first | (go_at_call 90; refine (qzo _ _ _).mono ?_; rintro e w' ⟨rfl, hw⟩; obtain rfl := hw.symm) | (go_at_call 46; refine (qzf _ _ _ _).mono ?_; rintro e w' ⟨rfl, hw⟩; obtain rfl := hw.symm))
    go_wp2_with (first | (refine wpList_load_mid rfl 56 (.tmp 3) rfl (w.heap.size + 1) 0 ?hxln26 (hdC H') _ ?hcn26 Try.underlying56 rfl (qz1 H') ?_))
    try (case hxln26 => rfl)
    case hcn26 => rw [hH.out]; exact H2
    refine (qzs H' 4 h.out h.sum _).mono ?_
    rintro e w9 ⟨rfl, b9⟩
    have F9 := qz6 F2 b9 (by first | omega | (simp; omega))
    have K9 := K2.trans (b9.mono (by first | omega | (simp; omega)))
    go_wp2_with (refine wpList_store_mid rfl 56 (.tmp 4) _ rfl (w.heap.size + 1 + 1) 0 (hdC (qzc H' 4 h.out h.sum)).toArray ?hxn26 ?hyn26 ?htn26 (qzb _) (qzg _) ?_)
    try (case hxn26 => rfl)
    try (case hyn26 => rfl)
    case htn26 => exact F9
    refine bodyPost_ret (v := .agg (hdC (qzc H' 4 h.out h.sum)).toArray) ?_ rfl ⟨by rw [hv.out], ?_⟩
    ·exact qz4 Try.results123 _ _ (w.heap.size + 1 + 1) 0 rfl (hdC (qzc H' 4 h.out h.sum)) _ (World.rangeAt_setCells_same _ _ _ _ F9) Try.underlying56 rfl (qz1 _)
    ·exact Below.setCells (by omega) _ _ _ K9
   obtain ⟨H', hH⟩ : ∃ H' : Hd, Hid (H' = { h with x_ := (nn : Int), at_ := 2 }) := by exact ⟨_, rfl⟩
   have hv : Hid (useH A h = H') := by
    show _ = _
    rw [hH.out]
    have hlb : qz5c A h = false := by unfold qz5c; rw [hndn, hvr, hnn]; simp [k7, hk]
    simp [useH, k7, hlb, hcb, hvr, hnn]
   go_upto_region 22 with (first | (go_at_call 90; refine (qzo _ _ _).mono ?_; rintro e w' ⟨rfl, hw⟩; obtain rfl := hw.symm) | (go_at_call 46; refine (qzf _ _ _ _).mono ?_; rintro e w' ⟨rfl, hw⟩; obtain rfl := hw.symm))
   go_wp2_with (first | (refine wpList_load_mid rfl 56 (.tmp 3) rfl (w.heap.size + 1) 0 ?hxln27 (hdC H') _ ?hcn27 Try.underlying56 rfl (qz1 H') ?_) | (refine wpList_store_mid rfl 56 (.tmp 4) _ rfl (w.heap.size + 1 + 1) 0 (hdC H').toArray ?hxn27 ?hyn27 ?htn27 (qzb _) (qzg _) ?_))
   try (case hxln27 => rfl)
   case hcn27 => rw [hH.out]; exact (qza (qza H2 10 (by simp [hdC]) _) 0 (by simp [hdC]) _)
   try (case hxn27 => rfl)
   try (case hyn27 => rfl)
   case htn27 => exact (qz3 (qz3 F2 _ _) _ _)
   refine bodyPost_ret (v := .agg (hdC H').toArray) ?_ rfl ⟨by rw [hv.out], ?_⟩
   ·exact qz4 Try.results123 _ _ (w.heap.size + 1 + 1) 0 rfl (hdC H') _ (World.rangeAt_setCells_same _ _ _ _ (qz3 (qz3 F2 _ _) _ _)) Try.underlying56 rfl (qz1 _)
   ·exact Below.setCells (by omega) _ _ _ (Below.setCell (Below.setCell K2 (p := ⟨w.heap.size + 1, 10, none⟩) (by show w.heap.size <= w.heap.size + 1; omega) _) (p := ⟨w.heap.size + 1, 0, none⟩) (by show w.heap.size <= w.heap.size + 1; omega) _)
  cases kg : A.vers[v].gone
  case true =>
   have hcb : qz47 A h = false := by simp [qz47, hvr, kg]
   go_upto_region 13 with (first | (go_at_call 90; refine (qzo _ _ _).mono ?_; rintro e w' ⟨rfl, hw⟩; obtain rfl := hw.symm) | (go_at_call 46; refine (qzf _ _ _ _).mono ?_; rintro e w' ⟨rfl, hw⟩; obtain rfl := hw.symm))
   by_cases hl : A.vers[v].next < 0
   ·obtain ⟨H', hH⟩ : ∃ H' : Hd, Hid (H' = h) := by exact ⟨_, rfl⟩
    have hv : Hid (useH A h = qzc H' 4 h.out h.sum) := by show _ = _; rw [hH.out]; simp [useH, k7, qz5c, hvr, hl, hcb]
    go_upto_region 19 with (first | (go_at_call 90; refine (qzo _ _ _).mono ?_; rintro e w' ⟨rfl, hw⟩; obtain rfl := hw.symm) | (go_at_call 46; refine (qzf _ _ _ _).mono ?_; rintro e w' ⟨rfl, hw⟩; obtain rfl := hw.symm))
    go_wp2_with (first | (refine wpList_load_mid rfl 56 (.tmp 3) rfl (w.heap.size + 1) 0 ?hxln28 (hdC H') _ ?hcn28 Try.underlying56 rfl (qz1 H') ?_))
    try (case hxln28 => rfl)
    case hcn28 => rw [hH.out]; exact H2
    refine (qzs H' 4 h.out h.sum _).mono ?_
    rintro e w9 ⟨rfl, b9⟩
    have F9 := qz6 F2 b9 (by first | omega | (simp; omega))
    have K9 := K2.trans (b9.mono (by first | omega | (simp; omega)))
    go_wp2_with (refine wpList_store_mid rfl 56 (.tmp 4) _ rfl (w.heap.size + 1 + 1) 0 (hdC (qzc H' 4 h.out h.sum)).toArray ?hxn28 ?hyn28 ?htn28 (qzb _) (qzg _) ?_)
    try (case hxn28 => rfl)
    try (case hyn28 => rfl)
    case htn28 => exact F9
    refine bodyPost_ret (v := .agg (hdC (qzc H' 4 h.out h.sum)).toArray) ?_ rfl ⟨by rw [hv.out], ?_⟩
    ·exact qz4 Try.results123 _ _ (w.heap.size + 1 + 1) 0 rfl (hdC (qzc H' 4 h.out h.sum)) _ (World.rangeAt_setCells_same _ _ _ _ F9) Try.underlying56 rfl (qz1 _)
    ·exact Below.setCells (by omega) _ _ _ K9
   obtain ⟨nn, hnn⟩ : ∃ nn : Nat, A.vers[v].next = nn := ⟨A.vers[v].next.toNat, by omega⟩
   have hnnl : nn < A.nodes.length := by omega
   have hnnl' : (nn : Int) < (A.nodes.length : Int) := by omega
   have hnnl0 : (0 : Int) <= (nn : Int) := by omega
   have hnn3 : ¬ ((nn : Int) < 0) := by omega
   have hndn : ndOf A (vrOf A h.ver).next = A.nodes[nn] := by rw [hvr, hnn, qz1x A nn hnnl]
   rw [hnn] at v0
   have m0 : w2.cell? ⟨bn, on + nn * 3, none⟩ = some (.int .i64 A.nodes[nn].key) := by simpa using (qzr (sz := 3) (fun _ => rfl) RN2 nn hnnl) 0 _ rfl
   by_cases hk : h.value < A.nodes[nn].key
   ·obtain ⟨H', hH⟩ : ∃ H' : Hd, Hid (H' = h) := by exact ⟨_, rfl⟩
    have hv : Hid (useH A h = qzc H' 4 h.out h.sum) := by show _ = _; rw [hH.out]; simp [useH, k7, qz5c, hndn, hk, hcb]
    go_upto_region 19 with (first | (go_at_call 90; refine (qzo _ _ _).mono ?_; rintro e w' ⟨rfl, hw⟩; obtain rfl := hw.symm) | (go_at_call 46; refine (qzf _ _ _ _).mono ?_; rintro e w' ⟨rfl, hw⟩; obtain rfl := hw.symm))
    go_wp2_with (first | (refine wpList_load_mid rfl 56 (.tmp 3) rfl (w.heap.size + 1) 0 ?hxln29 (hdC H') _ ?hcn29 Try.underlying56 rfl (qz1 H') ?_))
    try (case hxln29 => rfl)
    case hcn29 => rw [hH.out]; exact H2
    refine (qzs H' 4 h.out h.sum _).mono ?_
    rintro e w9 ⟨rfl, b9⟩
    have F9 := qz6 F2 b9 (by first | omega | (simp; omega))
    have K9 := K2.trans (b9.mono (by first | omega | (simp; omega)))
    go_wp2_with (refine wpList_store_mid rfl 56 (.tmp 4) _ rfl (w.heap.size + 1 + 1) 0 (hdC (qzc H' 4 h.out h.sum)).toArray ?hxn29 ?hyn29 ?htn29 (qzb _) (qzg _) ?_)
    try (case hxn29 => rfl)
    try (case hyn29 => rfl)
    case htn29 => exact F9
    refine bodyPost_ret (v := .agg (hdC (qzc H' 4 h.out h.sum)).toArray) ?_ rfl ⟨by rw [hv.out], ?_⟩
    ·exact qz4 Try.results123 _ _ (w.heap.size + 1 + 1) 0 rfl (hdC (qzc H' 4 h.out h.sum)) _ (World.rangeAt_setCells_same _ _ _ _ F9) Try.underlying56 rfl (qz1 _)
    ·exact Below.setCells (by omega) _ _ _ K9
   obtain ⟨H', hH⟩ : ∃ H' : Hd, Hid (H' = { h with x_ := (nn : Int), at_ := 2 }) := by exact ⟨_, rfl⟩
   have hv : Hid (useH A h = H') := by
    show _ = _
    rw [hH.out]
    have hlb : qz5c A h = false := by unfold qz5c; rw [hndn, hvr, hnn]; simp [k7, hk]
    simp [useH, k7, hlb, hcb, hvr, hnn]
   go_upto_region 22 with (first | (go_at_call 90; refine (qzo _ _ _).mono ?_; rintro e w' ⟨rfl, hw⟩; obtain rfl := hw.symm) | (go_at_call 46; refine (qzf _ _ _ _).mono ?_; rintro e w' ⟨rfl, hw⟩; obtain rfl := hw.symm))
   go_wp2_with (first | (refine wpList_load_mid rfl 56 (.tmp 3) rfl (w.heap.size + 1) 0 ?hxln30 (hdC H') _ ?hcn30 Try.underlying56 rfl (qz1 H') ?_) | (refine wpList_store_mid rfl 56 (.tmp 4) _ rfl (w.heap.size + 1 + 1) 0 (hdC H').toArray ?hxn30 ?hyn30 ?htn30 (qzb _) (qzg _) ?_))
   try (case hxln30 => rfl)
   case hcn30 => rw [hH.out]; exact (qza (qza H2 10 (by simp [hdC]) _) 0 (by simp [hdC]) _)
   try (case hxn30 => rfl)
   try (case hyn30 => rfl)
   case htn30 => exact (qz3 (qz3 F2 _ _) _ _)
   refine bodyPost_ret (v := .agg (hdC H').toArray) ?_ rfl ⟨by rw [hv.out], ?_⟩
   ·exact qz4 Try.results123 _ _ (w.heap.size + 1 + 1) 0 rfl (hdC H') _ (World.rangeAt_setCells_same _ _ _ _ (qz3 (qz3 F2 _ _) _ _)) Try.underlying56 rfl (qz1 _)
   ·exact Below.setCells (by omega) _ _ _ (Below.setCell (Below.setCell K2 (p := ⟨w.heap.size + 1, 10, none⟩) (by show w.heap.size <= w.heap.size + 1; omega) _) (p := ⟨w.heap.size + 1, 0, none⟩) (by show w.heap.size <= w.heap.size + 1; omega) _)
  have hcb : qz47 A h = true := by simp [qz47, hnd, hvr, kin, kg, hnx, k7]
  go_upto_region 13 with (first | (go_at_call 90; refine (qzo _ _ _).mono ?_; rintro e w' ⟨rfl, hw⟩; obtain rfl := hw.symm) | (go_at_call 46; refine (qzf _ _ _ _).mono ?_; rintro e w' ⟨rfl, hw⟩; obtain rfl := hw.symm))
  by_cases hl : A.vers[v].next < 0
  ·obtain ⟨H', hH⟩ : ∃ H' : Hd, Hid (H' = { h with out := min (h.out + 1) (1000000 : Int), sum := min (h.sum + A.nodes[n].value) (1000000 : Int) }) := by exact ⟨_, rfl⟩
   have hv : Hid (useH A h = qzc H' 4 (min (h.out + 1) 1000000) (min (h.sum + A.nodes[n].value) 1000000)) := by show _ = _; rw [hH.out]; simp [useH, k7, qz5c, hvr, hl, hcb, qz5g, hnd] <;> rfl
   go_upto_region 19 with (first | (go_at_call 90; refine (qzo _ _ _).mono ?_; rintro e w' ⟨rfl, hw⟩; obtain rfl := hw.symm) | (go_at_call 46; refine (qzf _ _ _ _).mono ?_; rintro e w' ⟨rfl, hw⟩; obtain rfl := hw.symm))
   go_wp2_with (first | (refine wpList_load_mid rfl 56 (.tmp 3) rfl (w.heap.size + 1) 0 ?hxln31 (hdC H') _ ?hcn31 Try.underlying56 rfl (qz1 H') ?_))
   try (case hxln31 => rfl)
   case hcn31 => rw [hH.out]; exact (qza (qza H2 7 (by simp [hdC]) _) 8 (by simp [hdC]) _)
   refine (qzs H' 4 (min (h.out + 1) 1000000) (min (h.sum + A.nodes[n].value) 1000000) _).mono ?_
   rintro e w9 ⟨rfl, b9⟩
   have F9 := qz6 (qz3 (qz3 F2 _ _) _ _) b9 (by first | omega | (simp; omega))
   have K9 := (Below.setCell (Below.setCell K2 (p := ⟨w.heap.size + 1, 7, none⟩) (by show w.heap.size <= w.heap.size + 1; omega) _) (p := ⟨w.heap.size + 1, 8, none⟩) (by show w.heap.size <= w.heap.size + 1; omega) _).trans (b9.mono (by first | omega | (simp; omega)))
   go_wp2_with (refine wpList_store_mid rfl 56 (.tmp 4) _ rfl (w.heap.size + 1 + 1) 0 (hdC (qzc H' 4 (min (h.out + 1) 1000000) (min (h.sum + A.nodes[n].value) 1000000))).toArray ?hxn31 ?hyn31 ?htn31 (qzb _) (qzg _) ?_)
   try (case hxn31 => rfl)
   try (case hyn31 => rfl)
   case htn31 => exact F9
   refine bodyPost_ret (v := .agg (hdC (qzc H' 4 (min (h.out + 1) 1000000) (min (h.sum + A.nodes[n].value) 1000000))).toArray) ?_ rfl ⟨by rw [hv.out], ?_⟩
   ·exact qz4 Try.results123 _ _ (w.heap.size + 1 + 1) 0 rfl (hdC (qzc H' 4 (min (h.out + 1) 1000000) (min (h.sum + A.nodes[n].value) 1000000))) _ (World.rangeAt_setCells_same _ _ _ _ F9) Try.underlying56 rfl (qz1 _)
   ·exact Below.setCells (by omega) _ _ _ K9
  obtain ⟨nn, hnn⟩ : ∃ nn : Nat, A.vers[v].next = nn := ⟨A.vers[v].next.toNat, by omega⟩
  have hnnl : nn < A.nodes.length := by omega
  have hnnl' : (nn : Int) < (A.nodes.length : Int) := by omega
  have hnnl0 : (0 : Int) <= (nn : Int) := by omega
  have hnn3 : ¬ ((nn : Int) < 0) := by omega
  have hndn : ndOf A (vrOf A h.ver).next = A.nodes[nn] := by rw [hvr, hnn, qz1x A nn hnnl]
  rw [hnn] at v0
  have m0 : w2.cell? ⟨bn, on + nn * 3, none⟩ = some (.int .i64 A.nodes[nn].key) := by simpa using (qzr (sz := 3) (fun _ => rfl) RN2 nn hnnl) 0 _ rfl
  by_cases hk : h.value < A.nodes[nn].key
  ·obtain ⟨H', hH⟩ : ∃ H' : Hd, Hid (H' = { h with out := min (h.out + 1) (1000000 : Int), sum := min (h.sum + A.nodes[n].value) (1000000 : Int) }) := by exact ⟨_, rfl⟩
   have hv : Hid (useH A h = qzc H' 4 (min (h.out + 1) 1000000) (min (h.sum + A.nodes[n].value) 1000000)) := by show _ = _; rw [hH.out]; simp [useH, k7, qz5c, hndn, hk, hcb, qz5g, hnd] <;> rfl
   go_upto_region 19 with (first | (go_at_call 90; refine (qzo _ _ _).mono ?_; rintro e w' ⟨rfl, hw⟩; obtain rfl := hw.symm) | (go_at_call 46; refine (qzf _ _ _ _).mono ?_; rintro e w' ⟨rfl, hw⟩; obtain rfl := hw.symm))
   go_wp2_with (first | (refine wpList_load_mid rfl 56 (.tmp 3) rfl (w.heap.size + 1) 0 ?hxln32 (hdC H') _ ?hcn32 Try.underlying56 rfl (qz1 H') ?_))
   try (case hxln32 => rfl)
   case hcn32 => rw [hH.out]; exact (qza (qza H2 7 (by simp [hdC]) _) 8 (by simp [hdC]) _)
   refine (qzs H' 4 (min (h.out + 1) 1000000) (min (h.sum + A.nodes[n].value) 1000000) _).mono ?_
   rintro e w9 ⟨rfl, b9⟩
   have F9 := qz6 (qz3 (qz3 F2 _ _) _ _) b9 (by first | omega | (simp; omega))
   have K9 := (Below.setCell (Below.setCell K2 (p := ⟨w.heap.size + 1, 7, none⟩) (by show w.heap.size <= w.heap.size + 1; omega) _) (p := ⟨w.heap.size + 1, 8, none⟩) (by show w.heap.size <= w.heap.size + 1; omega) _).trans (b9.mono (by first | omega | (simp; omega)))
   go_wp2_with (refine wpList_store_mid rfl 56 (.tmp 4) _ rfl (w.heap.size + 1 + 1) 0 (hdC (qzc H' 4 (min (h.out + 1) 1000000) (min (h.sum + A.nodes[n].value) 1000000))).toArray ?hxn32 ?hyn32 ?htn32 (qzb _) (qzg _) ?_)
   try (case hxn32 => rfl)
   try (case hyn32 => rfl)
   case htn32 => exact F9
   refine bodyPost_ret (v := .agg (hdC (qzc H' 4 (min (h.out + 1) 1000000) (min (h.sum + A.nodes[n].value) 1000000))).toArray) ?_ rfl ⟨by rw [hv.out], ?_⟩
   ·exact qz4 Try.results123 _ _ (w.heap.size + 1 + 1) 0 rfl (hdC (qzc H' 4 (min (h.out + 1) 1000000) (min (h.sum + A.nodes[n].value) 1000000))) _ (World.rangeAt_setCells_same _ _ _ _ F9) Try.underlying56 rfl (qz1 _)
   ·exact Below.setCells (by omega) _ _ _ K9
  obtain ⟨H', hH⟩ : ∃ H' : Hd, Hid (H' = { h with out := min (h.out + 1) (1000000 : Int), sum := min (h.sum + A.nodes[n].value) (1000000 : Int), x_ := (nn : Int), at_ := 2 }) := by exact ⟨_, rfl⟩
  have hv : Hid (useH A h = H') := by
   show _ = _
   rw [hH.out]
   have hlb : qz5c A h = false := by unfold qz5c; rw [hndn, hvr, hnn]; simp [k7, hk]
   simp [useH, k7, hlb, hcb, hvr, hnn, qz5g, hnd]
  go_upto_region 22 with (first | (go_at_call 90; refine (qzo _ _ _).mono ?_; rintro e w' ⟨rfl, hw⟩; obtain rfl := hw.symm) | (go_at_call 46; refine (qzf _ _ _ _).mono ?_; rintro e w' ⟨rfl, hw⟩; obtain rfl := hw.symm))
  go_wp2_with (first | (refine wpList_load_mid rfl 56 (.tmp 3) rfl (w.heap.size + 1) 0 ?hxln33 (hdC H') _ ?hcn33 Try.underlying56 rfl (qz1 H') ?_) | (refine wpList_store_mid rfl 56 (.tmp 4) _ rfl (w.heap.size + 1 + 1) 0 (hdC H').toArray ?hxn33 ?hyn33 ?htn33 (qzb _) (qzg _) ?_))
  try (case hxln33 => rfl)
  case hcn33 => rw [hH.out]; exact (qza (qza (qza (qza H2 7 (by simp [hdC]) _) 8 (by simp [hdC]) _) 10 (by simp [hdC]) _) 0 (by simp [hdC]) _)
  try (case hxn33 => rfl)
  try (case hyn33 => rfl)
  case htn33 => exact (qz3 (qz3 (qz3 (qz3 F2 _ _) _ _) _ _) _ _)
  refine bodyPost_ret (v := .agg (hdC H').toArray) ?_ rfl ⟨by rw [hv.out], ?_⟩
  ·exact qz4 Try.results123 _ _ (w.heap.size + 1 + 1) 0 rfl (hdC H') _ (World.rangeAt_setCells_same _ _ _ _ (qz3 (qz3 (qz3 (qz3 F2 _ _) _ _) _ _) _ _)) Try.underlying56 rfl (qz1 _)
  ·exact Below.setCells (by omega) _ _ _ (Below.setCell (Below.setCell (Below.setCell (Below.setCell K2 (p := ⟨w.heap.size + 1, 7, none⟩) (by show w.heap.size <= w.heap.size + 1; omega) _) (p := ⟨w.heap.size + 1, 8, none⟩) (by show w.heap.size <= w.heap.size + 1; omega) _) (p := ⟨w.heap.size + 1, 10, none⟩) (by show w.heap.size <= w.heap.size + 1; omega) _) (p := ⟨w.heap.size + 1, 0, none⟩) (by show w.heap.size <= w.heap.size + 1; omega) _)
 have b67 : (h.code == 7) = false := by simp [k6]
 have hcb : qz47 A h = false := by simp [qz47, k6]
 by_cases kx : n = 0
 case pos =>
  have bx0 : ((n : Int) == 0) = true := by simp [kx]
  have nbx0 : ((n : Int) != 0) = false := by simp [kx]
  go_upto_region 13 with (first | (go_at_call 90; refine (qzo _ _ _).mono ?_; rintro e w' ⟨rfl, hw⟩; obtain rfl := hw.symm) | (go_at_call 46; refine (qzf _ _ _ _).mono ?_; rintro e w' ⟨rfl, hw⟩; obtain rfl := hw.symm))
  by_cases hl : A.vers[v].next < 0
  ·obtain ⟨H', hH⟩ : ∃ H' : Hd, Hid (H' = h) := by exact ⟨_, rfl⟩
   have hv : Hid (useH A h = qzc H' 3 0 0) := by show _ = _; rw [hH.out]; simp [useH, k6, qz5c, hvr, hl, hn, kx]
   go_upto_region 18 with (first | (go_at_call 90; refine (qzo _ _ _).mono ?_; rintro e w' ⟨rfl, hw⟩; obtain rfl := hw.symm) | (go_at_call 46; refine (qzf _ _ _ _).mono ?_; rintro e w' ⟨rfl, hw⟩; obtain rfl := hw.symm))
   go_wp2_with (first | (refine wpList_load_mid rfl 56 (.tmp 3) rfl (w.heap.size + 1) 0 ?hxln34 (hdC H') _ ?hcn34 Try.underlying56 rfl (qz1 H') ?_))
   try (case hxln34 => rfl)
   case hcn34 => rw [hH.out]; exact H2
   refine (qzs H' 3 0 0 _).mono ?_
   rintro e w9 ⟨rfl, b9⟩
   have F9 := qz6 F2 b9 (by first | omega | (simp; omega))
   have K9 := K2.trans (b9.mono (by first | omega | (simp; omega)))
   go_wp2_with (refine wpList_store_mid rfl 56 (.tmp 4) _ rfl (w.heap.size + 1 + 1) 0 (hdC (qzc H' 3 0 0)).toArray ?hxn34 ?hyn34 ?htn34 (qzb _) (qzg _) ?_)
   try (case hxn34 => rfl)
   try (case hyn34 => rfl)
   case htn34 => exact F9
   refine bodyPost_ret (v := .agg (hdC (qzc H' 3 0 0)).toArray) ?_ rfl ⟨by rw [hv.out], ?_⟩
   ·exact qz4 Try.results123 _ _ (w.heap.size + 1 + 1) 0 rfl (hdC (qzc H' 3 0 0)) _ (World.rangeAt_setCells_same _ _ _ _ F9) Try.underlying56 rfl (qz1 _)
   ·exact Below.setCells (by omega) _ _ _ K9
  obtain ⟨nn, hnn⟩ : ∃ nn : Nat, A.vers[v].next = nn := ⟨A.vers[v].next.toNat, by omega⟩
  have hnnl : nn < A.nodes.length := by omega
  have hnnl' : (nn : Int) < (A.nodes.length : Int) := by omega
  have hnnl0 : (0 : Int) <= (nn : Int) := by omega
  have hnn3 : ¬ ((nn : Int) < 0) := by omega
  have hndn : ndOf A (vrOf A h.ver).next = A.nodes[nn] := by rw [hvr, hnn, qz1x A nn hnnl]
  rw [hnn] at v0
  have m0 : w2.cell? ⟨bn, on + nn * 3, none⟩ = some (.int .i64 A.nodes[nn].key) := by simpa using (qzr (sz := 3) (fun _ => rfl) RN2 nn hnnl) 0 _ rfl
  by_cases hk : h.key < A.nodes[nn].key
  ·obtain ⟨H', hH⟩ : ∃ H' : Hd, Hid (H' = h) := by exact ⟨_, rfl⟩
   have hv : Hid (useH A h = qzc H' 3 0 0) := by show _ = _; rw [hH.out]; simp [useH, k6, qz5c, hndn, hk, hn, kx]
   go_upto_region 18 with (first | (go_at_call 90; refine (qzo _ _ _).mono ?_; rintro e w' ⟨rfl, hw⟩; obtain rfl := hw.symm) | (go_at_call 46; refine (qzf _ _ _ _).mono ?_; rintro e w' ⟨rfl, hw⟩; obtain rfl := hw.symm))
   go_wp2_with (first | (refine wpList_load_mid rfl 56 (.tmp 3) rfl (w.heap.size + 1) 0 ?hxln35 (hdC H') _ ?hcn35 Try.underlying56 rfl (qz1 H') ?_))
   try (case hxln35 => rfl)
   case hcn35 => rw [hH.out]; exact H2
   refine (qzs H' 3 0 0 _).mono ?_
   rintro e w9 ⟨rfl, b9⟩
   have F9 := qz6 F2 b9 (by first | omega | (simp; omega))
   have K9 := K2.trans (b9.mono (by first | omega | (simp; omega)))
   go_wp2_with (refine wpList_store_mid rfl 56 (.tmp 4) _ rfl (w.heap.size + 1 + 1) 0 (hdC (qzc H' 3 0 0)).toArray ?hxn35 ?hyn35 ?htn35 (qzb _) (qzg _) ?_)
   try (case hxn35 => rfl)
   try (case hyn35 => rfl)
   case htn35 => exact F9
   refine bodyPost_ret (v := .agg (hdC (qzc H' 3 0 0)).toArray) ?_ rfl ⟨by rw [hv.out], ?_⟩
   ·exact qz4 Try.results123 _ _ (w.heap.size + 1 + 1) 0 rfl (hdC (qzc H' 3 0 0)) _ (World.rangeAt_setCells_same _ _ _ _ F9) Try.underlying56 rfl (qz1 _)
   ·exact Below.setCells (by omega) _ _ _ K9
  obtain ⟨H', hH⟩ : ∃ H' : Hd, Hid (H' = { h with x_ := (nn : Int), at_ := 2 }) := by exact ⟨_, rfl⟩
  have hv : Hid (useH A h = H') := by
   show _ = _
   rw [hH.out]
   have hlb : qz5c A h = false := by unfold qz5c; rw [hndn, hvr, hnn]; simp [k6, hk]
   simp [useH, k6, hlb, hcb, hvr, hnn, hn, kx]
  go_upto_region 22 with (first | (go_at_call 90; refine (qzo _ _ _).mono ?_; rintro e w' ⟨rfl, hw⟩; obtain rfl := hw.symm) | (go_at_call 46; refine (qzf _ _ _ _).mono ?_; rintro e w' ⟨rfl, hw⟩; obtain rfl := hw.symm))
  go_wp2_with (first | (refine wpList_load_mid rfl 56 (.tmp 3) rfl (w.heap.size + 1) 0 ?hxln36 (hdC H') _ ?hcn36 Try.underlying56 rfl (qz1 H') ?_) | (refine wpList_store_mid rfl 56 (.tmp 4) _ rfl (w.heap.size + 1 + 1) 0 (hdC H').toArray ?hxn36 ?hyn36 ?htn36 (qzb _) (qzg _) ?_))
  try (case hxln36 => rfl)
  case hcn36 => rw [hH.out]; exact (qza (qza H2 10 (by simp [hdC]) _) 0 (by simp [hdC]) _)
  try (case hxn36 => rfl)
  try (case hyn36 => rfl)
  case htn36 => exact (qz3 (qz3 F2 _ _) _ _)
  refine bodyPost_ret (v := .agg (hdC H').toArray) ?_ rfl ⟨by rw [hv.out], ?_⟩
  ·exact qz4 Try.results123 _ _ (w.heap.size + 1 + 1) 0 rfl (hdC H') _ (World.rangeAt_setCells_same _ _ _ _ (qz3 (qz3 F2 _ _) _ _)) Try.underlying56 rfl (qz1 _)
  ·exact Below.setCells (by omega) _ _ _ (Below.setCell (Below.setCell K2 (p := ⟨w.heap.size + 1, 10, none⟩) (by show w.heap.size <= w.heap.size + 1; omega) _) (p := ⟨w.heap.size + 1, 0, none⟩) (by show w.heap.size <= w.heap.size + 1; omega) _)
 have hnx : ¬ (h.x_ = 0) := by omega
 have bx : ((n : Int) == 0) = false := by simp [kx]
 have nbx : ((n : Int) != 0) = true := by simp [kx]
 have hnd' : ndOf A (n : Int) = A.nodes[n] := qz1x A n hnl
 by_cases kk : A.nodes[n].key = h.key
 case neg =>
  have bk : (A.nodes[n].key == h.key) = false := by simp [kk]
  go_upto_region 13 with (first | (go_at_call 90; refine (qzo _ _ _).mono ?_; rintro e w' ⟨rfl, hw⟩; obtain rfl := hw.symm) | (go_at_call 46; refine (qzf _ _ _ _).mono ?_; rintro e w' ⟨rfl, hw⟩; obtain rfl := hw.symm))
  by_cases hl : A.vers[v].next < 0
  ·obtain ⟨H', hH⟩ : ∃ H' : Hd, Hid (H' = h) := by exact ⟨_, rfl⟩
   have hv : Hid (useH A h = qzc H' 3 0 0) := by show _ = _; rw [hH.out]; simp [useH, k6, qz5c, hvr, hl, hnd, kk]
   go_upto_region 18 with (first | (go_at_call 90; refine (qzo _ _ _).mono ?_; rintro e w' ⟨rfl, hw⟩; obtain rfl := hw.symm) | (go_at_call 46; refine (qzf _ _ _ _).mono ?_; rintro e w' ⟨rfl, hw⟩; obtain rfl := hw.symm))
   go_wp2_with (first | (refine wpList_load_mid rfl 56 (.tmp 3) rfl (w.heap.size + 1) 0 ?hxln37 (hdC H') _ ?hcn37 Try.underlying56 rfl (qz1 H') ?_))
   try (case hxln37 => rfl)
   case hcn37 => rw [hH.out]; exact H2
   refine (qzs H' 3 0 0 _).mono ?_
   rintro e w9 ⟨rfl, b9⟩
   have F9 := qz6 F2 b9 (by first | omega | (simp; omega))
   have K9 := K2.trans (b9.mono (by first | omega | (simp; omega)))
   go_wp2_with (refine wpList_store_mid rfl 56 (.tmp 4) _ rfl (w.heap.size + 1 + 1) 0 (hdC (qzc H' 3 0 0)).toArray ?hxn37 ?hyn37 ?htn37 (qzb _) (qzg _) ?_)
   try (case hxn37 => rfl)
   try (case hyn37 => rfl)
   case htn37 => exact F9
   refine bodyPost_ret (v := .agg (hdC (qzc H' 3 0 0)).toArray) ?_ rfl ⟨by rw [hv.out], ?_⟩
   ·exact qz4 Try.results123 _ _ (w.heap.size + 1 + 1) 0 rfl (hdC (qzc H' 3 0 0)) _ (World.rangeAt_setCells_same _ _ _ _ F9) Try.underlying56 rfl (qz1 _)
   ·exact Below.setCells (by omega) _ _ _ K9
  obtain ⟨nn, hnn⟩ : ∃ nn : Nat, A.vers[v].next = nn := ⟨A.vers[v].next.toNat, by omega⟩
  have hnnl : nn < A.nodes.length := by omega
  have hnnl' : (nn : Int) < (A.nodes.length : Int) := by omega
  have hnnl0 : (0 : Int) <= (nn : Int) := by omega
  have hnn3 : ¬ ((nn : Int) < 0) := by omega
  have hndn : ndOf A (vrOf A h.ver).next = A.nodes[nn] := by rw [hvr, hnn, qz1x A nn hnnl]
  rw [hnn] at v0
  have m0 : w2.cell? ⟨bn, on + nn * 3, none⟩ = some (.int .i64 A.nodes[nn].key) := by simpa using (qzr (sz := 3) (fun _ => rfl) RN2 nn hnnl) 0 _ rfl
  by_cases hk : h.key < A.nodes[nn].key
  ·obtain ⟨H', hH⟩ : ∃ H' : Hd, Hid (H' = h) := by exact ⟨_, rfl⟩
   have hv : Hid (useH A h = qzc H' 3 0 0) := by show _ = _; rw [hH.out]; simp [useH, k6, qz5c, hndn, hk, hnd, kk]
   go_upto_region 18 with (first | (go_at_call 90; refine (qzo _ _ _).mono ?_; rintro e w' ⟨rfl, hw⟩; obtain rfl := hw.symm) | (go_at_call 46; refine (qzf _ _ _ _).mono ?_; rintro e w' ⟨rfl, hw⟩; obtain rfl := hw.symm))
   go_wp2_with (first | (refine wpList_load_mid rfl 56 (.tmp 3) rfl (w.heap.size + 1) 0 ?hxln38 (hdC H') _ ?hcn38 Try.underlying56 rfl (qz1 H') ?_))
   try (case hxln38 => rfl)
   case hcn38 => rw [hH.out]; exact H2
   refine (qzs H' 3 0 0 _).mono ?_
   rintro e w9 ⟨rfl, b9⟩
   have F9 := qz6 F2 b9 (by first | omega | (simp; omega))
   have K9 := K2.trans (b9.mono (by first | omega | (simp; omega)))
   go_wp2_with (refine wpList_store_mid rfl 56 (.tmp 4) _ rfl (w.heap.size + 1 + 1) 0 (hdC (qzc H' 3 0 0)).toArray ?hxn38 ?hyn38 ?htn38 (qzb _) (qzg _) ?_)
   try (case hxn38 => rfl)
   try (case hyn38 => rfl)
   case htn38 => exact F9
   refine bodyPost_ret (v := .agg (hdC (qzc H' 3 0 0)).toArray) ?_ rfl ⟨by rw [hv.out], ?_⟩
   ·exact qz4 Try.results123 _ _ (w.heap.size + 1 + 1) 0 rfl (hdC (qzc H' 3 0 0)) _ (World.rangeAt_setCells_same _ _ _ _ F9) Try.underlying56 rfl (qz1 _)
   ·exact Below.setCells (by omega) _ _ _ K9
  obtain ⟨H', hH⟩ : ∃ H' : Hd, Hid (H' = { h with x_ := (nn : Int), at_ := 2 }) := by exact ⟨_, rfl⟩
  have hv : Hid (useH A h = H') := by
   show _ = _
   rw [hH.out]
   have hlb : qz5c A h = false := by unfold qz5c; rw [hndn, hvr, hnn]; simp [k6, hk]
   simp [useH, k6, hlb, hcb, hvr, hnn, hnd, kk]
  go_upto_region 22 with (first | (go_at_call 90; refine (qzo _ _ _).mono ?_; rintro e w' ⟨rfl, hw⟩; obtain rfl := hw.symm) | (go_at_call 46; refine (qzf _ _ _ _).mono ?_; rintro e w' ⟨rfl, hw⟩; obtain rfl := hw.symm))
  go_wp2_with (first | (refine wpList_load_mid rfl 56 (.tmp 3) rfl (w.heap.size + 1) 0 ?hxln39 (hdC H') _ ?hcn39 Try.underlying56 rfl (qz1 H') ?_) | (refine wpList_store_mid rfl 56 (.tmp 4) _ rfl (w.heap.size + 1 + 1) 0 (hdC H').toArray ?hxn39 ?hyn39 ?htn39 (qzb _) (qzg _) ?_))
  try (case hxln39 => rfl)
  case hcn39 => rw [hH.out]; exact (qza (qza H2 10 (by simp [hdC]) _) 0 (by simp [hdC]) _)
  try (case hxn39 => rfl)
  try (case hyn39 => rfl)
  case htn39 => exact (qz3 (qz3 F2 _ _) _ _)
  refine bodyPost_ret (v := .agg (hdC H').toArray) ?_ rfl ⟨by rw [hv.out], ?_⟩
  ·exact qz4 Try.results123 _ _ (w.heap.size + 1 + 1) 0 rfl (hdC H') _ (World.rangeAt_setCells_same _ _ _ _ (qz3 (qz3 F2 _ _) _ _)) Try.underlying56 rfl (qz1 _)
  ·exact Below.setCells (by omega) _ _ _ (Below.setCell (Below.setCell K2 (p := ⟨w.heap.size + 1, 10, none⟩) (by show w.heap.size <= w.heap.size + 1; omega) _) (p := ⟨w.heap.size + 1, 0, none⟩) (by show w.heap.size <= w.heap.size + 1; omega) _)
 cases kg : A.vers[v].gone
 ·obtain ⟨H', hH⟩ : ∃ H' : Hd, Hid (H' = h) := by exact ⟨_, rfl⟩
  have hv : Hid (useH A h = qzc H' 2 A.nodes[n].value 0) := by show _ = _; rw [hH.out]; simp [useH, k6, hnx, hnd, kk, hvr, kg]
  go_upto_region 9 with (first | (go_at_call 90; refine (qzo _ _ _).mono ?_; rintro e w' ⟨rfl, hw⟩; obtain rfl := hw.symm) | (go_at_call 46; refine (qzf _ _ _ _).mono ?_; rintro e w' ⟨rfl, hw⟩; obtain rfl := hw.symm))
  go_wp2_with (first | (refine wpList_load_mid rfl 56 (.tmp 3) rfl (w.heap.size + 1) 0 ?hxln40 (hdC H') _ ?hcn40 Try.underlying56 rfl (qz1 H') ?_))
  try (case hxln40 => rfl)
  case hcn40 => rw [hH.out]; exact H2
  refine (qzs H' 2 A.nodes[n].value 0 _).mono ?_
  rintro e w9 ⟨rfl, b9⟩
  have F9 := qz6 F2 b9 (by first | omega | (simp; omega))
  have K9 := K2.trans (b9.mono (by first | omega | (simp; omega)))
  go_wp2_with (refine wpList_store_mid rfl 56 (.tmp 4) _ rfl (w.heap.size + 1 + 1) 0 (hdC (qzc H' 2 A.nodes[n].value 0)).toArray ?hxn40 ?hyn40 ?htn40 (qzb _) (qzg _) ?_)
  try (case hxn40 => rfl)
  try (case hyn40 => rfl)
  case htn40 => exact F9
  refine bodyPost_ret (v := .agg (hdC (qzc H' 2 A.nodes[n].value 0)).toArray) ?_ rfl ⟨by rw [hv.out], ?_⟩
  ·exact qz4 Try.results123 _ _ (w.heap.size + 1 + 1) 0 rfl (hdC (qzc H' 2 A.nodes[n].value 0)) _ (World.rangeAt_setCells_same _ _ _ _ F9) Try.underlying56 rfl (qz1 _)
  ·exact Below.setCells (by omega) _ _ _ K9
 ·obtain ⟨H', hH⟩ : ∃ H' : Hd, Hid (H' = h) := by exact ⟨_, rfl⟩
  have hv : Hid (useH A h = qzc H' 3 0 0) := by show _ = _; rw [hH.out]; simp [useH, k6, hnx, hnd, kk, hvr, kg]
  go_upto_region 8 with (first | (go_at_call 90; refine (qzo _ _ _).mono ?_; rintro e w' ⟨rfl, hw⟩; obtain rfl := hw.symm) | (go_at_call 46; refine (qzf _ _ _ _).mono ?_; rintro e w' ⟨rfl, hw⟩; obtain rfl := hw.symm))
  go_wp2_with (first | (refine wpList_load_mid rfl 56 (.tmp 3) rfl (w.heap.size + 1) 0 ?hxln41 (hdC H') _ ?hcn41 Try.underlying56 rfl (qz1 H') ?_))
  try (case hxln41 => rfl)
  case hcn41 => rw [hH.out]; exact H2
  refine (qzs H' 3 0 0 _).mono ?_
  rintro e w9 ⟨rfl, b9⟩
  have F9 := qz6 F2 b9 (by first | omega | (simp; omega))
  have K9 := K2.trans (b9.mono (by first | omega | (simp; omega)))
  go_wp2_with (refine wpList_store_mid rfl 56 (.tmp 4) _ rfl (w.heap.size + 1 + 1) 0 (hdC (qzc H' 3 0 0)).toArray ?hxn41 ?hyn41 ?htn41 (qzb _) (qzg _) ?_)
  try (case hxn41 => rfl)
  try (case hyn41 => rfl)
  case htn41 => exact F9
  refine bodyPost_ret (v := .agg (hdC (qzc H' 3 0 0)).toArray) ?_ rfl ⟨by rw [hv.out], ?_⟩
  ·exact qz4 Try.results123 _ _ (w.heap.size + 1 + 1) 0 rfl (hdC (qzc H' 3 0 0)) _ (World.rangeAt_setCells_same _ _ _ _ F9) Try.underlying56 rfl (qz1 _)
  ·exact Below.setCells (by omega) _ _ _ K9
end
end Go.Proofs.Ythjkdnlmopafkaa
