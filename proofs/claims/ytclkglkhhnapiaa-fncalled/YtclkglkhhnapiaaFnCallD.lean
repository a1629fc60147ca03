/-
  What the law's proof goes by, part 4.
-/
import Derived.Deep.RegionLaw
import Derived.Test.YtclkglkhhnapiaaFnCallC
namespace Go.Proofs.Ytclkglkhhnapiaa
open Go.ChangeShapes Go.WideShapes Go.ChangeAt Go.RowKit
set_option maxRecDepth 100000
set_option maxHeartbeats 16000000
set_option linter.unusedVariables false
set_option linter.unusedSimpArgs false
set_option linter.unnecessarySimpa false
set_option linter.unusedSectionVars false
section
attribute [local go_sem ↓] Go.wp_at_zero Go.wp_at_succ
theorem qz7m (B : Nat) (A : Ar) (h : Hd) (a0 a1 a2 a3 : Option Addr) (c0 c1 c2 c3 : Nat) (w : World) (hB : B <= w.heap.size) (hA : A.size <= 1048576) (I : qz25 B w (.slice a0 A.slots.length c0) (.slice a1 A.guides.length c1) (.slice a2 A.nodes.length c2) (.slice a3 A.vers.length c3) A) (x y z u : Int) (hOk : qz1o x y z u A = true) (hv0 : 0 <= h.ver) (hv1 : h.ver < (A.vers.length : Int)) (hx0 : 0 <= h.x_) (hx1 : h.x_ < (A.nodes.length : Int)) (ho0 : 0 <= h.out) (ho1 : h.out <= 1000000) (hs0 : 0 <= h.sum) (hs1 : h.sum <= 1000000) :
  Calls Try.prog 128 #[.agg #[.int .i64 A.camera, .slice a0 A.slots.length c0, .slice a1 A.guides.length c1, .slice a2 A.nodes.length c2, .slice a3 A.vers.length c3], .agg (hdC h).toArray] w fun e w' => e = .returned (.agg (hdC (useH A h)).toArray) /\ Below w.heap.size w w' := by
 have hA' := hA
 unfold Ar.size at hA
 have X0 := World.rangeAt_alloc (World.rangeAt_alloc (qzd w [.int .i64 A.camera, .slice a0 A.slots.length c0, .slice a1 A.guides.length c1, .slice a2 A.nodes.length c2, .slice a3 A.vers.length c3] 38) (.cells (hdC h).toArray 27)) (.cells #[.int .i64 0, .int .i64 0, .int .i64 0, .int .i64 0, .int .i64 0, .int .i64 0, .int .i64 0, .int .i64 0, .int .i64 0, .int .i64 0, .int .i64 0, .int .i64 0, .int .i64 0, .int .i64 0, .int .i64 0, .int .i64 0, .int .i64 0, .int .i64 0, .int .i64 0, .int .i64 0, .int .i64 0, .int .i64 0] 27)
 have H0 := World.rangeAt_alloc (qzd (w.alloc (.cells #[.int .i64 A.camera, .slice a0 A.slots.length c0, .slice a1 A.guides.length c1, .slice a2 A.nodes.length c2, .slice a3 A.vers.length c3] 38)) (hdC h) 27) (.cells #[.int .i64 0, .int .i64 0, .int .i64 0, .int .i64 0, .int .i64 0, .int .i64 0, .int .i64 0, .int .i64 0, .int .i64 0, .int .i64 0, .int .i64 0, .int .i64 0, .int .i64 0, .int .i64 0, .int .i64 0, .int .i64 0, .int .i64 0, .int .i64 0, .int .i64 0, .int .i64 0, .int .i64 0, .int .i64 0] 27)
 have G0 := World.there_alloc (qzh (w.alloc (.cells #[.int .i64 A.camera, .slice a0 A.slots.length c0, .slice a1 A.guides.length c1, .slice a2 A.nodes.length c2, .slice a3 A.vers.length c3] 38)) (hdC h).toArray 27 22 (by simp [hdC])) (.cells #[.int .i64 0, .int .i64 0, .int .i64 0, .int .i64 0, .int .i64 0, .int .i64 0, .int .i64 0, .int .i64 0, .int .i64 0, .int .i64 0, .int .i64 0, .int .i64 0, .int .i64 0, .int .i64 0, .int .i64 0, .int .i64 0, .int .i64 0, .int .i64 0, .int .i64 0, .int .i64 0, .int .i64 0, .int .i64 0] 27)
 have F0 := qzh ((w.alloc (.cells #[.int .i64 A.camera, .slice a0 A.slots.length c0, .slice a1 A.guides.length c1, .slice a2 A.nodes.length c2, .slice a3 A.vers.length c3] 38)).alloc (.cells (hdC h).toArray 27)) #[.int .i64 0, .int .i64 0, .int .i64 0, .int .i64 0, .int .i64 0, .int .i64 0, .int .i64 0, .int .i64 0, .int .i64 0, .int .i64 0, .int .i64 0, .int .i64 0, .int .i64 0, .int .i64 0, .int .i64 0, .int .i64 0, .int .i64 0, .int .i64 0, .int .i64 0, .int .i64 0, .int .i64 0, .int .i64 0] 27 22 (by decide)
 have K0 := (((Below.refl w.heap.size w).alloc (Nat.le_refl _) (.cells #[.int .i64 A.camera, .slice a0 A.slots.length c0, .slice a1 A.guides.length c1, .slice a2 A.nodes.length c2, .slice a3 A.vers.length c3] 38)).alloc (by simp) (.cells (hdC h).toArray 27)).alloc (by simp; omega) (.cells #[.int .i64 0, .int .i64 0, .int .i64 0, .int .i64 0, .int .i64 0, .int .i64 0, .int .i64 0, .int .i64 0, .int .i64 0, .int .i64 0, .int .i64 0, .int .i64 0, .int .i64 0, .int .i64 0, .int .i64 0, .int .i64 0, .int .i64 0, .int .i64 0, .int .i64 0, .int .i64 0, .int .i64 0, .int .i64 0] 27)
 have hz0 : w.heap.size + 1 + 1 < (((w.alloc (.cells #[.int .i64 A.camera, .slice a0 A.slots.length c0, .slice a1 A.guides.length c1, .slice a2 A.nodes.length c2, .slice a3 A.vers.length c3] 38)).alloc (.cells (hdC h).toArray 27)).alloc (.cells #[.int .i64 0, .int .i64 0, .int .i64 0, .int .i64 0, .int .i64 0, .int .i64 0, .int .i64 0, .int .i64 0, .int .i64 0, .int .i64 0, .int .i64 0, .int .i64 0, .int .i64 0, .int .i64 0, .int .i64 0, .int .i64 0, .int .i64 0, .int .i64 0, .int .i64 0, .int .i64 0, .int .i64 0, .int .i64 0] 27)).heap.size := by simp
 simp only [World.size_alloc] at H0 G0 F0
 have I0 := I.below (K0.mono hB)
 go_enter Try.func128, Try.ntmps128
 have tok : True := trivial
 go_wp2_with (clear tok; refine qz2e (((w.alloc (.cells #[.int .i64 A.camera, .slice a0 A.slots.length c0, .slice a1 A.guides.length c1, .slice a2 A.nodes.length c2, .slice a3 A.vers.length c3] 38)).alloc (.cells (hdC h).toArray 27)).alloc (.cells #[.int .i64 0, .int .i64 0, .int .i64 0, .int .i64 0, .int .i64 0, .int .i64 0, .int .i64 0, .int .i64 0, .int .i64 0, .int .i64 0, .int .i64 0, .int .i64 0, .int .i64 0, .int .i64 0, .int .i64 0, .int .i64 0, .int .i64 0, .int .i64 0, .int .i64 0, .int .i64 0, .int .i64 0, .int .i64 0] 27)) ?_)
 generalize hw0 : ((w.alloc (.cells #[.int .i64 A.camera, .slice a0 A.slots.length c0, .slice a1 A.guides.length c1, .slice a2 A.nodes.length c2, .slice a3 A.vers.length c3] 38)).alloc (.cells (hdC h).toArray 27)).alloc (.cells #[.int .i64 0, .int .i64 0, .int .i64 0, .int .i64 0, .int .i64 0, .int .i64 0, .int .i64 0, .int .i64 0, .int .i64 0, .int .i64 0, .int .i64 0, .int .i64 0, .int .i64 0, .int .i64 0, .int .i64 0, .int .i64 0, .int .i64 0, .int .i64 0, .int .i64 0, .int .i64 0, .int .i64 0, .int .i64 0] 27) = w0 at *
 clear hw0 I
 show wpList _ _ _ _ _ w0
 obtain ⟨v, hv⟩ : ∃ v : Nat, h.ver = v := ⟨h.ver.toNat, by omega⟩
 obtain ⟨n, hn⟩ : ∃ n : Nat, h.x_ = n := ⟨h.x_.toNat, by omega⟩
 have hvl : v < A.vers.length := by omega
 have hvl' : (v : Int) < (A.vers.length : Int) := by omega
 have hvl0 : (0 : Int) <= (v : Int) := by omega
 have hnl : n < A.nodes.length := by omega
 have hnl' : (n : Int) < (A.nodes.length : Int) := by omega
 have hnl0 : (0 : Int) <= (n : Int) := by omega
 have hvr : vrOf A h.ver = A.vers[v] := by rw [hv, qz32 A v hvl]
 have hnd : ndOf A h.x_ = A.nodes[n] := by rw [hn, qz24 A n hnl]
 have hval := qz8i hOk n hnl
 have hver := qz4l hOk v hvl
 obtain ⟨bb, off, rfl, hbb, R⟩ := qz14.at I0.r (by omega)
 obtain ⟨bn, on, rfl, hbn, RN⟩ := qz14.at I0.n (by omega)
 have V5 := qzu (sz := 5) (fun _ => rfl) R v hvl
 have N3 := qzu (sz := 3) (fun _ => rfl) RN n hnl
 have v0 : w0.cell? ⟨bb, off + v * 5, none⟩ = some (.int .i64 A.vers[v].next) := by simpa using V5 0 _ rfl
 have v1 : w0.cell? ⟨bb, off + v * 5 + 1, none⟩ = some (.bool A.vers[v].gone) := V5 1 _ rfl
 have v2 : w0.cell? ⟨bb, off + v * 5 + 2, none⟩ = some (.int .i64 A.vers[v].stamp) := V5 2 _ rfl
 have v3 : w0.cell? ⟨bb, off + v * 5 + 3, none⟩ = some (.int .i64 A.vers[v].prev) := V5 3 _ rfl
 have v4 : w0.cell? ⟨bb, off + v * 5 + 4, none⟩ = some (.int .i64 A.vers[v].kind) := V5 4 _ rfl
 have x4 : w0.cell? ⟨w.heap.size, 4, none⟩ = some (.slice (some ⟨bb, off, none⟩) A.vers.length c3) := by simpa using X0 4 _ rfl
 have q11 : w0.cell? ⟨w.heap.size + 1, 11, none⟩ = some (.int .i64 h.ver) := by simpa using H0 11 (.int .i64 h.ver) rfl
 rw [hv] at q11
 have RN0 := RN
 clear R RN V5 N3
 have tok : True := trivial
 go_wp2_with (clear tok; refine qz2e (w0.alloc (.cells #[.int .i64 A.vers[v].next, .bool A.vers[v].gone, .int .i64 A.vers[v].stamp, .int .i64 A.vers[v].prev, .int .i64 A.vers[v].kind] 62)) ?_)
 have al := (Below.refl w0.heap.size w0).alloc (Nat.le_refl _) (.cells #[.int .i64 A.vers[v].next, .bool A.vers[v].gone, .int .i64 A.vers[v].stamp, .int .i64 A.vers[v].prev, .int .i64 A.vers[v].kind] 62)
 have VB1 := qzd w0 [.int .i64 A.vers[v].next, .bool A.vers[v].gone, .int .i64 A.vers[v].stamp, .int .i64 A.vers[v].prev, .int .i64 A.vers[v].kind] 62
 have X1 := qz0 X0 al (by omega)
 have H1 := qz0 H0 al (by omega)
 have G1 := qz6 G0 al (by omega)
 have F1 := qz6 F0 al (by omega)
 have K1 := K0.trans (al.mono (by omega))
 have I1 := I0.below (al.mono (by omega))
 have hz1 := Nat.lt_of_lt_of_le hz0 al.size
 have hl1 : w0.heap.size < (w0.alloc (.cells #[.int .i64 A.vers[v].next, .bool A.vers[v].gone, .int .i64 A.vers[v].stamp, .int .i64 A.vers[v].prev, .int .i64 A.vers[v].kind] 62)).heap.size := by simp
 have RN1 := qz0 RN0 al (by omega)
 generalize hw1 : w0.alloc (.cells #[.int .i64 A.vers[v].next, .bool A.vers[v].gone, .int .i64 A.vers[v].stamp, .int .i64 A.vers[v].prev, .int .i64 A.vers[v].kind] 62) = w1 at *
 show wpList _ _ _ _ _ w1
 clear hw1 al X0 H0 G0 F0 K0 I0
 clear v0 v1 v2 v3 v4 x4 q11 RN0
 have N3 := qzu (sz := 3) (fun _ => rfl) RN1 n hnl
 have n0 : w1.cell? ⟨bn, on + n * 3, none⟩ = some (.int .i64 A.nodes[n].key) := by simpa using N3 0 _ rfl
 have n1 : w1.cell? ⟨bn, on + n * 3 + 1, none⟩ = some (.int .i64 A.nodes[n].value) := N3 1 _ rfl
 have n2 : w1.cell? ⟨bn, on + n * 3 + 2, none⟩ = some (.int .i64 A.nodes[n].head) := N3 2 _ rfl
 have x3 : w1.cell? ⟨w.heap.size, 3, none⟩ = some (.slice (some ⟨bn, on, none⟩) A.nodes.length c2) := by simpa using X1 3 _ rfl
 have q10 : w1.cell? ⟨w.heap.size + 1, 10, none⟩ = some (.int .i64 h.x_) := by simpa using H1 10 (.int .i64 h.x_) rfl
 rw [hn] at q10
 clear N3
 have tok : True := trivial
 go_wp2_with (clear tok; refine qz2e (w1.alloc (.cells #[.int .i64 A.nodes[n].key, .int .i64 A.nodes[n].value, .int .i64 A.nodes[n].head] 96)) ?_)
 have al := (Below.refl w1.heap.size w1).alloc (Nat.le_refl _) (.cells #[.int .i64 A.nodes[n].key, .int .i64 A.nodes[n].value, .int .i64 A.nodes[n].head] 96)
 have NB2 := qzd w1 [.int .i64 A.nodes[n].key, .int .i64 A.nodes[n].value, .int .i64 A.nodes[n].head] 96
 have X2 := qz0 X1 al (by omega)
 have H2 := qz0 H1 al (by omega)
 have G2 := qz6 G1 al (by omega)
 have F2 := qz6 F1 al (by omega)
 have K2 := K1.trans (al.mono (by omega))
 have I2 := I1.below (al.mono (by omega))
 have hz2 := Nat.lt_of_lt_of_le hz1 al.size
 have hl2 : w1.heap.size < (w1.alloc (.cells #[.int .i64 A.nodes[n].key, .int .i64 A.nodes[n].value, .int .i64 A.nodes[n].head] 96)).heap.size := by simp
 have RN2 := qz0 RN1 al (by omega)
 have VB2 := qz0 VB1 al (by omega)
 generalize hw2 : w1.alloc (.cells #[.int .i64 A.nodes[n].key, .int .i64 A.nodes[n].value, .int .i64 A.nodes[n].head] 96) = w2 at *
 show wpList _ _ _ _ _ w2
 clear hw2 al X1 H1 G1 F1 K1 I1
 clear n0 n1 n2 x3 q10 RN1 VB1
 have q0 : w2.cell? ⟨w.heap.size + 1, 0, none⟩ = some (.int .i64 h.at_) := by simpa using H2 0 (.int .i64 h.at_) rfl
 have q2 : w2.cell? ⟨w.heap.size + 1, 2, none⟩ = some (.int .i64 h.code) := by simpa using H2 2 (.int .i64 h.code) rfl
 have q3 : w2.cell? ⟨w.heap.size + 1, 3, none⟩ = some (.int .i64 h.key) := by simpa using H2 3 (.int .i64 h.key) rfl
 have q4 : w2.cell? ⟨w.heap.size + 1, 4, none⟩ = some (.int .i64 h.value) := by simpa using H2 4 (.int .i64 h.value) rfl
 have q7 : w2.cell? ⟨w.heap.size + 1, 7, none⟩ = some (.int .i64 h.out) := by simpa using H2 7 (.int .i64 h.out) rfl
 have q8 : w2.cell? ⟨w.heap.size + 1, 8, none⟩ = some (.int .i64 h.sum) := by simpa using H2 8 (.int .i64 h.sum) rfl
 have q10 : w2.cell? ⟨w.heap.size + 1, 10, none⟩ = some (.int .i64 h.x_) := by simpa using H2 10 (.int .i64 h.x_) rfl
 have f0 : w2.frozen? ⟨w.heap.size + 1, 0, none⟩ = false := by simpa using (G2 0 (by decide)).2
 have f7 : w2.frozen? ⟨w.heap.size + 1, 7, none⟩ = false := by simpa using (G2 7 (by decide)).2
 have f8 : w2.frozen? ⟨w.heap.size + 1, 8, none⟩ = false := by simpa using (G2 8 (by decide)).2
 have f10 : w2.frozen? ⟨w.heap.size + 1, 10, none⟩ = false := by simpa using (G2 10 (by decide)).2
 rw [hn] at q10
 have x3 : w2.cell? ⟨w.heap.size, 3, none⟩ = some (.slice (some ⟨bn, on, none⟩) A.nodes.length c2) := by simpa using X2 3 _ rfl
 have v0 : w2.cell? ⟨w0.heap.size, 0, none⟩ = some (.int .i64 A.vers[v].next) := by simpa using VB2 0 _ rfl
 have v1 : w2.cell? ⟨w0.heap.size, 1, none⟩ = some (.bool A.vers[v].gone) := by simpa using VB2 1 _ rfl
 have n0 : w2.cell? ⟨w1.heap.size, 0, none⟩ = some (.int .i64 A.nodes[n].key) := by simpa using NB2 0 _ rfl
 have n1 : w2.cell? ⟨w1.heap.size, 1, none⟩ = some (.int .i64 A.nodes[n].value) := by simpa using NB2 1 _ rfl
 have e1 : ¬ (w.heap.size + 1 = w0.heap.size) := by omega
 have e2 : ¬ (w.heap.size + 1 = w1.heap.size) := by omega
 have e3 : ¬ (w.heap.size + 1 = bn) := by omega
 clear X2 VB2 NB2 hl1 hl2 hz0 hz1
 by_cases k6 : h.code = 6
 case neg =>
  by_cases k7 : h.code = 7
  case neg =>
   have b6 : (h.code == 6) = false := by simp [k6]
   have b7 : (h.code == 7) = false := by simp [k7]
   have nb6 : (h.code != 6) = true := by simp [k6]
   have nb7 : (h.code != 7) = true := by simp [k7]
   obtain ⟨H', hH⟩ : ∃ H' : Hd, Hid (H' = { h with at_ := 0 }) := by exact ⟨_, rfl⟩
   have hv : Hid (useH A h = H') := by show _ = _; rw [hH.out]; simp [useH, k6, k7]
   go_upto_region 5 with (first | (go_at_call 97; refine (qzr _ _ _).mono ?_; rintro e w' ⟨rfl, hw⟩; obtain rfl := hw.symm) | (go_at_call 43; refine (qzg _ _ _ _).mono ?_; rintro e w' ⟨rfl, hw⟩; obtain rfl := hw.symm))
   go_wp2_with (first | (refine wpList_load_mid rfl 27 (.tmp 3) rfl (w.heap.size + 1) 0 ?hxln21 (hdC H') _ ?hcn21 Try.underlying27 rfl (qz1 H') ?_) | (refine wpList_store_mid rfl 27 (.tmp 4) _ rfl (w.heap.size + 1 + 1) 0 (hdC H').toArray ?hxn21 ?hyn21 ?htn21 (qza _) (qzf _) ?_))
   try (case hxln21 => rfl)
   case hcn21 => rw [hH.out]; exact (qzc H2 0 (by simp [hdC]) _)
   try (case hxn21 => rfl)
   try (case hyn21 => rfl)
   case htn21 => exact (qz4 F2 _ _)
   refine bodyPost_ret (v := .agg (hdC H').toArray) ?_ rfl ⟨by rw [hv.out], ?_⟩
   ·exact qz5 Try.results128 _ _ (w.heap.size + 1 + 1) 0 rfl (hdC H') _ (World.rangeAt_setCells_same _ _ _ _ (qz4 F2 _ _)) Try.underlying27 rfl (qz1 _)
   ·exact Below.setCells (by omega) _ _ _ (Below.setCell K2 (p := ⟨w.heap.size + 1, 0, none⟩) (by show w.heap.size <= w.heap.size + 1; omega) _)
  have b6 : (h.code == 6) = false := by simp [k6]
  by_cases kx : n = 0
  case pos =>
   have hcb : qz4f A h = false := by simp [qz4f, hn, kx]
   have bx0 : ((n : Int) == 0) = true := by simp [kx]
   have nbx0 : ((n : Int) != 0) = false := by simp [kx]
   go_upto_region 13 with (first | (go_at_call 97; refine (qzr _ _ _).mono ?_; rintro e w' ⟨rfl, hw⟩; obtain rfl := hw.symm) | (go_at_call 43; refine (qzg _ _ _ _).mono ?_; rintro e w' ⟨rfl, hw⟩; obtain rfl := hw.symm))
   by_cases hl : A.vers[v].next < 0
   ·obtain ⟨H', hH⟩ : ∃ H' : Hd, Hid (H' = h) := by exact ⟨_, rfl⟩
    have hv : Hid (useH A h = qzb H' 4 h.out h.sum) := by show _ = _; rw [hH.out]; simp [useH, k7, qz5m, hvr, hl, hcb]
    go_upto_region 19 with (first | (go_at_call 97; refine (qzr _ _ _).mono ?_; rintro e w' ⟨rfl, hw⟩; obtain rfl := hw.symm) | (go_at_call 43; refine (qzg _ _ _ _).mono ?_; rintro e w' ⟨rfl, hw⟩; obtain rfl := hw.symm))
    go_wp2_with (first | (refine wpList_load_mid rfl 27 (.tmp 3) rfl (w.heap.size + 1) 0 ?hxln22 (hdC H') _ ?hcn22 Try.underlying27 rfl (qz1 H') ?_))
    try (case hxln22 => rfl)
    case hcn22 => rw [hH.out]; exact H2
    refine (qzv H' 4 h.out h.sum _).mono ?_
    rintro e w9 ⟨rfl, b9⟩
    have F9 := qz6 F2 b9 (by first | omega | (simp; omega))
    have K9 := K2.trans (b9.mono (by first | omega | (simp; omega)))
    go_wp2_with (refine wpList_store_mid rfl 27 (.tmp 4) _ rfl (w.heap.size + 1 + 1) 0 (hdC (qzb H' 4 h.out h.sum)).toArray ?hxn22 ?hyn22 ?htn22 (qza _) (qzf _) ?_)
    try (case hxn22 => rfl)
    try (case hyn22 => rfl)
    case htn22 => exact F9
    refine bodyPost_ret (v := .agg (hdC (qzb H' 4 h.out h.sum)).toArray) ?_ rfl ⟨by rw [hv.out], ?_⟩
    ·exact qz5 Try.results128 _ _ (w.heap.size + 1 + 1) 0 rfl (hdC (qzb H' 4 h.out h.sum)) _ (World.rangeAt_setCells_same _ _ _ _ F9) Try.underlying27 rfl (qz1 _)
    ·exact Below.setCells (by omega) _ _ _ K9
   obtain ⟨nn, hnn⟩ : ∃ nn : Nat, A.vers[v].next = nn := ⟨A.vers[v].next.toNat, by omega⟩
   have hnnl : nn < A.nodes.length := by omega
   have hnnl' : (nn : Int) < (A.nodes.length : Int) := by omega
   have hnnl0 : (0 : Int) <= (nn : Int) := by omega
   have hnn3 : ¬ ((nn : Int) < 0) := by omega
   have hndn : ndOf A (vrOf A h.ver).next = A.nodes[nn] := by rw [hvr, hnn, qz24 A nn hnnl]
   rw [hnn] at v0
   have m0 : w2.cell? ⟨bn, on + nn * 3, none⟩ = some (.int .i64 A.nodes[nn].key) := by simpa using (qzu (sz := 3) (fun _ => rfl) RN2 nn hnnl) 0 _ rfl
   by_cases hk : h.value < A.nodes[nn].key
   ·obtain ⟨H', hH⟩ : ∃ H' : Hd, Hid (H' = h) := by exact ⟨_, rfl⟩
    have hv : Hid (useH A h = qzb H' 4 h.out h.sum) := by show _ = _; rw [hH.out]; simp [useH, k7, qz5m, hndn, hk, hcb]
    go_upto_region 19 with (first | (go_at_call 97; refine (qzr _ _ _).mono ?_; rintro e w' ⟨rfl, hw⟩; obtain rfl := hw.symm) | (go_at_call 43; refine (qzg _ _ _ _).mono ?_; rintro e w' ⟨rfl, hw⟩; obtain rfl := hw.symm))
    go_wp2_with (first | (refine wpList_load_mid rfl 27 (.tmp 3) rfl (w.heap.size + 1) 0 ?hxln23 (hdC H') _ ?hcn23 Try.underlying27 rfl (qz1 H') ?_))
    try (case hxln23 => rfl)
    case hcn23 => rw [hH.out]; exact H2
    refine (qzv H' 4 h.out h.sum _).mono ?_
    rintro e w9 ⟨rfl, b9⟩
    have F9 := qz6 F2 b9 (by first | omega | (simp; omega))
    have K9 := K2.trans (b9.mono (by first | omega | (simp; omega)))
    go_wp2_with (refine wpList_store_mid rfl 27 (.tmp 4) _ rfl (w.heap.size + 1 + 1) 0 (hdC (qzb H' 4 h.out h.sum)).toArray ?hxn23 ?hyn23 ?htn23 (qza _) (qzf _) ?_)
    try (case hxn23 => rfl)
    try (case hyn23 => rfl)
    case htn23 => exact F9
    refine bodyPost_ret (v := .agg (hdC (qzb H' 4 h.out h.sum)).toArray) ?_ rfl ⟨by rw [hv.out], ?_⟩
    ·exact qz5 Try.results128 _ _ (w.heap.size + 1 + 1) 0 rfl (hdC (qzb H' 4 h.out h.sum)) _ (World.rangeAt_setCells_same _ _ _ _ F9) Try.underlying27 rfl (qz1 _)
    ·exact Below.setCells (by omega) _ _ _ K9
   obtain ⟨H', hH⟩ : ∃ H' : Hd, Hid (H' = { h with x_ := (nn : Int), at_ := 2 }) := by exact ⟨_, rfl⟩
   have hv : Hid (useH A h = H') := by
    show _ = _
    rw [hH.out]
    have hlb : qz5m A h = false := by unfold qz5m; rw [hndn, hvr, hnn]; simp [k7, hk]
    simp [useH, k7, hlb, hcb, hvr, hnn]
   go_upto_region 22 with (first | (go_at_call 97; refine (qzr _ _ _).mono ?_; rintro e w' ⟨rfl, hw⟩; obtain rfl := hw.symm) | (go_at_call 43; refine (qzg _ _ _ _).mono ?_; rintro e w' ⟨rfl, hw⟩; obtain rfl := hw.symm))
   go_wp2_with (first | (refine wpList_load_mid rfl 27 (.tmp 3) rfl (w.heap.size + 1) 0 ?hxln24 (hdC H') _ ?hcn24 Try.underlying27 rfl (qz1 H') ?_) | (refine wpList_store_mid rfl 27 (.tmp 4) _ rfl (w.heap.size + 1 + 1) 0 (hdC H').toArray ?hxn24 ?hyn24 ?htn24 (qza _) (qzf _) ?_))
   try (case hxln24 => rfl)
   case hcn24 => rw [hH.out]; exact (qzc (qzc H2 10 (by simp [hdC]) _) 0 (by simp [hdC]) _)
   try (case hxn24 => rfl)
   try (case hyn24 => rfl)
   case htn24 => exact (qz4 (qz4 F2 _ _) _ _)
   refine bodyPost_ret (v := .agg (hdC H').toArray) ?_ rfl ⟨by rw [hv.out], ?_⟩
   ·exact qz5 Try.results128 _ _ (w.heap.size + 1 + 1) 0 rfl (hdC H') _ (World.rangeAt_setCells_same _ _ _ _ (qz4 (qz4 F2 _ _) _ _)) Try.underlying27 rfl (qz1 _)
   ·exact Below.setCells (by omega) _ _ _ (Below.setCell (Below.setCell K2 (p := ⟨w.heap.size + 1, 10, none⟩) (by show w.heap.size <= w.heap.size + 1; omega) _) (p := ⟨w.heap.size + 1, 0, none⟩) (by show w.heap.size <= w.heap.size + 1; omega) _)
  have hnx : ¬ (h.x_ = 0) := by omega
  have bx : ((n : Int) == 0) = false := by simp [kx]
  have nbx : ((n : Int) != 0) = true := by simp [kx]
  cases kin : inB A.nodes[n].key h.key h.value
  case false =>
   have hcb : qz4f A h = false := by simp [qz4f, hnd, kin]
   go_upto_region 13 with (first | (go_at_call 97; refine (qzr _ _ _).mono ?_; rintro e w' ⟨rfl, hw⟩; obtain rfl := hw.symm) | (go_at_call 43; refine (qzg _ _ _ _).mono ?_; rintro e w' ⟨rfl, hw⟩; obtain rfl := hw.symm))
   by_cases hl : A.vers[v].next < 0
   ·obtain ⟨H', hH⟩ : ∃ H' : Hd, Hid (H' = h) := by exact ⟨_, rfl⟩
    have hv : Hid (useH A h = qzb H' 4 h.out h.sum) := by show _ = _; rw [hH.out]; simp [useH, k7, qz5m, hvr, hl, hcb]
    go_upto_region 19 with (first | (go_at_call 97; refine (qzr _ _ _).mono ?_; rintro e w' ⟨rfl, hw⟩; obtain rfl := hw.symm) | (go_at_call 43; refine (qzg _ _ _ _).mono ?_; rintro e w' ⟨rfl, hw⟩; obtain rfl := hw.symm))
    go_wp2_with (first | (refine wpList_load_mid rfl 27 (.tmp 3) rfl (w.heap.size + 1) 0 ?hxln25 (hdC H') _ ?hcn25 Try.underlying27 rfl (qz1 H') ?_))
    try (case hxln25 => rfl)
    case hcn25 => rw [hH.out]; exact H2
    refine (qzv H' 4 h.out h.sum _).mono ?_
    rintro e w9 ⟨rfl, b9⟩
    have F9 := qz6 F2 b9 (by first | omega | (simp; omega))
    have K9 := K2.trans (b9.mono (by first | omega | (simp; omega)))
    go_wp2_with (refine wpList_store_mid rfl 27 (.tmp 4) _ rfl (w.heap.size + 1 + 1) 0 (hdC (qzb H' 4 h.out h.sum)).toArray ?hxn25 ?hyn25 ?htn25 (qza _) (qzf _) ?_)
    try (case hxn25 => rfl)
    try (case hyn25 => rfl)
    case htn25 => exact F9
    refine bodyPost_ret (v := .agg (hdC (qzb H' 4 h.out h.sum)).toArray) ?_ rfl ⟨by rw [hv.out], ?_⟩
    ·exact qz5 Try.results128 _ _ (w.heap.size + 1 + 1) 0 rfl (hdC (qzb H' 4 h.out h.sum)) _ (World.rangeAt_setCells_same _ _ _ _ F9) Try.underlying27 rfl (qz1 _)
    ·exact Below.setCells (by omega) _ _ _ K9
   obtain ⟨nn, hnn⟩ : ∃ nn : Nat, A.vers[v].next = nn := ⟨A.vers[v].next.toNat, by omega⟩
   have hnnl : nn < A.nodes.length := by omega
   have hnnl' : (nn : Int) < (A.nodes.length : Int) := by omega
   have hnnl0 : (0 : Int) <= (nn : Int) := by omega
   have hnn3 : ¬ ((nn : Int) < 0) := by omega
   have hndn : ndOf A (vrOf A h.ver).next = A.nodes[nn] := by rw [hvr, hnn, qz24 A nn hnnl]
   rw [hnn] at v0
   have m0 : w2.cell? ⟨bn, on + nn * 3, none⟩ = some (.int .i64 A.nodes[nn].key) := by simpa using (qzu (sz := 3) (fun _ => rfl) RN2 nn hnnl) 0 _ rfl
   by_cases hk : h.value < A.nodes[nn].key
   ·obtain ⟨H', hH⟩ : ∃ H' : Hd, Hid (H' = h) := by exact ⟨_, rfl⟩
    have hv : Hid (useH A h = qzb H' 4 h.out h.sum) := by show _ = _; rw [hH.out]; simp [useH, k7, qz5m, hndn, hk, hcb]
    go_upto_region 19 with (first | (go_at_call 97; refine (qzr _ _ _).mono ?_; rintro e w' ⟨rfl, hw⟩; obtain rfl := hw.symm) | (go_at_call 43; refine (qzg _ _ _ _).mono ?_; rintro e w' ⟨rfl, hw⟩; obtain rfl := hw.symm))
    go_wp2_with (first | (refine wpList_load_mid rfl 27 (.tmp 3) rfl (w.heap.size + 1) 0 ?hxln26 (hdC H') _ ?hcn26 Try.underlying27 rfl (qz1 H') ?_))
    try (case hxln26 => rfl)
    case hcn26 => rw [hH.out]; exact H2
    refine (qzv H' 4 h.out h.sum _).mono ?_
    rintro e w9 ⟨rfl, b9⟩
    have F9 := qz6 F2 b9 (by first | omega | (simp; omega))
    have K9 := K2.trans (b9.mono (by first | omega | (simp; omega)))
    go_wp2_with (refine wpList_store_mid rfl 27 (.tmp 4) _ rfl (w.heap.size + 1 + 1) 0 (hdC (qzb H' 4 h.out h.sum)).toArray ?hxn26 ?hyn26 ?htn26 (qza _) (qzf _) ?_)
    try (case hxn26 => rfl)
    try (case hyn26 => rfl)
    case htn26 => exact F9
    refine bodyPost_ret (v := .agg (hdC (qzb H' 4 h.out h.sum)).toArray) ?_ rfl ⟨by rw [hv.out], ?_⟩
    ·exact qz5 Try.results128 _ _ (w.heap.size + 1 + 1) 0 rfl (hdC (qzb H' 4 h.out h.sum)) _ (World.rangeAt_setCells_same _ _ _ _ F9) Try.underlying27 rfl (qz1 _)
    ·exact Below.setCells (by omega) _ _ _ K9
   obtain ⟨H', hH⟩ : ∃ H' : Hd, Hid (H' = { h with x_ := (nn : Int), at_ := 2 }) := by exact ⟨_, rfl⟩
   have hv : Hid (useH A h = H') := by
    show _ = _
    rw [hH.out]
    have hlb : qz5m A h = false := by unfold qz5m; rw [hndn, hvr, hnn]; simp [k7, hk]
    simp [useH, k7, hlb, hcb, hvr, hnn]
   go_upto_region 22 with (first | (go_at_call 97; refine (qzr _ _ _).mono ?_; rintro e w' ⟨rfl, hw⟩; obtain rfl := hw.symm) | (go_at_call 43; refine (qzg _ _ _ _).mono ?_; rintro e w' ⟨rfl, hw⟩; obtain rfl := hw.symm))
   go_wp2_with (first | (refine wpList_load_mid rfl 27 (.tmp 3) rfl (w.heap.size + 1) 0 ?hxln27 (hdC H') _ ?hcn27 Try.underlying27 rfl (qz1 H') ?_) | (refine wpList_store_mid rfl 27 (.tmp 4) _ rfl (w.heap.size + 1 + 1) 0 (hdC H').toArray ?hxn27 ?hyn27 ?htn27 (qza _) (qzf _) ?_))
   try (case hxln27 => rfl)
   case hcn27 => rw [hH.out]; exact (qzc (qzc H2 10 (by simp [hdC]) _) 0 (by simp [hdC]) _)
   try (case hxn27 => rfl)
   try (case hyn27 => rfl)
   case htn27 => exact (qz4 (qz4 F2 _ _) _ _)
   refine bodyPost_ret (v := .agg (hdC H').toArray) ?_ rfl ⟨by rw [hv.out], ?_⟩
   ·exact qz5 Try.results128 _ _ (w.heap.size + 1 + 1) 0 rfl (hdC H') _ (World.rangeAt_setCells_same _ _ _ _ (qz4 (qz4 F2 _ _) _ _)) Try.underlying27 rfl (qz1 _)
   ·exact Below.setCells (by omega) _ _ _ (Below.setCell (Below.setCell K2 (p := ⟨w.heap.size + 1, 10, none⟩) (by show w.heap.size <= w.heap.size + 1; omega) _) (p := ⟨w.heap.size + 1, 0, none⟩) (by show w.heap.size <= w.heap.size + 1; omega) _)
  cases kg : A.vers[v].gone
  case true =>
   have hcb : qz4f A h = false := by simp [qz4f, hvr, kg]
   go_upto_region 13 with (first | (go_at_call 97; refine (qzr _ _ _).mono ?_; rintro e w' ⟨rfl, hw⟩; obtain rfl := hw.symm) | (go_at_call 43; refine (qzg _ _ _ _).mono ?_; rintro e w' ⟨rfl, hw⟩; obtain rfl := hw.symm))
   by_cases hl : A.vers[v].next < 0
   ·obtain ⟨H', hH⟩ : ∃ H' : Hd, Hid (H' = h) := by exact ⟨_, rfl⟩
    have hv : Hid (useH A h = qzb H' 4 h.out h.sum) := by show _ = _; rw [hH.out]; simp [useH, k7, qz5m, hvr, hl, hcb]
    go_upto_region 19 with (first | (go_at_call 97; refine (qzr _ _ _).mono ?_; rintro e w' ⟨rfl, hw⟩; obtain rfl := hw.symm) | (go_at_call 43; refine (qzg _ _ _ _).mono ?_; rintro e w' ⟨rfl, hw⟩; obtain rfl := hw.symm))
    go_wp2_with (first | (refine wpList_load_mid rfl 27 (.tmp 3) rfl (w.heap.size + 1) 0 ?hxln28 (hdC H') _ ?hcn28 Try.underlying27 rfl (qz1 H') ?_))
    try (case hxln28 => rfl)
    case hcn28 => rw [hH.out]; exact H2
    refine (qzv H' 4 h.out h.sum _).mono ?_
    rintro e w9 ⟨rfl, b9⟩
    have F9 := qz6 F2 b9 (by first | omega | (simp; omega))
    have K9 := K2.trans (b9.mono (by first | omega | (simp; omega)))
    go_wp2_with (refine wpList_store_mid rfl 27 (.tmp 4) _ rfl (w.heap.size + 1 + 1) 0 (hdC (qzb H' 4 h.out h.sum)).toArray ?hxn28 ?hyn28 ?htn28 (qza _) (qzf _) ?_)
    try (case hxn28 => rfl)
    try (case hyn28 => rfl)
    case htn28 => exact F9
    refine bodyPost_ret (v := .agg (hdC (qzb H' 4 h.out h.sum)).toArray) ?_ rfl ⟨by rw [hv.out], ?_⟩
    ·exact qz5 Try.results128 _ _ (w.heap.size + 1 + 1) 0 rfl (hdC (qzb H' 4 h.out h.sum)) _ (World.rangeAt_setCells_same _ _ _ _ F9) Try.underlying27 rfl (qz1 _)
    ·exact Below.setCells (by omega) _ _ _ K9
   obtain ⟨nn, hnn⟩ : ∃ nn : Nat, A.vers[v].next = nn := ⟨A.vers[v].next.toNat, by omega⟩
   have hnnl : nn < A.nodes.length := by omega
   have hnnl' : (nn : Int) < (A.nodes.length : Int) := by omega
   have hnnl0 : (0 : Int) <= (nn : Int) := by omega
   have hnn3 : ¬ ((nn : Int) < 0) := by omega
   have hndn : ndOf A (vrOf A h.ver).next = A.nodes[nn] := by rw [hvr, hnn, qz24 A nn hnnl]
   rw [hnn] at v0
   have m0 : w2.cell? ⟨bn, on + nn * 3, none⟩ = some (.int .i64 A.nodes[nn].key) := by simpa using (qzu (sz := 3) (fun _ => rfl) RN2 nn hnnl) 0 _ rfl
   by_cases hk : h.value < A.nodes[nn].key
   ·obtain ⟨H', hH⟩ : ∃ H' : Hd, Hid (H' = h) := by exact ⟨_, rfl⟩
    have hv : Hid (useH A h = qzb H' 4 h.out h.sum) := by show _ = _; rw [hH.out]; simp [useH, k7, qz5m, hndn, hk, hcb]
    go_upto_region 19 with (first | (go_at_call 97; refine (qzr _ _ _).mono ?_; rintro e w' ⟨rfl, hw⟩; obtain rfl := hw.symm) | (go_at_call 43; refine (qzg _ _ _ _).mono ?_; rintro e w' ⟨rfl, hw⟩; obtain rfl := hw.symm))
    go_wp2_with (first | (refine wpList_load_mid rfl 27 (.tmp 3) rfl (w.heap.size + 1) 0 ?hxln29 (hdC H') _ ?hcn29 Try.underlying27 rfl (qz1 H') ?_))
    try (case hxln29 => rfl)
    case hcn29 => rw [hH.out]; exact H2
    refine (qzv H' 4 h.out h.sum _).mono ?_
    rintro e w9 ⟨rfl, b9⟩
    have F9 := qz6 F2 b9 (by first | omega | (simp; omega))
    have K9 := K2.trans (b9.mono (by first | omega | (simp; omega)))
    go_wp2_with (refine wpList_store_mid rfl 27 (.tmp 4) _ rfl (w.heap.size + 1 + 1) 0 (hdC (qzb H' 4 h.out h.sum)).toArray ?hxn29 ?hyn29 ?htn29 (qza _) (qzf _) ?_)
    try (case hxn29 => rfl)
    try (case hyn29 => rfl)
    case htn29 => exact F9
    refine bodyPost_ret (v := .agg (hdC (qzb H' 4 h.out h.sum)).toArray) ?_ rfl ⟨by rw [hv.out], ?_⟩
    ·exact qz5 Try.results128 _ _ (w.heap.size + 1 + 1) 0 rfl (hdC (qzb H' 4 h.out h.sum)) _ (World.rangeAt_setCells_same _ _ _ _ F9) Try.underlying27 rfl (qz1 _)
    ·exact Below.setCells (by omega) _ _ _ K9
   obtain ⟨H', hH⟩ : ∃ H' : Hd, Hid (H' = { h with x_ := (nn : Int), at_ := 2 }) := by exact ⟨_, rfl⟩
   have hv : Hid (useH A h = H') := by
    show _ = _
    rw [hH.out]
    have hlb : qz5m A h = false := by unfold qz5m; rw [hndn, hvr, hnn]; simp [k7, hk]
    simp [useH, k7, hlb, hcb, hvr, hnn]
   go_upto_region 22 with (first | (go_at_call 97; refine (qzr _ _ _).mono ?_; rintro e w' ⟨rfl, hw⟩; obtain rfl := hw.symm) | (go_at_call 43; refine (qzg _ _ _ _).mono ?_; rintro e w' ⟨rfl, hw⟩; obtain rfl := hw.symm))
   go_wp2_with (first | (refine wpList_load_mid rfl 27 (.tmp 3) rfl (w.heap.size + 1) 0 ?hxln30 (hdC H') _ ?hcn30 Try.underlying27 rfl (qz1 H') ?_) | (refine wpList_store_mid rfl 27 (.tmp 4) _ rfl (w.heap.size + 1 + 1) 0 (hdC H').toArray ?hxn30 ?hyn30 ?htn30 (qza _) (qzf _) ?_))
   try (case hxln30 => rfl)
   case hcn30 => rw [hH.out]; exact (qzc (qzc H2 10 (by simp [hdC]) _) 0 (by simp [hdC]) _)
   try (case hxn30 => rfl)
   try (case hyn30 => rfl)
   case htn30 => exact (qz4 (qz4 F2 _ _) _ _)
   refine bodyPost_ret (v := .agg (hdC H').toArray) ?_ rfl ⟨by rw [hv.out], ?_⟩
   ·exact qz5 Try.results128 _ _ (w.heap.size + 1 + 1) 0 rfl (hdC H') _ (World.rangeAt_setCells_same _ _ _ _ (qz4 (qz4 F2 _ _) _ _)) Try.underlying27 rfl (qz1 _)
   ·exact Below.setCells (by omega) _ _ _ (Below.setCell (Below.setCell K2 (p := ⟨w.heap.size + 1, 10, none⟩) (by show w.heap.size <= w.heap.size + 1; omega) _) (p := ⟨w.heap.size + 1, 0, none⟩) (by show w.heap.size <= w.heap.size + 1; omega) _)
  have hcb : qz4f A h = true := by simp [qz4f, hnd, hvr, kin, kg, hnx, k7]
  go_upto_region 13 with (first | (go_at_call 97; refine (qzr _ _ _).mono ?_; rintro e w' ⟨rfl, hw⟩; obtain rfl := hw.symm) | (go_at_call 43; refine (qzg _ _ _ _).mono ?_; rintro e w' ⟨rfl, hw⟩; obtain rfl := hw.symm))
  by_cases hl : A.vers[v].next < 0
  ·obtain ⟨H', hH⟩ : ∃ H' : Hd, Hid (H' = { h with out := min (h.out + 1) (1000000 : Int), sum := min (h.sum + A.nodes[n].value) (1000000 : Int) }) := by exact ⟨_, rfl⟩
   have hv : Hid (useH A h = qzb H' 4 (min (h.out + 1) 1000000) (min (h.sum + A.nodes[n].value) 1000000)) := by show _ = _; rw [hH.out]; simp [useH, k7, qz5m, hvr, hl, hcb, qz5p, hnd] <;> rfl
   go_upto_region 19 with (first | (go_at_call 97; refine (qzr _ _ _).mono ?_; rintro e w' ⟨rfl, hw⟩; obtain rfl := hw.symm) | (go_at_call 43; refine (qzg _ _ _ _).mono ?_; rintro e w' ⟨rfl, hw⟩; obtain rfl := hw.symm))
   go_wp2_with (first | (refine wpList_load_mid rfl 27 (.tmp 3) rfl (w.heap.size + 1) 0 ?hxln31 (hdC H') _ ?hcn31 Try.underlying27 rfl (qz1 H') ?_))
   try (case hxln31 => rfl)
   case hcn31 => rw [hH.out]; exact (qzc (qzc H2 7 (by simp [hdC]) _) 8 (by simp [hdC]) _)
   refine (qzv H' 4 (min (h.out + 1) 1000000) (min (h.sum + A.nodes[n].value) 1000000) _).mono ?_
   rintro e w9 ⟨rfl, b9⟩
   have F9 := qz6 (qz4 (qz4 F2 _ _) _ _) b9 (by first | omega | (simp; omega))
   have K9 := (Below.setCell (Below.setCell K2 (p := ⟨w.heap.size + 1, 7, none⟩) (by show w.heap.size <= w.heap.size + 1; omega) _) (p := ⟨w.heap.size + 1, 8, none⟩) (by show w.heap.size <= w.heap.size + 1; omega) _).trans (b9.mono (by first | omega | (simp; omega)))
   go_wp2_with (refine wpList_store_mid rfl 27 (.tmp 4) _ rfl (w.heap.size + 1 + 1) 0 (hdC (qzb H' 4 (min (h.out + 1) 1000000) (min (h.sum + A.nodes[n].value) 1000000))).toArray ?hxn31 ?hyn31 ?htn31 (qza _) (qzf _) ?_)
   try (case hxn31 => rfl)
   try (case hyn31 => rfl)
   case htn31 => exact F9
   refine bodyPost_ret (v := .agg (hdC (qzb H' 4 (min (h.out + 1) 1000000) (min (h.sum + A.nodes[n].value) 1000000))).toArray) ?_ rfl ⟨by rw [hv.out], ?_⟩
   ·exact qz5 Try.results128 _ _ (w.heap.size + 1 + 1) 0 rfl (hdC (qzb H' 4 (min (h.out + 1) 1000000) (min (h.sum + A.nodes[n].value) 1000000))) _ (World.rangeAt_setCells_same _ _ _ _ F9) Try.underlying27 rfl (qz1 _)
   ·exact Below.setCells (by omega) _ _ _ K9
  obtain ⟨nn, hnn⟩ : ∃ nn : Nat, A.vers[v].next = nn := ⟨A.vers[v].next.toNat, by omega⟩
  have hnnl : nn < A.nodes.length := by omega
  have hnnl' : (nn : Int) < (A.nodes.length : Int) := by omega
  have hnnl0 : (0 : Int) <= (nn : Int) := by omega
  have hnn3 : ¬ ((nn : Int) < 0) := by omega
  have hndn : ndOf A (vrOf A h.ver).next = A.nodes[nn] := by rw [hvr, hnn, qz24 A nn hnnl]
  rw [hnn] at v0
  have m0 : w2.cell? ⟨bn, on + nn * 3, none⟩ = some (.int .i64 A.nodes[nn].key) := by simpa using (qzu (sz := 3) (fun _ => rfl) RN2 nn hnnl) 0 _ rfl
  by_cases hk : h.value < A.nodes[nn].key
  ·obtain ⟨H', hH⟩ : ∃ H' : Hd, Hid (H' = { h with out := min (h.out + 1) (1000000 : Int), sum := min (h.sum + A.nodes[n].value) (1000000 : Int) }) := by exact ⟨_, rfl⟩
   have hv : Hid (useH A h = qzb H' 4 (min (h.out + 1) 1000000) (min (h.sum + A.nodes[n].value) 1000000)) := by show _ = _; rw [hH.out]; simp [useH, k7, qz5m, hndn, hk, hcb, qz5p, hnd] <;> rfl
   go_upto_region 19 with (first | (go_at_call 97; refine (qzr _ _ _).mono ?_; rintro e w' ⟨rfl, hw⟩; obtain rfl := hw.symm) | (go_at_call 43; refine (qzg _ _ _ _).mono ?_; rintro e w' ⟨rfl, hw⟩; obtain rfl := hw.symm))
   go_wp2_with (first | (refine wpList_load_mid rfl 27 (.tmp 3) rfl (w.heap.size + 1) 0 ?hxln32 (hdC H') _ ?hcn32 Try.underlying27 rfl (qz1 H') ?_))
   try (case hxln32 => rfl)
   case hcn32 => rw [hH.out]; exact (qzc (qzc H2 7 (by simp [hdC]) _) 8 (by simp [hdC]) _)
   refine (qzv H' 4 (min (h.out + 1) 1000000) (min (h.sum + A.nodes[n].value) 1000000) _).mono ?_
   rintro e w9 ⟨rfl, b9⟩
   have F9 := qz6 (qz4 (qz4 F2 _ _) _ _) b9 (by first | omega | (simp; omega))
   have K9 := (Below.setCell (Below.setCell K2 (p := ⟨w.heap.size + 1, 7, none⟩) (by show w.heap.size <= w.heap.size + 1; omega) _) (p := ⟨w.heap.size + 1, 8, none⟩) (by show w.heap.size <= w.heap.size + 1; omega) _).trans (b9.mono (by first | omega | (simp; omega)))
   go_wp2_with (refine wpList_store_mid rfl 27 (.tmp 4) _ rfl (w.heap.size + 1 + 1) 0 (hdC (qzb H' 4 (min (h.out + 1) 1000000) (min (h.sum + A.nodes[n].value) 1000000))).toArray ?hxn32 ?hyn32 ?htn32 (qza _) (qzf _) ?_)
   try (case hxn32 => rfl)
   try (case hyn32 => rfl)
   case htn32 => exact F9
   refine bodyPost_ret (v := .agg (hdC (qzb H' 4 (min (h.out + 1) 1000000) (min (h.sum + A.nodes[n].value) 1000000))).toArray) ?_ rfl ⟨by rw [hv.out], ?_⟩
   ·exact qz5 Try.results128 _ _ (w.heap.size + 1 + 1) 0 rfl (hdC (qzb H' 4 (min (h.out + 1) 1000000) (min (h.sum + A.nodes[n].value) 1000000))) _ (World.rangeAt_setCells_same _ _ _ _ F9) Try.underlying27 rfl (qz1 _)
   ·exact Below.setCells (by omega) _ _ _ K9
  obtain ⟨H', hH⟩ : ∃ H' : Hd, Hid (H' = { h with out := min (h.out + 1) (1000000 : Int), sum := min (h.sum + A.nodes[n].value) (1000000 : Int), x_ := (nn : Int), at_ := 2 }) := by exact ⟨_, rfl⟩
  have hv : Hid (useH A h = H') := by
   show _ = _
   rw [hH.out]
   have hlb : qz5m A h = false := by unfold qz5m; rw [hndn, hvr, hnn]; simp [k7, hk]
   simp [useH, k7, hlb, hcb, hvr, hnn, qz5p, hnd]
  go_upto_region 22 with (first | (go_at_call 97; refine (qzr _ _ _).mono ?_; rintro e w' ⟨rfl, hw⟩; obtain rfl := hw.symm) | (go_at_call 43; refine (qzg _ _ _ _).mono ?_; rintro e w' ⟨rfl, hw⟩; obtain rfl := hw.symm))
  go_wp2_with (first | (refine wpList_load_mid rfl 27 (.tmp 3) rfl (w.heap.size + 1) 0 ?hxln33 (hdC H') _ ?hcn33 Try.underlying27 rfl (qz1 H') ?_) | (refine wpList_store_mid rfl 27 (.tmp 4) _ rfl (w.heap.size + 1 + 1) 0 (hdC H').toArray ?hxn33 ?hyn33 ?htn33 (qza _) (qzf _) ?_))
  try (case hxln33 => rfl)
  case hcn33 => rw [hH.out]; exact (qzc (qzc (qzc (qzc H2 7 (by simp [hdC]) _) 8 (by simp [hdC]) _) 10 (by simp [hdC]) _) 0 (by simp [hdC]) _)
  try (case hxn33 => rfl)
  try (case hyn33 => rfl)
  case htn33 => exact (qz4 (qz4 (qz4 (qz4 F2 _ _) _ _) _ _) _ _)
  refine bodyPost_ret (v := .agg (hdC H').toArray) ?_ rfl ⟨by rw [hv.out], ?_⟩
  ·exact qz5 Try.results128 _ _ (w.heap.size + 1 + 1) 0 rfl (hdC H') _ (World.rangeAt_setCells_same _ _ _ _ (qz4 (qz4 (qz4 (qz4 F2 _ _) _ _) _ _) _ _)) Try.underlying27 rfl (qz1 _)
  ·exact Below.setCells (by omega) _ _ _ (Below.setCell (Below.setCell (Below.setCell (Below.setCell K2 (p := ⟨w.heap.size + 1, 7, none⟩) (by show w.heap.size <= w.heap.size + 1; omega) _) (p := ⟨w.heap.size + 1, 8, none⟩) (by show w.heap.size <= w.heap.size + 1; omega) _) (p := ⟨w.heap.size + 1, 10, none⟩) (by show w.heap.size <= w.heap.size + 1; omega) _) (p := ⟨w.heap.size + 1, 0, none⟩) (by show w.heap.size <= w.heap.size + 1; omega) _)
 have b67 : (h.code == 7) = false := by simp [k6]
 have hcb : qz4f A h = false := by simp [qz4f, k6]
 by_cases kx : n = 0
 case pos =>
  have bx0 : ((n : Int) == 0) = true := by simp [kx]
  have nbx0 : ((n : Int) != 0) = false := by simp [kx]
  go_upto_region 13 with (first | (go_at_call 97; refine (qzr _ _ _).mono ?_; rintro e w' ⟨rfl, hw⟩; obtain rfl := hw.symm) | (go_at_call 43; refine (qzg _ _ _ _).mono ?_; rintro e w' ⟨rfl, hw⟩; obtain rfl := hw.symm))
  by_cases hl : A.vers[v].next < 0
  ·obtain ⟨H', hH⟩ : ∃ H' : Hd, Hid (H' = h) := by exact ⟨_, rfl⟩
   have hv : Hid (useH A h = qzb H' 3 0 0) := by show _ = _; rw [hH.out]; simp [useH, k6, qz5m, hvr, hl, hn, kx]
   go_upto_region 18 with (first | (go_at_call 97; refine (qzr _ _ _).mono ?_; rintro e w' ⟨rfl, hw⟩; obtain rfl := hw.symm) | (go_at_call 43; refine (qzg _ _ _ _).mono ?_; rintro e w' ⟨rfl, hw⟩; obtain rfl := hw.symm))
   go_wp2_with (first | (refine wpList_load_mid rfl 27 (.tmp 3) rfl (w.heap.size + 1) 0 ?hxln34 (hdC H') _ ?hcn34 Try.underlying27 rfl (qz1 H') ?_))
   try (case hxln34 => rfl)
   case hcn34 => rw [hH.out]; exact H2
   refine (qzv H' 3 0 0 _).mono ?_
   rintro e w9 ⟨rfl, b9⟩
   have F9 := qz6 F2 b9 (by first | omega | (simp; omega))
   have K9 := K2.trans (b9.mono (by first | omega | (simp; omega)))
   go_wp2_with (refine wpList_store_mid rfl 27 (.tmp 4) _ rfl (w.heap.size + 1 + 1) 0 (hdC (qzb H' 3 0 0)).toArray ?hxn34 ?hyn34 ?htn34 (qza _) (qzf _) ?_)
   try (case hxn34 => rfl)
   try (case hyn34 => rfl)
   case htn34 => exact F9
   refine bodyPost_ret (v := .agg (hdC (qzb H' 3 0 0)).toArray) ?_ rfl ⟨by rw [hv.out], ?_⟩
   ·exact qz5 Try.results128 _ _ (w.heap.size + 1 + 1) 0 rfl (hdC (qzb H' 3 0 0)) _ (World.rangeAt_setCells_same _ _ _ _ F9) Try.underlying27 rfl (qz1 _)
   ·exact Below.setCells (by omega) _ _ _ K9
  obtain ⟨nn, hnn⟩ : ∃ nn : Nat, A.vers[v].next = nn := ⟨A.vers[v].next.toNat, by omega⟩
  have hnnl : nn < A.nodes.length := by omega
  have hnnl' : (nn : Int) < (A.nodes.length : Int) := by omega
  have hnnl0 : (0 : Int) <= (nn : Int) := by omega
  have hnn3 : ¬ ((nn : Int) < 0) := by omega
  have hndn : ndOf A (vrOf A h.ver).next = A.nodes[nn] := by rw [hvr, hnn, qz24 A nn hnnl]
  rw [hnn] at v0
  have m0 : w2.cell? ⟨bn, on + nn * 3, none⟩ = some (.int .i64 A.nodes[nn].key) := by simpa using (qzu (sz := 3) (fun _ => rfl) RN2 nn hnnl) 0 _ rfl
  by_cases hk : h.key < A.nodes[nn].key
  ·obtain ⟨H', hH⟩ : ∃ H' : Hd, Hid (H' = h) := by exact ⟨_, rfl⟩
   have hv : Hid (useH A h = qzb H' 3 0 0) := by show _ = _; rw [hH.out]; simp [useH, k6, qz5m, hndn, hk, hn, kx]
   go_upto_region 18 with (first | (go_at_call 97; refine (qzr _ _ _).mono ?_; rintro e w' ⟨rfl, hw⟩; obtain rfl := hw.symm) | (go_at_call 43; refine (qzg _ _ _ _).mono ?_; rintro e w' ⟨rfl, hw⟩; obtain rfl := hw.symm))
   go_wp2_with (first | (refine wpList_load_mid rfl 27 (.tmp 3) rfl (w.heap.size + 1) 0 ?hxln35 (hdC H') _ ?hcn35 Try.underlying27 rfl (qz1 H') ?_))
   try (case hxln35 => rfl)
   case hcn35 => rw [hH.out]; exact H2
   refine (qzv H' 3 0 0 _).mono ?_
   rintro e w9 ⟨rfl, b9⟩
   have F9 := qz6 F2 b9 (by first | omega | (simp; omega))
   have K9 := K2.trans (b9.mono (by first | omega | (simp; omega)))
   go_wp2_with (refine wpList_store_mid rfl 27 (.tmp 4) _ rfl (w.heap.size + 1 + 1) 0 (hdC (qzb H' 3 0 0)).toArray ?hxn35 ?hyn35 ?htn35 (qza _) (qzf _) ?_)
   try (case hxn35 => rfl)
   try (case hyn35 => rfl)
   case htn35 => exact F9
   refine bodyPost_ret (v := .agg (hdC (qzb H' 3 0 0)).toArray) ?_ rfl ⟨by rw [hv.out], ?_⟩
   ·exact qz5 Try.results128 _ _ (w.heap.size + 1 + 1) 0 rfl (hdC (qzb H' 3 0 0)) _ (World.rangeAt_setCells_same _ _ _ _ F9) Try.underlying27 rfl (qz1 _)
   ·exact Below.setCells (by omega) _ _ _ K9
  obtain ⟨H', hH⟩ : ∃ H' : Hd, Hid (H' = { h with x_ := (nn : Int), at_ := 2 }) := by exact ⟨_, rfl⟩
  have hv : Hid (useH A h = H') := by
   show _ = _
   rw [hH.out]
   have hlb : qz5m A h = false := by unfold qz5m; rw [hndn, hvr, hnn]; simp [k6, hk]
   simp [useH, k6, hlb, hcb, hvr, hnn, hn, kx]
  go_upto_region 22 with (first | (go_at_call 97; refine (qzr _ _ _).mono ?_; rintro e w' ⟨rfl, hw⟩; obtain rfl := hw.symm) | (go_at_call 43; refine (qzg _ _ _ _).mono ?_; rintro e w' ⟨rfl, hw⟩; obtain rfl := hw.symm))
  go_wp2_with (first | (refine wpList_load_mid rfl 27 (.tmp 3) rfl (w.heap.size + 1) 0 ?hxln36 (hdC H') _ ?hcn36 Try.underlying27 rfl (qz1 H') ?_) | (refine wpList_store_mid rfl 27 (.tmp 4) _ rfl (w.heap.size + 1 + 1) 0 (hdC H').toArray ?hxn36 ?hyn36 ?htn36 (qza _) (qzf _) ?_))
  try (case hxln36 => rfl)
  case hcn36 => rw [hH.out]; exact (qzc (qzc H2 10 (by simp [hdC]) _) 0 (by simp [hdC]) _)
  try (case hxn36 => rfl)
  try (case hyn36 => rfl)
  case htn36 => exact (qz4 (qz4 F2 _ _) _ _)
  refine bodyPost_ret (v := .agg (hdC H').toArray) ?_ rfl ⟨by rw [hv.out], ?_⟩
  ·exact qz5 Try.results128 _ _ (w.heap.size + 1 + 1) 0 rfl (hdC H') _ (World.rangeAt_setCells_same _ _ _ _ (qz4 (qz4 F2 _ _) _ _)) Try.underlying27 rfl (qz1 _)
  ·exact Below.setCells (by omega) _ _ _ (Below.setCell (Below.setCell K2 (p := ⟨w.heap.size + 1, 10, none⟩) (by show w.heap.size <= w.heap.size + 1; omega) _) (p := ⟨w.heap.size + 1, 0, none⟩) (by show w.heap.size <= w.heap.size + 1; omega) _)
 have hnx : ¬ (h.x_ = 0) := by omega
 have bx : ((n : Int) == 0) = false := by simp [kx]
 have nbx : ((n : Int) != 0) = true := by simp [kx]
 have hnd' : ndOf A (n : Int) = A.nodes[n] := qz24 A n hnl
 by_cases kk : A.nodes[n].key = h.key
 case neg =>
  have bk : (A.nodes[n].key == h.key) = false := by simp [kk]
  go_upto_region 13 with (first | (go_at_call 97; refine (qzr _ _ _).mono ?_; rintro e w' ⟨rfl, hw⟩; obtain rfl := hw.symm) | (go_at_call 43; refine (qzg _ _ _ _).mono ?_; rintro e w' ⟨rfl, hw⟩; obtain rfl := hw.symm))
  by_cases hl : A.vers[v].next < 0
  ·obtain ⟨H', hH⟩ : ∃ H' : Hd, Hid (H' = h) := by exact ⟨_, rfl⟩
   have hv : Hid (useH A h = qzb H' 3 0 0) := by show _ = _; rw [hH.out]; simp [useH, k6, qz5m, hvr, hl, hnd, kk]
   go_upto_region 18 with (first | (go_at_call 97; refine (qzr _ _ _).mono ?_; rintro e w' ⟨rfl, hw⟩; obtain rfl := hw.symm) | (go_at_call 43; refine (qzg _ _ _ _).mono ?_; rintro e w' ⟨rfl, hw⟩; obtain rfl := hw.symm))
   go_wp2_with (first | (refine wpList_load_mid rfl 27 (.tmp 3) rfl (w.heap.size + 1) 0 ?hxln37 (hdC H') _ ?hcn37 Try.underlying27 rfl (qz1 H') ?_))
   try (case hxln37 => rfl)
   case hcn37 => rw [hH.out]; exact H2
   refine (qzv H' 3 0 0 _).mono ?_
   rintro e w9 ⟨rfl, b9⟩
   have F9 := qz6 F2 b9 (by first | omega | (simp; omega))
   have K9 := K2.trans (b9.mono (by first | omega | (simp; omega)))
   go_wp2_with (refine wpList_store_mid rfl 27 (.tmp 4) _ rfl (w.heap.size + 1 + 1) 0 (hdC (qzb H' 3 0 0)).toArray ?hxn37 ?hyn37 ?htn37 (qza _) (qzf _) ?_)
   try (case hxn37 => rfl)
   try (case hyn37 => rfl)
   case htn37 => exact F9
   refine bodyPost_ret (v := .agg (hdC (qzb H' 3 0 0)).toArray) ?_ rfl ⟨by rw [hv.out], ?_⟩
   ·exact qz5 Try.results128 _ _ (w.heap.size + 1 + 1) 0 rfl (hdC (qzb H' 3 0 0)) _ (World.rangeAt_setCells_same _ _ _ _ F9) Try.underlying27 rfl (qz1 _)
   ·exact Below.setCells (by omega) _ _ _ K9
  obtain ⟨nn, hnn⟩ : ∃ nn : Nat, A.vers[v].next = nn := ⟨A.vers[v].next.toNat, by omega⟩
  have hnnl : nn < A.nodes.length := by omega
  have hnnl' : (nn : Int) < (A.nodes.length : Int) := by omega
  have hnnl0 : (0 : Int) <= (nn : Int) := by omega
  have hnn3 : ¬ ((nn : Int) < 0) := by omega
  have hndn : ndOf A (vrOf A h.ver).next = A.nodes[nn] := by rw [hvr, hnn, qz24 A nn hnnl]
  rw [hnn] at v0
  have m0 : w2.cell? ⟨bn, on + nn * 3, none⟩ = some (.int .i64 A.nodes[nn].key) := by simpa using (qzu (sz := 3) (fun _ => rfl) RN2 nn hnnl) 0 _ rfl
  by_cases hk : h.key < A.nodes[nn].key
  ·obtain ⟨H', hH⟩ : ∃ H' : Hd, Hid (H' = h) := by exact ⟨_, rfl⟩
   have hv : Hid (useH A h = qzb H' 3 0 0) := by show _ = _; rw [hH.out]; simp [useH, k6, qz5m, hndn, hk, hnd, kk]
   go_upto_region 18 with (first | (go_at_call 97; refine (qzr _ _ _).mono ?_; rintro e w' ⟨rfl, hw⟩; obtain rfl := hw.symm) | (go_at_call 43; refine (qzg _ _ _ _).mono ?_; rintro e w' ⟨rfl, hw⟩; obtain rfl := hw.symm))
   go_wp2_with (first | (refine wpList_load_mid rfl 27 (.tmp 3) rfl (w.heap.size + 1) 0 ?hxln38 (hdC H') _ ?hcn38 Try.underlying27 rfl (qz1 H') ?_))
   try (case hxln38 => rfl)
   case hcn38 => rw [hH.out]; exact H2
   refine (qzv H' 3 0 0 _).mono ?_
   rintro e w9 ⟨rfl, b9⟩
   have F9 := qz6 F2 b9 (by first | omega | (simp; omega))
   have K9 := K2.trans (b9.mono (by first | omega | (simp; omega)))
   go_wp2_with (refine wpList_store_mid rfl 27 (.tmp 4) _ rfl (w.heap.size + 1 + 1) 0 (hdC (qzb H' 3 0 0)).toArray ?hxn38 ?hyn38 ?htn38 (qza _) (qzf _) ?_)
   try (case hxn38 => rfl)
   try (case hyn38 => rfl)
   case htn38 => exact F9
   refine bodyPost_ret (v := .agg (hdC (qzb H' 3 0 0)).toArray) ?_ rfl ⟨by rw [hv.out], ?_⟩
   ·exact qz5 Try.results128 _ _ (w.heap.size + 1 + 1) 0 rfl (hdC (qzb H' 3 0 0)) _ (World.rangeAt_setCells_same _ _ _ _ F9) Try.underlying27 rfl (qz1 _)
   ·exact Below.setCells (by omega) _ _ _ K9
  obtain ⟨H', hH⟩ : ∃ H' : Hd, Hid (H' = { h with x_ := (nn : Int), at_ := 2 }) := by exact ⟨_, rfl⟩
  have hv : Hid (useH A h = H') := by
   show _ = _
   rw [hH.out]
   have hlb : qz5m A h = false := by unfold qz5m; rw [hndn, hvr, hnn]; simp [k6, hk]
   simp [useH, k6, hlb, hcb, hvr, hnn, hnd, kk]
  go_upto_region 22 with (first | (go_at_call 97; refine (qzr _ _ _).mono ?_; rintro e w' ⟨rfl, hw⟩; obtain rfl := hw.symm) | (go_at_call 43; refine (qzg _ _ _ _).mono ?_; rintro e w' ⟨rfl, hw⟩; obtain rfl := hw.symm))
  go_wp2_with (first | (refine wpList_load_mid rfl 27 (.tmp 3) rfl (w.heap.size + 1) 0 ?hxln39 (hdC H') _ ?hcn39 Try.underlying27 rfl (qz1 H') ?_) | (refine wpList_store_mid rfl 27 (.tmp 4) _ rfl (w.heap.size + 1 + 1) 0 (hdC H').toArray ?hxn39 ?hyn39 ?htn39 (qza _) (qzf _) ?_))
  try (case hxln39 => rfl)
  case hcn39 => rw [hH.out]; exact (qzc (qzc H2 10 (by simp [hdC]) _) 0 (by simp [hdC]) _)
  try (case hxn39 => rfl)
  try (case hyn39 => rfl)
  case htn39 => exact (qz4 (qz4 F2 _ _) _ _)
  refine bodyPost_ret (v := .agg (hdC H').toArray) ?_ rfl ⟨by rw [hv.out], ?_⟩
  ·exact qz5 Try.results128 _ _ (w.heap.size + 1 + 1) 0 rfl (hdC H') _ (World.rangeAt_setCells_same _ _ _ _ (qz4 (qz4 F2 _ _) _ _)) Try.underlying27 rfl (qz1 _)
  ·exact Below.setCells (by omega) _ _ _ (Below.setCell (Below.setCell K2 (p := ⟨w.heap.size + 1, 10, none⟩) (by show w.heap.size <= w.heap.size + 1; omega) _) (p := ⟨w.heap.size + 1, 0, none⟩) (by show w.heap.size <= w.heap.size + 1; omega) _)
 cases kg : A.vers[v].gone
 ·obtain ⟨H', hH⟩ : ∃ H' : Hd, Hid (H' = h) := by exact ⟨_, rfl⟩
  have hv : Hid (useH A h = qzb H' 2 A.nodes[n].value 0) := by show _ = _; rw [hH.out]; simp [useH, k6, hnx, hnd, kk, hvr, kg]
  go_upto_region 9 with (first | (go_at_call 97; refine (qzr _ _ _).mono ?_; rintro e w' ⟨rfl, hw⟩; obtain rfl := hw.symm) | (go_at_call 43; refine (qzg _ _ _ _).mono ?_; rintro e w' ⟨rfl, hw⟩; obtain rfl := hw.symm))
  go_wp2_with (first | (refine wpList_load_mid rfl 27 (.tmp 3) rfl (w.heap.size + 1) 0 ?hxln40 (hdC H') _ ?hcn40 Try.underlying27 rfl (qz1 H') ?_))
  try (case hxln40 => rfl)
  case hcn40 => rw [hH.out]; exact H2
  refine (qzv H' 2 A.nodes[n].value 0 _).mono ?_
  rintro e w9 ⟨rfl, b9⟩
  have F9 := qz6 F2 b9 (by first | omega | (simp; omega))
  have K9 := K2.trans (b9.mono (by first | omega | (simp; omega)))
  go_wp2_with (refine wpList_store_mid rfl 27 (.tmp 4) _ rfl (w.heap.size + 1 + 1) 0 (hdC (qzb H' 2 A.nodes[n].value 0)).toArray ?hxn40 ?hyn40 ?htn40 (qza _) (qzf _) ?_)
  try (case hxn40 => rfl)
  try (case hyn40 => rfl)
  case htn40 => exact F9
  refine bodyPost_ret (v := .agg (hdC (qzb H' 2 A.nodes[n].value 0)).toArray) ?_ rfl ⟨by rw [hv.out], ?_⟩
  ·exact qz5 Try.results128 _ _ (w.heap.size + 1 + 1) 0 rfl (hdC (qzb H' 2 A.nodes[n].value 0)) _ (World.rangeAt_setCells_same _ _ _ _ F9) Try.underlying27 rfl (qz1 _)
  ·exact Below.setCells (by omega) _ _ _ K9
 ·obtain ⟨H', hH⟩ : ∃ H' : Hd, Hid (H' = h) := by exact ⟨_, rfl⟩
  have hv : Hid (useH A h = qzb H' 3 0 0) := by show _ = _; rw [hH.out]; simp [useH, k6, hnx, hnd, kk, hvr, kg]
  go_upto_region 8 with (first | (go_at_call 97; refine (qzr _ _ _).mono ?_; rintro e w' ⟨rfl, hw⟩; obtain rfl := hw.symm) | (go_at_call 43; refine (qzg _ _ _ _).mono ?_; rintro e w' ⟨rfl, hw⟩; obtain rfl := hw.symm))
  go_wp2_with (first | (refine wpList_load_mid rfl 27 (.tmp 3) rfl (w.heap.size + 1) 0 ?hxln41 (hdC H') _ ?hcn41 Try.underlying27 rfl (qz1 H') ?_))
  try (case hxln41 => rfl)
  case hcn41 => rw [hH.out]; exact H2
  refine (qzv H' 3 0 0 _).mono ?_
  rintro e w9 ⟨rfl, b9⟩
  have F9 := qz6 F2 b9 (by first | omega | (simp; omega))
  have K9 := K2.trans (b9.mono (by first | omega | (simp; omega)))
  go_wp2_with (refine wpList_store_mid rfl 27 (.tmp 4) _ rfl (w.heap.size + 1 + 1) 0 (hdC (qzb H' 3 0 0)).toArray ?hxn41 ?hyn41 ?htn41 (qza _) (qzf _) ?_)
  try (case hxn41 => rfl)
  try (case hyn41 => rfl)
  case htn41 => exact F9
  refine bodyPost_ret (v := .agg (hdC (qzb H' 3 0 0)).toArray) ?_ rfl ⟨by rw [hv.out], ?_⟩
  ·exact qz5 Try.results128 _ _ (w.heap.size + 1 + 1) 0 rfl (hdC (qzb H' 3 0 0)) _ (World.rangeAt_setCells_same _ _ _ _ F9) Try.underlying27 rfl (qz1 _)
  ·exact Below.setCells (by omega) _ _ _ K9
end
section
attribute [local go_sem ↓] Go.wp_at_zero Go.wp_at_succ
theorem qz7o {x y z u : Int} {A : Ar} (h : qz1o x y z u A = true) : (A.guides.length : Int) = u /\ ∀ g (hg : g < A.guides.length), 0 <= A.guides[g] /\ A.guides[g] < (A.nodes.length : Int) := by
 have h1 := (qz2a h).1
 have h2 := (qz2a h).2.2.1
 simp only [qz7j, Bool.and_eq_true, beq_iff_eq] at h1
 refine ⟨h1.1.1.2, fun g hg => ?_⟩
 have := (qz2o _ _).1 h2 g hg
 simp only [qz1b] at this
 omega
def qz4c (x y z u : Int) (A : Ar) (key : Int) : Int :=
 if 0 <= qz40 x y z u key /\ (ndOf A (A.guides.getD (qz40 x y z u key).toNat 0)).key < key then A.guides.getD (qz40 x y z u key).toNat 0 else 0
theorem qzb8 (x y z u k : Int) (h : 0 <= qz40 x y z u k) : qz40 x y z u k < u := by
 unfold qz40 at h ⊢
 split at h
 ·rename_i hh
  rw [if_pos hh]
  simp only [Bool.and_eq_true] at hh
  have hp := (qz28 x y z u).1 hh.1
  have hk := (qz1b _ _ _).1 hh.2
  have : k * u / 64 <= u := by
   apply Int.ediv_le_of_le_mul (by omega)
   have : k * u <= 64 * u := Int.mul_le_mul_of_nonneg_right (by omega) (by omega)
   omega
  omega
 ·omega
theorem qz9c (B : Nat) (A : Ar) (x y z u key : Int) (a0 a1 a2 a3 : Option Addr) (c0 c1 c2 c3 : Nat) (w : World) (hB : B <= w.heap.size) (hA : A.size <= 1048576) (I : qz25 B w (.slice a0 A.slots.length c0) (.slice a1 A.guides.length c1) (.slice a2 A.nodes.length c2) (.slice a3 A.vers.length c3) A) (hOk : qz1o x y z u A = true) :
  Calls Try.prog 117 #[.agg #[.int .i64 x, .int .i64 y, .int .i64 z, .int .i64 u], .agg #[.int .i64 A.camera, .slice a0 A.slots.length c0, .slice a1 A.guides.length c1, .slice a2 A.nodes.length c2, .slice a3 A.vers.length c3], .int .i64 key] w fun e w' => e = .returned (.int .i64 (qz4c x y z u A key)) /\ Below w.heap.size w w' := by
 unfold Ar.size at hA
 have P0 := (qz1t w x y z u 25).below ((Below.refl _ _).alloc (Nat.le_refl _) (.cells #[.int .i64 A.camera, .slice a0 A.slots.length c0, .slice a1 A.guides.length c1, .slice a2 A.nodes.length c2, .slice a3 A.vers.length c3] 38)) (by simp)
 have X0 : World.rangeAt ((w.alloc (.cells #[.int .i64 x, .int .i64 y, .int .i64 z, .int .i64 u] 25)).alloc (.cells #[.int .i64 A.camera, .slice a0 A.slots.length c0, .slice a1 A.guides.length c1, .slice a2 A.nodes.length c2, .slice a3 A.vers.length c3] 38)) (w.heap.size + 1) 0 [.int .i64 A.camera, .slice a0 A.slots.length c0, .slice a1 A.guides.length c1, .slice a2 A.nodes.length c2, .slice a3 A.vers.length c3] := by
  have h := qzd (w.alloc (.cells #[.int .i64 x, .int .i64 y, .int .i64 z, .int .i64 u] 25)) [.int .i64 A.camera, .slice a0 A.slots.length c0, .slice a1 A.guides.length c1, .slice a2 A.nodes.length c2, .slice a3 A.vers.length c3] 38
  simp only [World.size_alloc] at h
  exact h
 have K0 := ((Below.refl w.heap.size w).alloc (Nat.le_refl _) (.cells #[.int .i64 x, .int .i64 y, .int .i64 z, .int .i64 u] 25)).alloc (by simp) (.cells #[.int .i64 A.camera, .slice a0 A.slots.length c0, .slice a1 A.guides.length c1, .slice a2 A.nodes.length c2, .slice a3 A.vers.length c3] 38)
 have hz0 : w.heap.size + 1 < ((w.alloc (.cells #[.int .i64 x, .int .i64 y, .int .i64 z, .int .i64 u] 25)).alloc (.cells #[.int .i64 A.camera, .slice a0 A.slots.length c0, .slice a1 A.guides.length c1, .slice a2 A.nodes.length c2, .slice a3 A.vers.length c3] 38)).heap.size := by simp
 obtain ⟨p0, p1, p2, p3⟩ := P0
 go_enter Try.func117, Try.ntmps117
 go_wp2_with fail
 refine (qz6d x y z u key _).mono ?_
 rintro e w1 ⟨rfl, b1⟩
 have X1 := qz0 X0 b1 hz0
 have K1 := K0.trans (b1.mono (by omega))
 have I1 := I.below (K1.mono hB)
 clear p0 p1 p2 p3 X0 K0 b1 I
 obtain ⟨x0, x1, x2, x3, x4⟩ := row5 X1
 by_cases hg0 : 0 <= qz40 x y z u key
 case neg =>
  have hv : Hid (qz4c x y z u A key = 0) := by show _ = _; simp [qz4c, hg0]
  go_wp2_with fail
  have hg2 : ¬ (0 <= qz40 x y z u key) := by omega
  go_quiet (fail)
  go_wp2
  go_ret
  exact ⟨by rw [hv.out]; rfl, ⟨K1.os, K1.tape, K1.output, K1.size, K1.block⟩⟩
 have hgu := qzb8 x y z u key hg0
 obtain ⟨hgl, hgs⟩ := qz7o hOk
 obtain ⟨g, hg⟩ : ∃ g : Nat, qz40 x y z u key = g := ⟨(qz40 x y z u key).toNat, by omega⟩
 have hgn : g < A.guides.length := by omega
 have hgn' : (g : Int) < (A.guides.length : Int) := by omega
 have hgn0 : (0 : Int) <= (g : Int) := by omega
 obtain ⟨m0, m1⟩ := hgs g hgn
 obtain ⟨m, hm⟩ : ∃ m : Nat, A.guides[g] = m := ⟨A.guides[g].toNat, by omega⟩
 have hml : m < A.nodes.length := by omega
 have hml' : (m : Int) < (A.nodes.length : Int) := by omega
 have hml0 : (0 : Int) <= (m : Int) := by omega
 have hgd : A.guides.getD (qz40 x y z u key).toNat 0 = (m : Int) := by rw [hg, Int.toNat_natCast, List.getD_eq_getElem?_getD, List.getElem?_eq_getElem hgn, Option.getD_some, hm]
 obtain ⟨bg, og, rfl, hbg, RG⟩ := qz14.at I1.g (by omega)
 obtain ⟨bn, on, rfl, hbn, RN⟩ := qz14.at I1.n (by omega)
 have n0 : w1.cell? ⟨bn, on + m * 3, none⟩ = some (.int .i64 A.nodes[m].key) := by simpa using (qzu (sz := 3) (fun _ => rfl) RN m hml) 0 _ rfl
 have g0 : w1.cell? ⟨bg, og + g, none⟩ = some (.int .i64 m) := by have := (qzu (sz := 1) (fun _ => rfl) RG g hgn) 0 (.int .i64 A.guides[g]) rfl; rw [hm] at this; simpa using this
 have hnd : ndOf A (m : Int) = A.nodes[m] := qz24 A m hml
 have hvv : Hid (qz4c x y z u A key = if A.nodes[m].key < key then (m : Int) else 0) := by
  show _ = _
  unfold qz4c
  rw [hgd, hnd]
  by_cases hc : A.nodes[m].key < key
  ·rw [if_pos ⟨hg0, hc⟩, if_pos hc]
  ·rw [if_neg (fun h => hc h.2), if_neg hc]
 rw [hg]
 clear RG RN hgd hg0 hgu hgl hgs hm hg
 by_cases hc : A.nodes[m].key < key
 ·have hv : Hid (qz4c x y z u A key = (m : Int)) := by show _ = _; rw [hvv.out, if_pos hc]
  go_wp2_with fail
  go_quiet (fail)
  go_wp2
  go_ret
  exact ⟨by rw [hv.out]; rfl, ⟨K1.os, K1.tape, K1.output, K1.size, K1.block⟩⟩
 ·have hv : Hid (qz4c x y z u A key = 0) := by show _ = _; rw [hvv.out, if_neg hc]
  go_wp2_with fail
  go_quiet (fail)
  go_wp2
  go_ret
  exact ⟨by rw [hv.out]; rfl, ⟨K1.os, K1.tape, K1.output, K1.size, K1.block⟩⟩
structure Dd where
 kind : Int
 key : Int
 value : Int
 stamp : Int
 clock : Int
def ddC (d : Dd) : List Value := [.int .i64 d.kind, .int .i64 d.key, .int .i64 d.value, .int .i64 d.stamp, .int .i64 d.clock]
def qz3j : Dd := ⟨0, 0, 0, 0, 0⟩
def qzam (A : Ar) (h : Hd) : Int := if (vrOf A h.ver).kind = 1 then max (vrOf A h.ver).next 0 else h.x_
def qz45 (A : Ar) (h : Hd) : Dd := if (vrOf A h.ver).kind = 0 then qz3j else ⟨(vrOf A h.ver).kind, (ndOf A (qzam A h)).key, (ndOf A (qzam A h)).value, h.cam, h.camAt⟩
theorem qz74 (d : Dd) : (Try.prog.info? 144).map (fun i => i.size) = some (ddC d).toArray.size := by
 show _ = some 5
 kernel_rfl
theorem qz57 (d : Dd) : (Try.prog.info? 144).map (fun i => i.size) = some (ddC d).length := by
 show _ = some 5
 kernel_rfl
theorem qz8t (d : Dd) : (ddC d).toArray.all (·.oneCell') = true := by simp [ddC, Value.oneCell']
theorem qza9 (B : Nat) (A : Ar) (h : Hd) (a0 a1 a2 a3 : Option Addr) (c0 c1 c2 c3 : Nat) (w : World) (hB : B <= w.heap.size) (hA : A.size <= 1048576) (I : qz25 B w (.slice a0 A.slots.length c0) (.slice a1 A.guides.length c1) (.slice a2 A.nodes.length c2) (.slice a3 A.vers.length c3) A) (x y z u : Int) (hOk : qz1o x y z u A = true) (hv0 : 0 <= h.ver) (hv1 : h.ver < (A.vers.length : Int)) (hx0 : 0 <= h.x_) (hx1 : h.x_ < (A.nodes.length : Int)) :
  Calls Try.prog 122 #[.agg #[.int .i64 A.camera, .slice a0 A.slots.length c0, .slice a1 A.guides.length c1, .slice a2 A.nodes.length c2, .slice a3 A.vers.length c3], .agg (hdC h).toArray] w fun e w' => e = .returned (.agg (ddC (qz45 A h)).toArray) /\ Below w.heap.size w w' := by
 unfold Ar.size at hA
 have X0 := World.rangeAt_alloc (World.rangeAt_alloc (qzd w [.int .i64 A.camera, .slice a0 A.slots.length c0, .slice a1 A.guides.length c1, .slice a2 A.nodes.length c2, .slice a3 A.vers.length c3] 38) (.cells (hdC h).toArray 27)) (.cells #[.int .i64 0, .int .i64 0, .int .i64 0, .int .i64 0, .int .i64 0] 144)
 have H0 := World.rangeAt_alloc (qzd (w.alloc (.cells #[.int .i64 A.camera, .slice a0 A.slots.length c0, .slice a1 A.guides.length c1, .slice a2 A.nodes.length c2, .slice a3 A.vers.length c3] 38)) (hdC h) 27) (.cells #[.int .i64 0, .int .i64 0, .int .i64 0, .int .i64 0, .int .i64 0] 144)
 have G0 := World.there_alloc (qzh (w.alloc (.cells #[.int .i64 A.camera, .slice a0 A.slots.length c0, .slice a1 A.guides.length c1, .slice a2 A.nodes.length c2, .slice a3 A.vers.length c3] 38)) (hdC h).toArray 27 22 (by simp [hdC])) (.cells #[.int .i64 0, .int .i64 0, .int .i64 0, .int .i64 0, .int .i64 0] 144)
 have F0 := qzh ((w.alloc (.cells #[.int .i64 A.camera, .slice a0 A.slots.length c0, .slice a1 A.guides.length c1, .slice a2 A.nodes.length c2, .slice a3 A.vers.length c3] 38)).alloc (.cells (hdC h).toArray 27)) #[.int .i64 0, .int .i64 0, .int .i64 0, .int .i64 0, .int .i64 0] 144 5 (by decide)
 have K0 := (((Below.refl w.heap.size w).alloc (Nat.le_refl _) (.cells #[.int .i64 A.camera, .slice a0 A.slots.length c0, .slice a1 A.guides.length c1, .slice a2 A.nodes.length c2, .slice a3 A.vers.length c3] 38)).alloc (by simp) (.cells (hdC h).toArray 27)).alloc (by simp; omega) (.cells #[.int .i64 0, .int .i64 0, .int .i64 0, .int .i64 0, .int .i64 0] 144)
 have hz0 : w.heap.size + 1 + 1 < (((w.alloc (.cells #[.int .i64 A.camera, .slice a0 A.slots.length c0, .slice a1 A.guides.length c1, .slice a2 A.nodes.length c2, .slice a3 A.vers.length c3] 38)).alloc (.cells (hdC h).toArray 27)).alloc (.cells #[.int .i64 0, .int .i64 0, .int .i64 0, .int .i64 0, .int .i64 0] 144)).heap.size := by simp
 simp only [World.size_alloc] at H0 G0 F0
 have I0 := I.below (K0.mono hB)
 go_enter Try.func122, Try.ntmps122
 have tok : True := trivial
 go_wp2_with (clear tok; refine qz2e (((w.alloc (.cells #[.int .i64 A.camera, .slice a0 A.slots.length c0, .slice a1 A.guides.length c1, .slice a2 A.nodes.length c2, .slice a3 A.vers.length c3] 38)).alloc (.cells (hdC h).toArray 27)).alloc (.cells #[.int .i64 0, .int .i64 0, .int .i64 0, .int .i64 0, .int .i64 0] 144)) ?_)
 generalize hw0 : ((w.alloc (.cells #[.int .i64 A.camera, .slice a0 A.slots.length c0, .slice a1 A.guides.length c1, .slice a2 A.nodes.length c2, .slice a3 A.vers.length c3] 38)).alloc (.cells (hdC h).toArray 27)).alloc (.cells #[.int .i64 0, .int .i64 0, .int .i64 0, .int .i64 0, .int .i64 0] 144) = w0 at *
 clear hw0 I
 show wpList _ _ _ _ _ w0
 obtain ⟨v, hv⟩ : ∃ v : Nat, h.ver = v := ⟨h.ver.toNat, by omega⟩
 have hvl : v < A.vers.length := by omega
 have hvl' : (v : Int) < (A.vers.length : Int) := by omega
 have hvl0 : (0 : Int) <= (v : Int) := by omega
 have hvr : vrOf A h.ver = A.vers[v] := by rw [hv, qz32 A v hvl]
 have hver := qz4l hOk v hvl
 obtain ⟨bb, off, rfl, hbb, R⟩ := qz14.at I0.r (by omega)
 have V5 := qzu (sz := 5) (fun _ => rfl) R v hvl
 have v0 : w0.cell? ⟨bb, off + v * 5, none⟩ = some (.int .i64 A.vers[v].next) := by simpa using V5 0 _ rfl
 have v1 : w0.cell? ⟨bb, off + v * 5 + 1, none⟩ = some (.bool A.vers[v].gone) := V5 1 _ rfl
 have v2 : w0.cell? ⟨bb, off + v * 5 + 2, none⟩ = some (.int .i64 A.vers[v].stamp) := V5 2 _ rfl
 have v3 : w0.cell? ⟨bb, off + v * 5 + 3, none⟩ = some (.int .i64 A.vers[v].prev) := V5 3 _ rfl
 have v4 : w0.cell? ⟨bb, off + v * 5 + 4, none⟩ = some (.int .i64 A.vers[v].kind) := V5 4 _ rfl
 have x4 : w0.cell? ⟨w.heap.size, 4, none⟩ = some (.slice (some ⟨bb, off, none⟩) A.vers.length c3) := by simpa using X0 4 _ rfl
 have q11 : w0.cell? ⟨w.heap.size + 1, 11, none⟩ = some (.int .i64 h.ver) := by simpa using H0 11 (.int .i64 h.ver) rfl
 rw [hv] at q11
 clear R V5
 have tok : True := trivial
 go_wp2_with (clear tok; refine qz2e (w0.alloc (.cells #[.int .i64 A.vers[v].next, .bool A.vers[v].gone, .int .i64 A.vers[v].stamp, .int .i64 A.vers[v].prev, .int .i64 A.vers[v].kind] 62)) ?_)
 have al := (Below.refl w0.heap.size w0).alloc (Nat.le_refl _) (.cells #[.int .i64 A.vers[v].next, .bool A.vers[v].gone, .int .i64 A.vers[v].stamp, .int .i64 A.vers[v].prev, .int .i64 A.vers[v].kind] 62)
 have VB1 := qzd w0 [.int .i64 A.vers[v].next, .bool A.vers[v].gone, .int .i64 A.vers[v].stamp, .int .i64 A.vers[v].prev, .int .i64 A.vers[v].kind] 62
 have X1 := qz0 X0 al (by omega)
 have H1 := qz0 H0 al (by omega)
 have G1 := qz6 G0 al (by omega)
 have F1 := qz6 F0 al (by omega)
 have K1 := K0.trans (al.mono (by omega))
 have I1 := I0.below (al.mono (by omega))
 have hz1 := Nat.lt_of_lt_of_le hz0 al.size
 have hl1 : w0.heap.size < (w0.alloc (.cells #[.int .i64 A.vers[v].next, .bool A.vers[v].gone, .int .i64 A.vers[v].stamp, .int .i64 A.vers[v].prev, .int .i64 A.vers[v].kind] 62)).heap.size := by simp
 generalize hw1 : w0.alloc (.cells #[.int .i64 A.vers[v].next, .bool A.vers[v].gone, .int .i64 A.vers[v].stamp, .int .i64 A.vers[v].prev, .int .i64 A.vers[v].kind] 62) = w1 at *
 show wpList _ _ _ _ _ w1
 clear hw1 al X0 H0 G0 F0 K0 I0
 clear v0 v1 v2 v3 v4 x4 q11
 have hvH : Hid (h.ver = v) := hv
 clear hv hvl' hvl0
 obtain ⟨x0, x1, x2, x3, x4⟩ := row5 X1
 have q10 : w1.cell? ⟨w.heap.size + 1, 10, none⟩ = some (.int .i64 h.x_) := by simpa using H1 10 (.int .i64 h.x_) rfl
 have q12 : w1.cell? ⟨w.heap.size + 1, 12, none⟩ = some (.int .i64 h.cam) := by simpa using H1 12 (.int .i64 h.cam) rfl
 have q13 : w1.cell? ⟨w.heap.size + 1, 13, none⟩ = some (.int .i64 h.camAt) := by simpa using H1 13 (.int .i64 h.camAt) rfl
 have v0 : w1.cell? ⟨w0.heap.size, 0, none⟩ = some (.int .i64 A.vers[v].next) := by simpa using VB1 0 _ rfl
 have v4 : w1.cell? ⟨w0.heap.size, 4, none⟩ = some (.int .i64 A.vers[v].kind) := by simpa using VB1 4 _ rfl
 by_cases k0 : A.vers[v].kind = 0
 case pos =>
  have hd : Hid (qz45 A h = qz3j) := by show _ = _; simp [qz45, hvr, k0]
  go_upto_region 6 with fail
  go_wp2_with (refine wpList_store_mid rfl 144 (.tmp 4) _ rfl (w.heap.size + 1 + 1) 0 (ddC qz3j).toArray ?dx1 ?dy1 ?dt1 (qz74 _) (qz8t _) ?_)
  try (case dx1 => rfl)
  try (case dy1 => rfl)
  try (case dt1 => exact F1)
  refine bodyPost_ret (v := .agg (ddC qz3j).toArray) ?_ rfl ⟨by rw [hd.out], ?_⟩
  ·exact qz5 Try.results122 _ _ (w.heap.size + 1 + 1) 0 rfl (ddC qz3j) _ (World.rangeAt_setCells_same _ _ _ _ F1) Try.underlying144 rfl (qz57 _)
  ·exact Below.setCells (by omega) _ _ _ K1
 have b0 : (A.vers[v].kind == 0) = false := by simp [k0]
 by_cases k1 : A.vers[v].kind = 1
 case pos =>
  obtain ⟨n, hn⟩ : ∃ n : Nat, max A.vers[v].next 0 = n := ⟨(max A.vers[v].next 0).toNat, by omega⟩
  have hdn : qzam A h = (n : Int) := by unfold qzam; rw [hvr, if_pos k1, hn]
  have hnl : n < A.nodes.length := by omega
  have hnl' : (n : Int) < (A.nodes.length : Int) := by omega
  have hnl0 : (0 : Int) <= (n : Int) := by omega
  have hnd : ndOf A (n : Int) = A.nodes[n] := qz24 A n hnl
  obtain ⟨bn, on, rfl, hbn, RN⟩ := qz14.at I1.n (by omega)
  have N3 := qzu (sz := 3) (fun _ => rfl) RN n hnl
  have n0 : w1.cell? ⟨bn, on + n * 3, none⟩ = some (.int .i64 A.nodes[n].key) := by simpa using N3 0 _ rfl
  have n1 : w1.cell? ⟨bn, on + n * 3 + 1, none⟩ = some (.int .i64 A.nodes[n].value) := N3 1 _ rfl
  clear RN N3
  obtain ⟨D', hD⟩ : ∃ D' : Dd, Hid (D' = ⟨1, A.nodes[n].key, A.nodes[n].value, h.cam, h.camAt⟩) := by exact ⟨_, rfl⟩
  have hd : Hid (qz45 A h = D') := by show _ = _; rw [hD.out]; unfold qz45; rw [hvr, if_neg k0, hdn, hnd, k1]
  go_upto_region 7 with (first | (go_at_call 110; refine (qz1a _ _ _).mono ?_; rintro e w' ⟨rfl, hw⟩; obtain rfl := hw.symm))
  clear hn
  refine qz3i 18 (by kernel_rfl) (by kernel_rfl) ?_
  simp only [List.take_succ_cons, List.take_zero, List.drop_succ_cons, List.drop_zero]
  repeat (quiet_step (fail))
  refine wpQuiet_nil ?_
  rintro _ ⟨nr, rfl⟩
  have FR : (w1.drewN nr).there (w.heap.size + 1 + 1) 0 5 := F1
  have KR : Below w.heap.size w (w1.drewN nr) := ⟨K1.os, K1.tape, K1.output, K1.size, K1.block⟩
  go_wp2_with (refine wpList_store_mid rfl 144 (.tmp 4) _ rfl (w.heap.size + 1 + 1) 0 (ddC D').toArray ?dx2 ?dy2 ?dt2 (qz74 _) (qz8t _) ?_)
  try (case dx2 => rfl)
  try (case dy2 => rw [hD.out]; rfl)
  try (case dt2 => exact FR)
  refine bodyPost_ret (v := .agg (ddC D').toArray) ?_ rfl ⟨by rw [hd.out], ?_⟩
  ·exact qz5 Try.results122 _ _ (w.heap.size + 1 + 1) 0 rfl (ddC D') _ (World.rangeAt_setCells_same _ _ _ _ FR) Try.underlying144 rfl (qz57 _)
  ·exact Below.setCells (by omega) _ _ _ KR
 have b1 : (A.vers[v].kind == 1) = false := by simp [k1]
 obtain ⟨n, hn⟩ : ∃ n : Nat, h.x_ = n := ⟨h.x_.toNat, by omega⟩
 have hdn : qzam A h = (n : Int) := by unfold qzam; rw [hvr, if_neg k1, hn]
 rw [hn] at q10
 have hnl : n < A.nodes.length := by omega
 have hnl' : (n : Int) < (A.nodes.length : Int) := by omega
 have hnl0 : (0 : Int) <= (n : Int) := by omega
 have hnd : ndOf A (n : Int) = A.nodes[n] := qz24 A n hnl
 obtain ⟨bn, on, rfl, hbn, RN⟩ := qz14.at I1.n (by omega)
 have N3 := qzu (sz := 3) (fun _ => rfl) RN n hnl
 have n0 : w1.cell? ⟨bn, on + n * 3, none⟩ = some (.int .i64 A.nodes[n].key) := by simpa using N3 0 _ rfl
 have n1 : w1.cell? ⟨bn, on + n * 3 + 1, none⟩ = some (.int .i64 A.nodes[n].value) := N3 1 _ rfl
 clear RN N3
 obtain ⟨D', hD⟩ : ∃ D' : Dd, Hid (D' = ⟨A.vers[v].kind, A.nodes[n].key, A.nodes[n].value, h.cam, h.camAt⟩) := by exact ⟨_, rfl⟩
 have hd : Hid (qz45 A h = D') := by show _ = _; rw [hD.out]; unfold qz45; rw [hvr, if_neg k0, hdn, hnd]
 go_upto_region 7 with (first | (go_at_call 110; refine (qz1a _ _ _).mono ?_; rintro e w' ⟨rfl, hw⟩; obtain rfl := hw.symm))
 clear hn
 refine qz3i 18 (by kernel_rfl) (by kernel_rfl) ?_
 simp only [List.take_succ_cons, List.take_zero, List.drop_succ_cons, List.drop_zero]
 repeat (quiet_step (fail))
 refine wpQuiet_nil ?_
 rintro _ ⟨nr, rfl⟩
 have FR : (w1.drewN nr).there (w.heap.size + 1 + 1) 0 5 := F1
 have KR : Below w.heap.size w (w1.drewN nr) := ⟨K1.os, K1.tape, K1.output, K1.size, K1.block⟩
 go_wp2_with (refine wpList_store_mid rfl 144 (.tmp 4) _ rfl (w.heap.size + 1 + 1) 0 (ddC D').toArray ?dx3 ?dy3 ?dt3 (qz74 _) (qz8t _) ?_)
 try (case dx3 => rfl)
 try (case dy3 => rw [hD.out]; rfl)
 try (case dt3 => exact FR)
 refine bodyPost_ret (v := .agg (ddC D').toArray) ?_ rfl ⟨by rw [hd.out], ?_⟩
 ·exact qz5 Try.results122 _ _ (w.heap.size + 1 + 1) 0 rfl (ddC D') _ (World.rangeAt_setCells_same _ _ _ _ FR) Try.underlying144 rfl (qz57 _)
 ·exact Below.setCells (by omega) _ _ _ KR
end
section
attribute [local go_sem ↓] Go.wp_at_zero Go.wp_at_succ
def qze (cam : Int) (s g n r : Value) (h : Hd) (d : Dd) (tk : Bool) : List Value := [.int .i64 cam, s, g, n, r] ++ (hdC h ++ (ddC d ++ [.bool tk]))
theorem qz2n (cam : Int) (s g n r : Value) (h : Hd) (d : Dd) (tk : Bool) : (qze cam s g n r h d tk).length = 33 := rfl
theorem qz2u {w : World} {b o : Nat} {p q : List Value} (R : w.rangeAt b o (p ++ q)) : w.rangeAt b o p /\ w.rangeAt b (o + p.length) q := by
 constructor
 ·intro j v hj
  have hlt : j < p.length := by
   rcases Nat.lt_or_ge j p.length with h | h
   ·exact h
   ·rw [List.getElem?_eq_none h] at hj; cases hj
  exact R j v (by rw [List.getElem?_append_left hlt]; exact hj)
 ·intro j v hj
  have := R (p.length + j) v (by rw [List.getElem?_append_right (by omega)]; simpa using hj)
  rw [<- Nat.add_assoc] at this
  exact this
theorem qz3e {w : World} {b o : Nat} {p q : List Value} (R : w.rangeAt b o p) (R' : w.rangeAt b (o + p.length) q) : w.rangeAt b o (p ++ q) := by
 intro j v hj
 rcases Nat.lt_or_ge j p.length with h | h
 ·rw [List.getElem?_append_left h] at hj
  exact R j v hj
 ·rw [List.getElem?_append_right h] at hj
  have := R' (j - p.length) v hj
  rw [show o + p.length + (j - p.length) = o + j by omega] at this
  exact this
theorem qzw {w : World} {b : Nat} {cam : Int} {s g n r : Value} {h : Hd} {d : Dd} {tk : Bool} (R : w.rangeAt b 0 (qze cam s g n r h d tk)) : w.rangeAt b 0 [.int .i64 cam, s, g, n, r] /\ w.rangeAt b 5 (hdC h) /\ w.rangeAt b 27 (ddC d) /\ w.cell? ⟨b, 32, none⟩ = some (.bool tk) := by
 unfold qze at R
 obtain ⟨R1, R2⟩ := qz2u R
 obtain ⟨R3, R4⟩ := qz2u R2
 obtain ⟨R5, R6⟩ := qz2u R4
 refine ⟨R1, R3, R5, ?_⟩
 have := R6 0 (.bool tk) rfl
 exact this
theorem qz96 {w : World} {b : Nat} {cam : Int} {s g n r : Value} {h : Hd} {d : Dd} {tk : Bool} (R : w.rangeAt b 0 (qze cam s g n r h d tk)) (T : w.there b 5 22) (h' : Hd) : (w.setCells b 5 (hdC h')).rangeAt b 0 (qze cam s g n r h' d tk) := by
 unfold qze at R
 obtain ⟨R1, R2⟩ := qz2u R
 obtain ⟨R3, R4⟩ := qz2u R2
 unfold qze
 refine qz3e (World.rangeAt_setCells_apart R1 _ _ _ (Or.inr (Or.inl (by simp)))) (qz3e (World.rangeAt_setCells_same w b 5 (hdC h') T) ?_)
 exact World.rangeAt_setCells_apart R4 _ _ _ (Or.inr (Or.inr (by simp [hdC])))
theorem qzt (cam : Int) (s g n r : Value) (h : Hd) (d : Dd) (tk : Bool) : (Try.prog.info? 147).map (fun i => i.size) = some (qze cam s g n r h d tk).toArray.size := by
 show _ = some 33
 kernel_rfl
theorem qz9 (cam : Int) (s g n r : Value) (h : Hd) (d : Dd) (tk : Bool) : (Try.prog.info? 147).map (fun i => i.size) = some (qze cam s g n r h d tk).length := by
 show _ = some 33
 kernel_rfl
theorem qz13 (cam : Int) (a0 a1 a2 a3 : Option Addr) (l0 l1 l2 l3 c0 c1 c2 c3 : Nat) (h : Hd) (d : Dd) (tk : Bool) : (qze cam (.slice a0 l0 c0) (.slice a1 l1 c1) (.slice a2 l2 c2) (.slice a3 l3 c3) h d tk).toArray.all (·.oneCell') = true := by simp [qze, hdC, ddC, Value.oneCell']
def qz8h (A : Ar) (h : Hd) : Hd :=
 if (vrOf A h.ver).prev < 0 then qzb h 7 0 0
 else if qz2x A (vrOf A h.ver).prev = true /\ (vrOf A (vrOf A h.ver).prev).stamp <= h.held then useH A { h with ver := (vrOf A h.ver).prev } else { h with ver := (vrOf A h.ver).prev }
end
section
attribute [local go_sem ↓] Go.wp_at_zero Go.wp_at_succ
structure Cl where
 proc : Int
 code : Int
 key : Int
 value : Int
 begin : Int
 end_ : Int
 reply : Int
 out : Int
 sum : Int
 held : Int
def clC (c : Cl) : List Value := [.int .i64 c.proc, .int .i64 c.code, .int .i64 c.key, .int .i64 c.value, .int .i64 c.begin, .int .i64 c.end_, .int .i64 c.reply, .int .i64 c.out, .int .i64 c.sum, .int .i64 c.held]
structure Wd where
 A : Ar
 hands : List Hd
 calls : List Cl
 deeds : List Dd
 ticks : List Int
 now : Int
def Wd.size (W : Wd) : Nat := W.A.size + W.hands.length + W.calls.length + W.deeds.length + W.ticks.length
def wdC (x y z u cam : Int) (s g n r hs cs ds ts : Value) (now : Int) : List Value := [.int .i64 x, .int .i64 y, .int .i64 z, .int .i64 u, .int .i64 cam, s, g, n, r, hs, cs, ds, ts, .int .i64 now]
theorem qzd0 : ∀ (x : Hd), ∀ u ∈ hdC x, u.oneCell' = true := by
 intro x u hu
 have := qzf x
 rw [Array.all_eq_true'] at this
 exact this u (by simpa using hu)
theorem qz93 : ∀ (x : Cl), ∀ u ∈ clC x, u.oneCell' = true := by
 intro x u hu
 simp only [clC, List.mem_cons, List.not_mem_nil, or_false] at hu
 rcases hu with rfl | rfl | rfl | rfl | rfl | rfl | rfl | rfl | rfl | rfl <;> rfl
theorem qzc9 : ∀ (x : Dd), ∀ u ∈ ddC x, u.oneCell' = true := by
 intro x u hu
 simp only [ddC, List.mem_cons, List.not_mem_nil, or_false] at hu
 rcases hu with rfl | rfl | rfl | rfl | rfl <;> rfl
theorem qzbu : (Try.prog.info? 27).map (fun i => (i.zero, i.size, i.bytes)) = some (some (.agg #[.int .i64 0, .int .i64 0, .int .i64 0, .int .i64 0, .int .i64 0, .int .i64 0, .int .i64 0, .int .i64 0, .int .i64 0, .int .i64 0, .int .i64 0, .int .i64 0, .int .i64 0, .int .i64 0, .int .i64 0, .int .i64 0, .int .i64 0, .int .i64 0, .int .i64 0, .int .i64 0, .int .i64 0, .int .i64 0]), 22, 176) := by kernel_rfl
theorem qz5v : (Try.prog.info? 141).map (fun i => (i.zero, i.size, i.bytes)) = some (some (.agg #[.int .i64 0, .int .i64 0, .int .i64 0, .int .i64 0, .int .i64 0, .int .i64 0, .int .i64 0, .int .i64 0, .int .i64 0, .int .i64 0]), 10, 80) := by kernel_rfl
theorem qz94 : (Try.prog.info? 144).map (fun i => (i.zero, i.size, i.bytes)) = some (some (.agg #[.int .i64 0, .int .i64 0, .int .i64 0, .int .i64 0, .int .i64 0]), 5, 40) := by kernel_rfl
theorem qzcj : (Try.prog.info? 2).map (fun i => (i.zero, i.size, i.bytes)) = some (some (.int .i64 0), 1, 8) := by kernel_rfl
theorem qzm : (Try.prog.info? 43).map (fun i => i.size) = some 14 := by kernel_rfl
theorem qzn : (Try.prog.info? 25).map (fun i => i.size) = some 4 := by kernel_rfl
structure WdIs (B : Nat) (w : World) (s g n r hs cs ds ts : Value) (W : Wd) : Prop where
 ar : qz25 B w s g n r W.A
 h : qz14 B w hs W.hands.length (qzq hdC W.hands)
 c : qz14 B w cs W.calls.length (qzq clC W.calls)
 d : qz14 B w ds W.deeds.length (qzq ddC W.deeds)
 t : qz14 B w ts W.ticks.length (qzq intC W.ticks)
theorem WdIs.below {B : Nat} {w w' : World} {s g n r hs cs ds ts : Value} {W : Wd} (I : WdIs B w s g n r hs cs ds ts W) (hb : Below B w w') : WdIs B w' s g n r hs cs ds ts W :=
 ⟨I.ar.below hb, I.h.below hb, I.c.below hb, I.d.below hb, I.t.below hb⟩
structure qz83 (base : Nat) (w : World) (s g n r hs cs ds ts : Value) (W : Wd) : Prop where
 ar : qz38 base w s g n r W.A
 h : w.ownsRow base 27 22 hs W.hands.length (qzq hdC W.hands)
 c : w.ownsRow base 141 10 cs W.calls.length (qzq clC W.calls)
 d : w.ownsRow base 144 5 ds W.deeds.length (qzq ddC W.deeds)
 t : w.ownsRow base 2 1 ts W.ticks.length (qzq intC W.ticks)
theorem qz83.is {base : Nat} {w : World} {s g n r hs cs ds ts : Value} {W : Wd} (O : qz83 base w s g n r hs cs ds ts W) : WdIs w.heap.size w s g n r hs cs ds ts W :=
 ⟨O.ar.is, qz2t O.h, qz2t O.c, qz2t O.d, qz2t O.t⟩
theorem qz83.lo {base base' : Nat} {w : World} {s g n r hs cs ds ts : Value} {W : Wd} (O : qz83 base w s g n r hs cs ds ts W) (hb : base' <= base) : qz83 base' w s g n r hs cs ds ts W :=
 ⟨O.ar.lo hb, qz26 O.h hb, qz26 O.c hb, qz26 O.d hb, qz26 O.t hb⟩
theorem qz83.only {base b : Nat} {w w' : World} {s g n r hs cs ds ts : Value} {W : Wd} (O : qz83 base w s g n r hs cs ds ts W) (hb : Only b w w') (hl : b < base) : qz83 base w' s g n r hs cs ds ts W :=
 ⟨O.ar.only hb hl, qz10 O.h hb (fun j e => by have := qz1l O.h e; omega), qz10 O.c hb (fun j e => by have := qz1l O.c e; omega), qz10 O.d hb (fun j e => by have := qz1l O.d e; omega), qz10 O.t hb (fun j e => by have := qz1l O.t e; omega)⟩
theorem qz4y {P : Program} (w : World) (base : Nat) (t ty e : TypeId) (i : TypeInfo) (z : Value) (size bytes : Nat) (ht : P.underlying t = some (.slice e)) (hi : P.info? e = some i) (hz : i.zero = some z)
  (hsize : i.size = size) (hby : i.bytes = bytes) (hzs : z.cells.size = size) (hsz : 0 < size) (g : Nat) (hown : w.ownsRow base e size (.slice (some ⟨g, 0, none⟩) 0 0) 0 [])
  (B : Nat) (x : Value) (len : Nat) (cs : List Value) (S : qz14 B w x len cs) (hl : cs.length = len * size) (h1 : ∀ u ∈ cs, u.oneCell' = true) (h63 : len <= maxLen) (hbytes : len * bytes <= 140737488355328) (hbase : base <= w.heap.size) :
  ∃ v' w', (Builtin.append_ #[t, t] ty #[.slice (some ⟨g, 0, none⟩) 0 0, x]).run P w = .ok v' w' /\ w'.ownsRow base e size v' len cs /\ Below w.heap.size w w' := by
 rcases Nat.eq_zero_or_pos len with h0 | hp
 ·subst h0
  have hc : cs = [] := List.eq_nil_of_length_eq_zero (by simpa using hl)
  subst hc
  obtain ⟨a, cap, rfl, _⟩ := S
  have hs : Src P i.size t (.slice a 0 cap) 0 [] w := by
   cases a with
   | none => exact Src.ofNil w ht cap
   | some ad => exact Src.ofSlice w ht ad 0 cap [] (by simp) (fun j u h => by cases h) (fun u h => by cases h)
  have hr := run_append_room_src (P := P) w t t ty e i ht hi g 0 0 0 (.slice a 0 cap) 0 [] hs (by omega) (by simp) (by simp)
  exact ⟨_, _, hr, hown, Below.refl _ _⟩
 ·obtain ⟨cap, w', hrun, how, hbl, _⟩ := qz52 (P := P) w base t ty e i z size bytes ht hi hz hsize hby hzs hsz g B x len cs S hp hl h1 h63 hbytes hbase
  exact ⟨_, w', hrun, how, hbl⟩
def qzci (b bs : Nat) (x y z u : Int) (W : Wd) (a0 a1 a2 a3 a4 a5 a6 a7 : Option Addr) (c0 c1 c2 c3 c4 c5 c6 c7 : Nat) : Nat -> Value -> World -> Prop
 | 0, v, _ => v = .pointer (some ⟨b, 0, none⟩)
 | 1, v, _ => v = .agg #[.int .i64 x, .int .i64 y, .int .i64 z, .int .i64 u]
 | 2, v, _ => v = .pointer (some ⟨b, 4, none⟩)
 | 3, v, _ => v = .agg #[.int .i64 W.A.camera, .slice a0 W.A.slots.length c0, .slice a1 W.A.guides.length c1, .slice a2 W.A.nodes.length c2, .slice a3 W.A.vers.length c3]
 | 4, v, w => ∃ s g n r, v = .agg #[.int .i64 W.A.camera, s, g, n, r] /\ qz38 bs w s g n r W.A
 | 5, v, w => ∃ g, v = .slice (some ⟨g, 0, none⟩) 0 0 /\ w.ownsRow bs 27 22 (.slice (some ⟨g, 0, none⟩) 0 0) 0 []
 | 6, v, _ => v = .pointer (some ⟨b, 9, none⟩)
 | 7, v, _ => v = .slice a4 W.hands.length c4
 | 8, v, w => w.ownsRow bs 27 22 v W.hands.length (qzq hdC W.hands)
 | 9, v, w => ∃ g, v = .slice (some ⟨g, 0, none⟩) 0 0 /\ w.ownsRow bs 141 10 (.slice (some ⟨g, 0, none⟩) 0 0) 0 []
 | 10, v, _ => v = .pointer (some ⟨b, 10, none⟩)
 | 11, v, _ => v = .slice a5 W.calls.length c5
 | 12, v, w => w.ownsRow bs 141 10 v W.calls.length (qzq clC W.calls)
 | 13, v, w => ∃ g, v = .slice (some ⟨g, 0, none⟩) 0 0 /\ w.ownsRow bs 144 5 (.slice (some ⟨g, 0, none⟩) 0 0) 0 []
 | 14, v, _ => v = .pointer (some ⟨b, 11, none⟩)
 | 15, v, _ => v = .slice a6 W.deeds.length c6
 | 16, v, w => w.ownsRow bs 144 5 v W.deeds.length (qzq ddC W.deeds)
 | 17, v, _ => v = .pointer (some ⟨b, 12, none⟩)
 | 18, v, _ => v = .slice a7 W.ticks.length c7
 | 19, v, w => w.ownsRow bs 2 1 v W.ticks.length (qzq intC W.ticks)
 | 20, v, _ => v = .pointer (some ⟨b, 13, none⟩)
 | 21, v, _ => v = .int .i64 W.now
 | _, _, _ => True
theorem qz9w {b bs : Nat} {x y z u : Int} {W : Wd} {a0 a1 a2 a3 a4 a5 a6 a7 : Option Addr} {c0 c1 c2 c3 c4 c5 c6 c7 : Nat} (i : Nat) (v : Value) (w w' : World) (h : qzci b bs x y z u W a0 a1 a2 a3 a4 a5 a6 a7 c0 c1 c2 c3 c4 c5 c6 c7 i v w) (hb : Below w.heap.size w w') : qzci b bs x y z u W a0 a1 a2 a3 a4 a5 a6 a7 c0 c1 c2 c3 c4 c5 c6 c7 i v w' := by
 match i, h with
 | 0, h => exact h
 | 1, h => exact h
 | 2, h => exact h
 | 3, h => exact h
 | 4, h => obtain ⟨s, g, n, r, e, O⟩ := h; exact ⟨s, g, n, r, e, O.below hb⟩
 | 5, h => obtain ⟨g, e, O⟩ := h; exact ⟨g, e, qz1v O hb⟩
 | 6, h => exact h
 | 7, h => exact h
 | 8, h => exact qz1v h hb
 | 9, h => obtain ⟨g, e, O⟩ := h; exact ⟨g, e, qz1v O hb⟩
 | 10, h => exact h
 | 11, h => exact h
 | 12, h => exact qz1v h hb
 | 13, h => obtain ⟨g, e, O⟩ := h; exact ⟨g, e, qz1v O hb⟩
 | 14, h => exact h
 | 15, h => exact h
 | 16, h => exact qz1v h hb
 | 17, h => exact h
 | 18, h => exact h
 | 19, h => exact qz1v h hb
 | 20, h => exact h
 | 21, h => exact h
 | i + 22, h => exact trivial
theorem qzc2 {w : World} {b : Nat} {v0 v1 v2 v3 v4 v5 v6 v7 v8 v9 v10 v11 v12 v13 : Value} (R : w.rangeAt b 0 [v0, v1, v2, v3, v4, v5, v6, v7, v8, v9, v10, v11, v12, v13]) :
  w.cell? ⟨b, 0, none⟩ = some v0 /\ w.cell? ⟨b, 1, none⟩ = some v1 /\ w.cell? ⟨b, 2, none⟩ = some v2 /\ w.cell? ⟨b, 3, none⟩ = some v3 /\ w.cell? ⟨b, 4, none⟩ = some v4 /\ w.cell? ⟨b, 5, none⟩ = some v5 /\ w.cell? ⟨b, 6, none⟩ = some v6 /\ w.cell? ⟨b, 7, none⟩ = some v7 /\ w.cell? ⟨b, 8, none⟩ = some v8 /\ w.cell? ⟨b, 9, none⟩ = some v9 /\ w.cell? ⟨b, 10, none⟩ = some v10 /\ w.cell? ⟨b, 11, none⟩ = some v11 /\ w.cell? ⟨b, 12, none⟩ = some v12 /\ w.cell? ⟨b, 13, none⟩ = some v13 :=
 ⟨by simpa using R 0 v0 rfl, by simpa using R 1 v1 rfl, by simpa using R 2 v2 rfl, by simpa using R 3 v3 rfl, by simpa using R 4 v4 rfl, by simpa using R 5 v5 rfl, by simpa using R 6 v6 rfl, by simpa using R 7 v7 rfl, by simpa using R 8 v8 rfl, by simpa using R 9 v9 rfl, by simpa using R 10 v10 rfl, by simpa using R 11 v11 rfl, by simpa using R 12 v12 rfl, by simpa using R 13 v13 rfl⟩
theorem qz6t (B : Nat) (x y z u : Int) (W : Wd) (a0 a1 a2 a3 a4 a5 a6 a7 : Option Addr) (c0 c1 c2 c3 c4 c5 c6 c7 : Nat) (w : World) (hB : B <= w.heap.size) (hW : W.size <= 1048576) (I : WdIs B w (.slice a0 W.A.slots.length c0) (.slice a1 W.A.guides.length c1) (.slice a2 W.A.nodes.length c2) (.slice a3 W.A.vers.length c3) (.slice a4 W.hands.length c4) (.slice a5 W.calls.length c5) (.slice a6 W.deeds.length c6) (.slice a7 W.ticks.length c7) W) (hs : 0 < W.A.slots.length) (hg : 0 < W.A.guides.length) (hn : 0 < W.A.nodes.length) (hr : 0 < W.A.vers.length) :
  Calls Try.prog 91 #[.agg #[.int .i64 x, .int .i64 y, .int .i64 z, .int .i64 u, .int .i64 W.A.camera, .slice a0 W.A.slots.length c0, .slice a1 W.A.guides.length c1, .slice a2 W.A.nodes.length c2, .slice a3 W.A.vers.length c3, .slice a4 W.hands.length c4, .slice a5 W.calls.length c5, .slice a6 W.deeds.length c6, .slice a7 W.ticks.length c7, .int .i64 W.now]] w fun e w' => ∃ s g n r hs cs ds ts, e = .returned (.agg (wdC x y z u W.A.camera s g n r hs cs ds ts W.now).toArray) /\ qz83 w.heap.size w' s g n r hs cs ds ts W /\ Below w.heap.size w w' := by
 have hA : W.A.size <= 1048576 := by unfold Wd.size at hW; omega
 unfold Wd.size at hW
 have X0 := World.rangeAt_alloc (qzd w [.int .i64 x, .int .i64 y, .int .i64 z, .int .i64 u, .int .i64 W.A.camera, .slice a0 W.A.slots.length c0, .slice a1 W.A.guides.length c1, .slice a2 W.A.nodes.length c2, .slice a3 W.A.vers.length c3, .slice a4 W.hands.length c4, .slice a5 W.calls.length c5, .slice a6 W.deeds.length c6, .slice a7 W.ticks.length c7, .int .i64 W.now] 43) (.cells #[.int .i64 0, .int .i64 0, .int .i64 0, .int .i64 0, .int .i64 0, .slice none 0 0, .slice none 0 0, .slice none 0 0, .slice none 0 0, .slice none 0 0, .slice none 0 0, .slice none 0 0, .slice none 0 0, .int .i64 0] 43)
 have F0 := qzh (w.alloc (.cells #[.int .i64 x, .int .i64 y, .int .i64 z, .int .i64 u, .int .i64 W.A.camera, .slice a0 W.A.slots.length c0, .slice a1 W.A.guides.length c1, .slice a2 W.A.nodes.length c2, .slice a3 W.A.vers.length c3, .slice a4 W.hands.length c4, .slice a5 W.calls.length c5, .slice a6 W.deeds.length c6, .slice a7 W.ticks.length c7, .int .i64 W.now] 43)) #[.int .i64 0, .int .i64 0, .int .i64 0, .int .i64 0, .int .i64 0, .slice none 0 0, .slice none 0 0, .slice none 0 0, .slice none 0 0, .slice none 0 0, .slice none 0 0, .slice none 0 0, .slice none 0 0, .int .i64 0] 43 14 (by decide)
 have K0 := ((Below.refl w.heap.size w).alloc (Nat.le_refl _) (.cells #[.int .i64 x, .int .i64 y, .int .i64 z, .int .i64 u, .int .i64 W.A.camera, .slice a0 W.A.slots.length c0, .slice a1 W.A.guides.length c1, .slice a2 W.A.nodes.length c2, .slice a3 W.A.vers.length c3, .slice a4 W.hands.length c4, .slice a5 W.calls.length c5, .slice a6 W.deeds.length c6, .slice a7 W.ticks.length c7, .int .i64 W.now] 43)).alloc (by simp) (.cells #[.int .i64 0, .int .i64 0, .int .i64 0, .int .i64 0, .int .i64 0, .slice none 0 0, .slice none 0 0, .slice none 0 0, .slice none 0 0, .slice none 0 0, .slice none 0 0, .slice none 0 0, .slice none 0 0, .int .i64 0] 43)
 have hz0 : w.heap.size + 1 < ((w.alloc (.cells #[.int .i64 x, .int .i64 y, .int .i64 z, .int .i64 u, .int .i64 W.A.camera, .slice a0 W.A.slots.length c0, .slice a1 W.A.guides.length c1, .slice a2 W.A.nodes.length c2, .slice a3 W.A.vers.length c3, .slice a4 W.hands.length c4, .slice a5 W.calls.length c5, .slice a6 W.deeds.length c6, .slice a7 W.ticks.length c7, .int .i64 W.now] 43)).alloc (.cells #[.int .i64 0, .int .i64 0, .int .i64 0, .int .i64 0, .int .i64 0, .slice none 0 0, .slice none 0 0, .slice none 0 0, .slice none 0 0, .slice none 0 0, .slice none 0 0, .slice none 0 0, .slice none 0 0, .int .i64 0] 43)).heap.size := by simp
 simp only [World.size_alloc] at F0
 have I0 := I.below (K0.mono hB)
 go_enter Try.func91, Try.ntmps91
 go_wp2_with fail
 generalize hw0 : (w.alloc (.cells #[.int .i64 x, .int .i64 y, .int .i64 z, .int .i64 u, .int .i64 W.A.camera, .slice a0 W.A.slots.length c0, .slice a1 W.A.guides.length c1, .slice a2 W.A.nodes.length c2, .slice a3 W.A.vers.length c3, .slice a4 W.hands.length c4, .slice a5 W.calls.length c5, .slice a6 W.deeds.length c6, .slice a7 W.ticks.length c7, .int .i64 W.now] 43)).alloc (.cells #[.int .i64 0, .int .i64 0, .int .i64 0, .int .i64 0, .int .i64 0, .slice none 0 0, .slice none 0 0, .slice none 0 0, .slice none 0 0, .slice none 0 0, .slice none 0 0, .slice none 0 0, .slice none 0 0, .int .i64 0] 43) = w0 at *
 clear hw0 I
 refine qz2k 22 (by kernel_rfl) (qzci w.heap.size (w.heap.size + 2) x y z u W a0 a1 a2 a3 a4 a5 a6 a7 c0 c1 c2 c3 c4 c5 c6 c7) (fun _ => false) (by kernel_rfl) (by kernel_rfl) (by kernel_rfl) (by kernel_rfl) (by rfl) (fun i v w w' _ h hb => qz9w i v w w' h hb) (fun i v w q hf h hq => by cases hf) ?step ?final
 case step =>
  intro i o hik ho a V hb hnn hd K hK
  have XV := qz0 X0 hb (by omega)
  obtain ⟨x0, x1, x2, x3, x4, x5, x6, x7, x8, x9, x10, x11, x12, x13⟩ := qzc2 XV
  have IV := I0.below (hb.mono (by omega))
  have hzV := hb.size
  match i, ho with
  | 0, ho =>
   obtain rfl := Option.some.inj ho
   have e1 : a.eval (.tmp 1) = .pointer (some ⟨w.heap.size, 0, none⟩) := hnn 1 rfl
   refine qz2 (v := .pointer (some ⟨w.heap.size, 0, none⟩)) (w' := V) ?_ (hK _ _ rfl (Below.refl _ _) (fun h => by cases h))
   generalize a.eval = ev at *
   go_simp
  | 1, ho =>
   obtain rfl := Option.some.inj ho
   exact qzz 25 (.tmp 3) rfl w.heap.size 0 (hd ⟨0, .data⟩ (by simp) rfl 3 rfl) [.int .i64 x, .int .i64 y, .int .i64 z, .int .i64 u] _ (fun j v hv => XV j v (by match j, hv with | 0, h => exact h | 1, h => exact h | 2, h => exact h | 3, h => exact h)) Try.underlying25 rfl qzn (hK _ _ rfl (Below.refl _ _) (fun h => by cases h))
  | 2, ho =>
   obtain rfl := Option.some.inj ho
   have e1 : a.eval (.tmp 1) = .pointer (some ⟨w.heap.size, 0, none⟩) := hnn 1 rfl
   refine qz2 (v := .pointer (some ⟨w.heap.size, 4, none⟩)) (w' := V) ?_ (hK _ _ rfl (Below.refl _ _) (fun h => by cases h))
   generalize a.eval = ev at *
   go_simp
  | 3, ho =>
   obtain rfl := Option.some.inj ho
   exact qzz 38 (.tmp 5) rfl w.heap.size 4 (hd ⟨2, .data⟩ (by simp) rfl 5 rfl) [.int .i64 W.A.camera, .slice a0 W.A.slots.length c0, .slice a1 W.A.guides.length c1, .slice a2 W.A.nodes.length c2, .slice a3 W.A.vers.length c3] _ (fun j v hv => by match j, hv with | 0, h => exact XV 4 v h | 1, h => exact XV 5 v h | 2, h => exact XV 6 v h | 3, h => exact XV 7 v h | 4, h => exact XV 8 v h) Try.underlying38 rfl qz2q (hK _ _ rfl (Below.refl _ _) (fun h => by cases h))
  | 4, ho =>
   obtain rfl := Option.some.inj ho
   have e1 : a.eval (.tmp 6) = .agg #[.int .i64 W.A.camera, .slice a0 W.A.slots.length c0, .slice a1 W.A.guides.length c1, .slice a2 W.A.nodes.length c2, .slice a3 W.A.vers.length c3] := hd ⟨3, .data⟩ (by simp) rfl 6 rfl
   have ef : a.eval (.func 106) = .func (.func 106) #[] #[] := rfl
   refine qz2i (f := 106) (args := #[.agg #[.int .i64 W.A.camera, .slice a0 W.A.slots.length c0, .slice a1 W.A.guides.length c1, .slice a2 W.A.nodes.length c2, .slice a3 W.A.vers.length c3]]) (R := fun v w' => (∃ s g n r, v = .agg #[.int .i64 W.A.camera, s, g, n, r] /\ qz38 V.heap.size w' s g n r W.A) /\ Below V.heap.size V w') ?_ ((qz7k B W.A a0 a1 a2 a3 c0 c1 c2 c3 V (by omega) hA IV.ar hs hg hn hr).mono (fun e w' h => by obtain ⟨s, g, n, r, e, O, K⟩ := h; exact ⟨_, e, ⟨s, g, n, r, rfl, O⟩, K⟩)) (fun v w' h => hK v w' (by obtain ⟨⟨s, g, n, r, e, O⟩, _⟩ := h; exact ⟨s, g, n, r, e, O.lo (by omega)⟩) h.2 (fun h => by cases h))
   generalize a.eval = ev at *
   go_simp
  | 5, ho =>
   obtain rfl := Option.some.inj ho
   have O0 := World.ownsRow_lit (base := V.heap.size) (e := 27) (size := 22) V #[] 0 (by simp) (by decide) (by simp)
   refine qz2 (v := .slice (some ⟨V.heap.size, 0, none⟩) 0 0) (w' := V.alloc (.cells #[] 27)) ?_ (hK _ _ ⟨_, rfl, qz26 O0 (by omega)⟩ ((Below.refl _ _).alloc (Nat.le_refl _) _) (fun h => by cases h))
   generalize a.eval = ev at *
   go_simp
  | 6, ho =>
   obtain rfl := Option.some.inj ho
   have e1 : a.eval (.tmp 1) = .pointer (some ⟨w.heap.size, 0, none⟩) := hnn 1 rfl
   refine qz2 (v := .pointer (some ⟨w.heap.size, 9, none⟩)) (w' := V) ?_ (hK _ _ rfl (Below.refl _ _) (fun h => by cases h))
   generalize a.eval = ev at *
   go_simp
  | 7, ho =>
   obtain rfl := Option.some.inj ho
   have e1 : a.eval (.tmp 9) = .pointer (some ⟨w.heap.size, 9, none⟩) := hd ⟨6, .data⟩ (by simp) rfl 9 rfl
   refine qz2 (v := .slice a4 W.hands.length c4) (w' := V) ?_ (hK _ _ rfl (Below.refl _ _) (fun h => by cases h))
   generalize a.eval = ev at *
   go_simp
  | 8, ho =>
   obtain rfl := Option.some.inj ho
   obtain ⟨g, e1, Og⟩ := (show ∃ g, a.eval (.tmp 8) = .slice (some ⟨g, 0, none⟩) 0 0 /\ V.ownsRow (w.heap.size + 2) 27 22 (.slice (some ⟨g, 0, none⟩) 0 0) 0 [] from hd ⟨5, .data⟩ (by simp) rfl 8 rfl)
   have e2 : a.eval (.tmp 10) = .slice a4 W.hands.length c4 := hd ⟨7, .data⟩ (by simp) rfl 10 rfl
   obtain ⟨i0, hi, hzr, hsz, hby⟩ := info_parts qzbu
   obtain ⟨v', w', hrun, how, hbl⟩ := qz4y (P := Try.prog) V (w.heap.size + 2) 39 39 27 i0 _ 22 176 Try.underlying39 hi hzr hsz hby rfl (by decide) g Og B _ W.hands.length (qzq hdC W.hands) IV.h (by rw [qz2h (sz := 22) (fun _ => rfl)]) (qz3l qzd0 W.hands) (by unfold maxLen; omega) (by omega) (by omega)
   refine qz2 (v := v') (w' := w') ?_ (hK _ _ how hbl (fun h => by cases h))
   generalize a.eval = ev at *
   simp [execOp, resolve, invoke, builtin, e1, e2, hrun, Result.andThen]
  | 9, ho =>
   obtain rfl := Option.some.inj ho
   have O0 := World.ownsRow_lit (base := V.heap.size) (e := 141) (size := 10) V #[] 0 (by simp) (by decide) (by simp)
   refine qz2 (v := .slice (some ⟨V.heap.size, 0, none⟩) 0 0) (w' := V.alloc (.cells #[] 141)) ?_ (hK _ _ ⟨_, rfl, qz26 O0 (by omega)⟩ ((Below.refl _ _).alloc (Nat.le_refl _) _) (fun h => by cases h))
   generalize a.eval = ev at *
   go_simp
  | 10, ho =>
   obtain rfl := Option.some.inj ho
   have e1 : a.eval (.tmp 1) = .pointer (some ⟨w.heap.size, 0, none⟩) := hnn 1 rfl
   refine qz2 (v := .pointer (some ⟨w.heap.size, 10, none⟩)) (w' := V) ?_ (hK _ _ rfl (Below.refl _ _) (fun h => by cases h))
   generalize a.eval = ev at *
   go_simp
  | 11, ho =>
   obtain rfl := Option.some.inj ho
   have e1 : a.eval (.tmp 13) = .pointer (some ⟨w.heap.size, 10, none⟩) := hd ⟨10, .data⟩ (by simp) rfl 13 rfl
   refine qz2 (v := .slice a5 W.calls.length c5) (w' := V) ?_ (hK _ _ rfl (Below.refl _ _) (fun h => by cases h))
   generalize a.eval = ev at *
   go_simp
  | 12, ho =>
   obtain rfl := Option.some.inj ho
   obtain ⟨g, e1, Og⟩ := (show ∃ g, a.eval (.tmp 12) = .slice (some ⟨g, 0, none⟩) 0 0 /\ V.ownsRow (w.heap.size + 2) 141 10 (.slice (some ⟨g, 0, none⟩) 0 0) 0 [] from hd ⟨9, .data⟩ (by simp) rfl 12 rfl)
   have e2 : a.eval (.tmp 14) = .slice a5 W.calls.length c5 := hd ⟨11, .data⟩ (by simp) rfl 14 rfl
   obtain ⟨i0, hi, hzr, hsz, hby⟩ := info_parts qz5v
   obtain ⟨v', w', hrun, how, hbl⟩ := qz4y (P := Try.prog) V (w.heap.size + 2) 40 40 141 i0 _ 10 80 Try.underlying40 hi hzr hsz hby rfl (by decide) g Og B _ W.calls.length (qzq clC W.calls) IV.c (by rw [qz2h (sz := 10) (fun _ => rfl)]) (qz3l qz93 W.calls) (by unfold maxLen; omega) (by omega) (by omega)
   refine qz2 (v := v') (w' := w') ?_ (hK _ _ how hbl (fun h => by cases h))
   generalize a.eval = ev at *
   simp [execOp, resolve, invoke, builtin, e1, e2, hrun, Result.andThen]
  | 13, ho =>
   obtain rfl := Option.some.inj ho
   have O0 := World.ownsRow_lit (base := V.heap.size) (e := 144) (size := 5) V #[] 0 (by simp) (by decide) (by simp)
   refine qz2 (v := .slice (some ⟨V.heap.size, 0, none⟩) 0 0) (w' := V.alloc (.cells #[] 144)) ?_ (hK _ _ ⟨_, rfl, qz26 O0 (by omega)⟩ ((Below.refl _ _).alloc (Nat.le_refl _) _) (fun h => by cases h))
   generalize a.eval = ev at *
   go_simp
  | 14, ho =>
   obtain rfl := Option.some.inj ho
   have e1 : a.eval (.tmp 1) = .pointer (some ⟨w.heap.size, 0, none⟩) := hnn 1 rfl
   refine qz2 (v := .pointer (some ⟨w.heap.size, 11, none⟩)) (w' := V) ?_ (hK _ _ rfl (Below.refl _ _) (fun h => by cases h))
   generalize a.eval = ev at *
   go_simp
  | 15, ho =>
   obtain rfl := Option.some.inj ho
   have e1 : a.eval (.tmp 17) = .pointer (some ⟨w.heap.size, 11, none⟩) := hd ⟨14, .data⟩ (by simp) rfl 17 rfl
   refine qz2 (v := .slice a6 W.deeds.length c6) (w' := V) ?_ (hK _ _ rfl (Below.refl _ _) (fun h => by cases h))
   generalize a.eval = ev at *
   go_simp
  | 16, ho =>
   obtain rfl := Option.some.inj ho
   obtain ⟨g, e1, Og⟩ := (show ∃ g, a.eval (.tmp 16) = .slice (some ⟨g, 0, none⟩) 0 0 /\ V.ownsRow (w.heap.size + 2) 144 5 (.slice (some ⟨g, 0, none⟩) 0 0) 0 [] from hd ⟨13, .data⟩ (by simp) rfl 16 rfl)
   have e2 : a.eval (.tmp 18) = .slice a6 W.deeds.length c6 := hd ⟨15, .data⟩ (by simp) rfl 18 rfl
   obtain ⟨i0, hi, hzr, hsz, hby⟩ := info_parts qz94
   obtain ⟨v', w', hrun, how, hbl⟩ := qz4y (P := Try.prog) V (w.heap.size + 2) 41 41 144 i0 _ 5 40 Try.underlying41 hi hzr hsz hby rfl (by decide) g Og B _ W.deeds.length (qzq ddC W.deeds) IV.d (by rw [qz2h (sz := 5) (fun _ => rfl)]) (qz3l qzc9 W.deeds) (by unfold maxLen; omega) (by omega) (by omega)
   refine qz2 (v := v') (w' := w') ?_ (hK _ _ how hbl (fun h => by cases h))
   generalize a.eval = ev at *
   simp [execOp, resolve, invoke, builtin, e1, e2, hrun, Result.andThen]
  | 17, ho =>
   obtain rfl := Option.some.inj ho
   have e1 : a.eval (.tmp 1) = .pointer (some ⟨w.heap.size, 0, none⟩) := hnn 1 rfl
   refine qz2 (v := .pointer (some ⟨w.heap.size, 12, none⟩)) (w' := V) ?_ (hK _ _ rfl (Below.refl _ _) (fun h => by cases h))
   generalize a.eval = ev at *
   go_simp
  | 18, ho =>
   obtain rfl := Option.some.inj ho
   have e1 : a.eval (.tmp 20) = .pointer (some ⟨w.heap.size, 12, none⟩) := hd ⟨17, .data⟩ (by simp) rfl 20 rfl
   refine qz2 (v := .slice a7 W.ticks.length c7) (w' := V) ?_ (hK _ _ rfl (Below.refl _ _) (fun h => by cases h))
   generalize a.eval = ev at *
   go_simp
  | 19, ho =>
   obtain rfl := Option.some.inj ho
   have e1 : a.eval (.tmp 21) = .slice a7 W.ticks.length c7 := hd ⟨18, .data⟩ (by simp) rfl 21 rfl
   have ef : a.eval (.func 107) = .func (.func 107) #[] #[] := rfl
   refine qz2i (f := 107) (args := #[.slice a7 W.ticks.length c7]) (R := fun v w' => w'.ownsRow V.heap.size 2 1 v W.ticks.length (qzq intC W.ticks) /\ Below V.heap.size V w') ?_ ((qz65 B _ W.ticks V (by omega) (by omega) IV.t).mono (fun e w' h => h)) (fun v w' h => hK v w' (qz26 h.1 (by omega)) h.2 (fun h => by cases h))
   generalize a.eval = ev at *
   go_simp
  | 20, ho =>
   obtain rfl := Option.some.inj ho
   have e1 : a.eval (.tmp 1) = .pointer (some ⟨w.heap.size, 0, none⟩) := hnn 1 rfl
   refine qz2 (v := .pointer (some ⟨w.heap.size, 13, none⟩)) (w' := V) ?_ (hK _ _ rfl (Below.refl _ _) (fun h => by cases h))
   generalize a.eval = ev at *
   go_simp
  | 21, ho =>
   obtain rfl := Option.some.inj ho
   have e1 : a.eval (.tmp 23) = .pointer (some ⟨w.heap.size, 13, none⟩) := hd ⟨20, .data⟩ (by simp) rfl 23 rfl
   refine qz2 (v := .int .i64 W.now) (w' := V) ?_ (hK _ _ rfl (Below.refl _ _) (fun h => by cases h))
   generalize a.eval = ev at *
   go_simp
  | n + 22, ho => omega
 case final =>
  intro vs V hb hG hD
  have g1 : vs 1 = .agg #[.int .i64 x, .int .i64 y, .int .i64 z, .int .i64 u] := hG 1 (by decide)
  obtain ⟨s, g, n, r, g4, O4⟩ := (show ∃ s g n r, vs 4 = .agg #[.int .i64 W.A.camera, s, g, n, r] /\ qz38 (w.heap.size + 2) V s g n r W.A from hG 4 (by decide))
  have g8 : V.ownsRow (w.heap.size + 2) 27 22 (vs 8) W.hands.length (qzq hdC W.hands) := hG 8 (by decide)
  have g12 : V.ownsRow (w.heap.size + 2) 141 10 (vs 12) W.calls.length (qzq clC W.calls) := hG 12 (by decide)
  have g16 : V.ownsRow (w.heap.size + 2) 144 5 (vs 16) W.deeds.length (qzq ddC W.deeds) := hG 16 (by decide)
  have g19 : V.ownsRow (w.heap.size + 2) 2 1 (vs 19) W.ticks.length (qzq intC W.ticks) := hG 19 (by decide)
  have g21 : vs 21 = .int .i64 W.now := hG 21 (by decide)
  have OW : qz83 (w.heap.size + 2) V s g n r (vs 8) (vs 12) (vs 16) (vs 19) W := ⟨O4, g8, g12, g16, g19⟩
  have FW := qz6 F0 hb (by omega)
  have KW := K0.trans (hb.mono (by omega))
  generalize hl : laid _ vs _ _ _ = A'
  have hA' : A' = { tmps := #[.agg #[.int .i64 x, .int .i64 y, .int .i64 z, .int .i64 u, .int .i64 W.A.camera, .slice a0 W.A.slots.length c0, .slice a1 W.A.guides.length c1, .slice a2 W.A.nodes.length c2, .slice a3 W.A.vers.length c3, .slice a4 W.hands.length c4, .slice a5 W.calls.length c5, .slice a6 W.deeds.length c6, .slice a7 W.ticks.length c7, .int .i64 W.now], .pointer (some ⟨w.heap.size, 0, none⟩), .pointer (some ⟨w.heap.size + 1, 0, none⟩), vs 0, vs 1, vs 2, vs 3, vs 4, vs 5, vs 6, vs 7, vs 8, vs 9, vs 10, vs 11, vs 12, vs 13, vs 14, vs 15, vs 16, vs 17, vs 18, vs 19, vs 20, vs 21, undef], defers := [] } := by
   rw [<- hl]
   kernel_rfl
  subst hA'
  rw [g1, g4, g21]
  obtain ⟨sa, sc, es⟩ := qzk O4.rs
  obtain ⟨ga, gc, eg⟩ := qzk O4.rg
  obtain ⟨na, nc, en⟩ := qzk O4.rn
  obtain ⟨ra, rc, er⟩ := qzk O4.rr
  obtain ⟨ha, hc, eh⟩ := qzk g8
  obtain ⟨ca, cc, ec⟩ := qzk g12
  obtain ⟨da, dc, ed⟩ := qzk g16
  obtain ⟨ta, tc, et⟩ := qzk g19
  rw [es, eg, en, er, eh, ec, ed, et] at OW
  rw [es, eg, en, er, eh, ec, ed, et]
  clear hl hG hD g1 g4 g8 g12 g16 g19 g21 O4 es eg en er eh ec ed et X0 F0 I0 K0
  have OF : qz83 w.heap.size (V.setCells (w.heap.size + 1) 0 [.int .i64 x, .int .i64 y, .int .i64 z, .int .i64 u, .int .i64 W.A.camera, .slice sa W.A.slots.length sc, .slice ga W.A.guides.length gc, .slice na W.A.nodes.length nc, .slice ra W.A.vers.length rc, .slice ha W.hands.length hc, .slice ca W.calls.length cc, .slice da W.deeds.length dc, .slice ta W.ticks.length tc, .int .i64 W.now]) (.slice sa W.A.slots.length sc) (.slice ga W.A.guides.length gc) (.slice na W.A.nodes.length nc) (.slice ra W.A.vers.length rc) (.slice ha W.hands.length hc) (.slice ca W.calls.length cc) (.slice da W.deeds.length dc) (.slice ta W.ticks.length tc) W := (OW.only (qz8 (w.heap.size + 1) _ 0 V) (by omega)).lo (by omega)
  have KF := Below.setCells (B := w.heap.size) (b := w.heap.size + 1) (by omega) [.int .i64 x, .int .i64 y, .int .i64 z, .int .i64 u, .int .i64 W.A.camera, .slice sa W.A.slots.length sc, .slice ga W.A.guides.length gc, .slice na W.A.nodes.length nc, .slice ra W.A.vers.length rc, .slice ha W.hands.length hc, .slice ca W.calls.length cc, .slice da W.deeds.length dc, .slice ta W.ticks.length tc, .int .i64 W.now] 0 _ KW
  go_wp2_with (refine wpList_store_mid rfl 43 (.tmp 2) (.tmp 25) rfl (w.heap.size + 1) 0 #[.int .i64 x, .int .i64 y, .int .i64 z, .int .i64 u, .int .i64 W.A.camera, .slice sa W.A.slots.length sc, .slice ga W.A.guides.length gc, .slice na W.A.nodes.length nc, .slice ra W.A.vers.length rc, .slice ha W.hands.length hc, .slice ca W.calls.length cc, .slice da W.deeds.length dc, .slice ta W.ticks.length tc, .int .i64 W.now] ?hx ?hy ?ht ?hi ?h1 ?_)
  case hx => rfl
  case hy => rfl
  case ht => exact FW
  case hi => exact qzm
  case h1 => simp [Value.oneCell']
  refine bodyPost_ret (v := .agg #[.int .i64 x, .int .i64 y, .int .i64 z, .int .i64 u, .int .i64 W.A.camera, .slice sa W.A.slots.length sc, .slice ga W.A.guides.length gc, .slice na W.A.nodes.length nc, .slice ra W.A.vers.length rc, .slice ha W.hands.length hc, .slice ca W.calls.length cc, .slice da W.deeds.length dc, .slice ta W.ticks.length tc, .int .i64 W.now]) ?_ rfl ⟨_, _, _, _, _, _, _, _, rfl, OF, KF⟩
  exact qz5 Try.results91 _ _ (w.heap.size + 1) 0 rfl [.int .i64 x, .int .i64 y, .int .i64 z, .int .i64 u, .int .i64 W.A.camera, .slice sa W.A.slots.length sc, .slice ga W.A.guides.length gc, .slice na W.A.nodes.length nc, .slice ra W.A.vers.length rc, .slice ha W.hands.length hc, .slice ca W.calls.length cc, .slice da W.deeds.length dc, .slice ta W.ticks.length tc, .int .i64 W.now] _ (World.rangeAt_setCells_same _ _ _ _ FW) Try.underlying43 rfl qzm
end
end Go.Proofs.Ytclkglkhhnapiaa
