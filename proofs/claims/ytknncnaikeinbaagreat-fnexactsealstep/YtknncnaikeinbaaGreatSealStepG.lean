/-
  What the law's proof goes by, part 7.
-/
import Derived.Test.YtknncnaikeinbaaGreatSealStepF
namespace Go.Proofs.YtknncnaikeinbaaGreat
open Go.ChangeShapes Go.WideShapes Go.ChangeAt Go.RowKit
set_option maxRecDepth 100000
set_option maxHeartbeats 16000000
set_option linter.unusedVariables false
set_option linter.unusedSimpArgs false
set_option linter.unnecessarySimpa false
set_option linter.unusedSectionVars false
section
attribute [local go_sem ↓] Go.wp_at_zero Go.wp_at_succ
theorem qz2n (h : Hd) (n : Int) (w : World)  :
  Calls Tryz.prog 120 #[.agg (hdC h).toArray, .int .i64 n] w fun e w' => e = .returned (.agg (hdC (qzw { h with x_ := n } 2)).toArray) /\ Below w.heap.size w w' := by
 have H0 := World.rangeAt_alloc (qz5 w (hdC h) 36) (.cells #[.int .i64 0, .int .i64 0, .int .i64 0, .int .i64 0, .int .i64 0, .int .i64 0, .int .i64 0, .int .i64 0, .int .i64 0, .int .i64 0, .int .i64 0, .int .i64 0, .int .i64 0, .int .i64 0, .int .i64 0, .int .i64 0, .int .i64 0, .int .i64 0, .int .i64 0, .int .i64 0, .int .i64 0, .int .i64 0] 36)
 have G0 := World.there_alloc (qzf w (hdC h).toArray 36 22 (by simp [hdC])) (.cells #[.int .i64 0, .int .i64 0, .int .i64 0, .int .i64 0, .int .i64 0, .int .i64 0, .int .i64 0, .int .i64 0, .int .i64 0, .int .i64 0, .int .i64 0, .int .i64 0, .int .i64 0, .int .i64 0, .int .i64 0, .int .i64 0, .int .i64 0, .int .i64 0, .int .i64 0, .int .i64 0, .int .i64 0, .int .i64 0] 36)
 have F0 := qzf (w.alloc (.cells (hdC h).toArray 36)) #[.int .i64 0, .int .i64 0, .int .i64 0, .int .i64 0, .int .i64 0, .int .i64 0, .int .i64 0, .int .i64 0, .int .i64 0, .int .i64 0, .int .i64 0, .int .i64 0, .int .i64 0, .int .i64 0, .int .i64 0, .int .i64 0, .int .i64 0, .int .i64 0, .int .i64 0, .int .i64 0, .int .i64 0, .int .i64 0] 36 22 (by decide)
 have K0 := (((Below.refl w.heap.size w).alloc (Nat.le_refl _) (.cells (hdC h).toArray 36)).alloc (by simp) (.cells #[.int .i64 0, .int .i64 0, .int .i64 0, .int .i64 0, .int .i64 0, .int .i64 0, .int .i64 0, .int .i64 0, .int .i64 0, .int .i64 0, .int .i64 0, .int .i64 0, .int .i64 0, .int .i64 0, .int .i64 0, .int .i64 0, .int .i64 0, .int .i64 0, .int .i64 0, .int .i64 0, .int .i64 0, .int .i64 0] 36))
 have hz0 : w.heap.size + 1 < ((w.alloc (.cells (hdC h).toArray 36)).alloc (.cells #[.int .i64 0, .int .i64 0, .int .i64 0, .int .i64 0, .int .i64 0, .int .i64 0, .int .i64 0, .int .i64 0, .int .i64 0, .int .i64 0, .int .i64 0, .int .i64 0, .int .i64 0, .int .i64 0, .int .i64 0, .int .i64 0, .int .i64 0, .int .i64 0, .int .i64 0, .int .i64 0, .int .i64 0, .int .i64 0] 36)).heap.size := by simp
 simp only [World.size_alloc] at F0
 go_enter Tryz.func120, Tryz.ntmps120
 have tok : True := trivial
 go_wp2_with (clear tok; refine qz24 ((w.alloc (.cells (hdC h).toArray 36)).alloc (.cells #[.int .i64 0, .int .i64 0, .int .i64 0, .int .i64 0, .int .i64 0, .int .i64 0, .int .i64 0, .int .i64 0, .int .i64 0, .int .i64 0, .int .i64 0, .int .i64 0, .int .i64 0, .int .i64 0, .int .i64 0, .int .i64 0, .int .i64 0, .int .i64 0, .int .i64 0, .int .i64 0, .int .i64 0, .int .i64 0] 36)) ?_)
 generalize hw0 : (w.alloc (.cells (hdC h).toArray 36)).alloc (.cells #[.int .i64 0, .int .i64 0, .int .i64 0, .int .i64 0, .int .i64 0, .int .i64 0, .int .i64 0, .int .i64 0, .int .i64 0, .int .i64 0, .int .i64 0, .int .i64 0, .int .i64 0, .int .i64 0, .int .i64 0, .int .i64 0, .int .i64 0, .int .i64 0, .int .i64 0, .int .i64 0, .int .i64 0, .int .i64 0] 36) = w0 at *
 clear hw0
 show wpList _ _ _ _ _ w0
 have q10 : w0.cell? ⟨w.heap.size, 10, none⟩ = some (.int .i64 h.x_) := by simpa using H0 10 (.int .i64 h.x_) rfl
 have f10 : w0.frozen? ⟨w.heap.size, 10, none⟩ = false := by simpa using (G0 10 (by decide)).2
 obtain ⟨H', hH⟩ : ∃ H' : Hd, Hid (H' = { h with x_ := n }) := by exact ⟨_, rfl⟩
 have hv : Hid (qzw { h with x_ := n } 2 = qzw H' 2) := by show _ = _; rw [hH.out]; skip
 go_wp2_with (first | (refine wpList_load_mid rfl 36 (.tmp 2) rfl (w.heap.size) 0 ?hxln38 (hdC H') _ ?hcn38 Tryz.underlying36 rfl (qz1 H') ?_))
 try (case hxln38 => rfl)
 case hcn38 => rw [hH.out]; exact (qz6 H0 10 (by simp [hdC]) _)
 refine (qzr H' 2 _).mono ?_
 rintro e w9 ⟨rfl, b9⟩
 have F9 := qz3 (qz2 F0 _ _) b9 (by first | omega | (simp; omega))
 have K9 := (Below.setCell K0 (p := ⟨w.heap.size, 10, none⟩) (by show w.heap.size <= w.heap.size; omega) _).trans (b9.mono (by first | omega | (simp; omega)))
 go_wp2_with (refine wpList_store_mid rfl 36 (.tmp 4) _ rfl (w.heap.size + 1) 0 (hdC (qzw H' 2)).toArray ?hxn38 ?hyn38 ?htn38 (qz8 _) (qzc _) ?_)
 try (case hxn38 => rfl)
 try (case hyn38 => rfl)
 case htn38 => exact F9
 refine bodyPost_ret (v := .agg (hdC (qzw H' 2)).toArray) ?_ rfl ⟨by rw [hv.out], ?_⟩
 ·exact qz4 Tryz.results120 _ _ (w.heap.size + 1) 0 rfl (hdC (qzw H' 2)) _ (World.rangeAt_setCells_same _ _ _ _ F9) Tryz.underlying36 rfl (qz1 _)
 ·exact Below.setCells (by omega) _ _ _ K9
theorem qz4b (B : Nat) (A : Ar) (n k : Int) (a0 a1 a2 a3 : Option Addr) (c0 c1 c2 c3 : Nat) (w : World) (hB : B <= w.heap.size) (hA : A.size <= 1048576) (I : qzi B w (.slice a0 A.slots.length c0) (.slice a1 A.guides.length c1) (.slice a2 A.nodes.length c2) (.slice a3 A.vers.length c3) A) (hn0 : -1 <= n) (hn1 : n < (A.nodes.length : Int)) :
  Calls Tryz.prog 119 #[.agg #[.int .i64 A.camera, .slice a0 A.slots.length c0, .slice a1 A.guides.length c1, .slice a2 A.nodes.length c2, .slice a3 A.vers.length c3], .int .i64 n, .int .i64 k] w fun e w' => e = .returned (.bool (decide (n < 0) || decide (k < (ndOf A n).key))) /\ Below w.heap.size w w' := by
 have hA' := hA
 unfold Ar.size at hA
 have X0 := qz5 w [.int .i64 A.camera, .slice a0 A.slots.length c0, .slice a1 A.guides.length c1, .slice a2 A.nodes.length c2, .slice a3 A.vers.length c3] 35
 have K0 := ((Below.refl w.heap.size w).alloc (Nat.le_refl _) (.cells #[.int .i64 A.camera, .slice a0 A.slots.length c0, .slice a1 A.guides.length c1, .slice a2 A.nodes.length c2, .slice a3 A.vers.length c3] 35))
 have hz0 : w.heap.size < (w.alloc (.cells #[.int .i64 A.camera, .slice a0 A.slots.length c0, .slice a1 A.guides.length c1, .slice a2 A.nodes.length c2, .slice a3 A.vers.length c3] 35)).heap.size := by simp
 have I0 := I.below (K0.mono hB)
 go_enter Tryz.func119, Tryz.ntmps119
 have tok : True := trivial
 go_wp2_with (clear tok; refine qz24 (w.alloc (.cells #[.int .i64 A.camera, .slice a0 A.slots.length c0, .slice a1 A.guides.length c1, .slice a2 A.nodes.length c2, .slice a3 A.vers.length c3] 35)) ?_)
 generalize hw0 : w.alloc (.cells #[.int .i64 A.camera, .slice a0 A.slots.length c0, .slice a1 A.guides.length c1, .slice a2 A.nodes.length c2, .slice a3 A.vers.length c3] 35) = w0 at *
 clear hw0 I
 show wpList _ _ _ _ _ w0
 obtain ⟨x0, x1, x2, x3, x4⟩ := row5 X0
 by_cases hn : n = -1
 ·subst hn
  have hv : Hid ((decide ((-1 : Int) < 0) || decide (k < (ndOf A (-1)).key)) = true) := by show _ = _; simp
  go_wp2
  go_ret
  exact ⟨by rw [hv.out]; rfl, K0⟩
 obtain ⟨m, hcm⟩ : ∃ m : Nat, n = m := ⟨n.toNat, by omega⟩
 subst hcm
 have hm : m < A.nodes.length := by omega
 have hm' : (m : Int) < (A.nodes.length : Int) := by omega
 have hm0 : (0 : Int) <= (m : Int) := by omega
 have bm : ((m : Int) == -1) = false := by simp <;> omega
 obtain ⟨bb, off, rfl, hbb, R⟩ := qzh.at I0.n (by omega)
 have z0 : w0.cell? ⟨bb, off + m * 3 + 0, none⟩ = some (.int .i64 A.nodes[m].key) := (qza (sz := 3) (fun _ => rfl) R m hm) 0 _ rfl
 simp only [Nat.add_zero] at z0
 clear R
 by_cases kk : k < A.nodes[m].key
 ·have hv : Hid ((decide ((m : Int) < 0) || decide (k < (ndOf A (m : Int)).key)) = true) := by show _ = _; rw [qzs A m hm]; simp [kk]
  go_wp2
  go_ret
  exact ⟨by rw [hv.out]; rfl, K0⟩
 ·have hv : Hid ((decide ((m : Int) < 0) || decide (k < (ndOf A (m : Int)).key)) = false) := by show _ = _; rw [qzs A m hm]; simp [kk] <;> omega
  go_wp2
  go_ret
  exact ⟨by rw [hv.out]; rfl, K0⟩
theorem qz91 (B : Nat) (A : Ar) (h : Hd) (m : Vr) (a0 a1 a2 a3 : Option Addr) (c0 c1 c2 c3 : Nat) (w : World) (hB : B <= w.heap.size) (hA : A.size <= 1048576) (I : qzi B w (.slice a0 A.slots.length c0) (.slice a1 A.guides.length c1) (.slice a2 A.nodes.length c2) (.slice a3 A.vers.length c3) A) (h6 : h.code = 6) (hvm : vrOf A h.ver = m) (hx0 : 0 <= h.x_) (hx1 : h.x_ < (A.nodes.length : Int)) (hm0 : -1 <= m.next) (hm1 : m.next < (A.nodes.length : Int)) :
  Calls Tryz.prog 115 #[.agg #[.int .i64 A.camera, .slice a0 A.slots.length c0, .slice a1 A.guides.length c1, .slice a2 A.nodes.length c2, .slice a3 A.vers.length c3], .agg (hdC h).toArray, .agg #[.int .i64 m.next, .bool m.gone, .int .i64 m.stamp, .int .i64 m.prev, .int .i64 m.kind]] w fun e w' => e = .returned (.agg (hdC (useH A h)).toArray) /\ Below w.heap.size w w' := by
 have hA' := hA
 unfold Ar.size at hA
 have X0 := World.rangeAt_alloc (World.rangeAt_alloc (World.rangeAt_alloc (qz5 w [.int .i64 A.camera, .slice a0 A.slots.length c0, .slice a1 A.guides.length c1, .slice a2 A.nodes.length c2, .slice a3 A.vers.length c3] 35) (.cells (hdC h).toArray 36)) (.cells #[.int .i64 m.next, .bool m.gone, .int .i64 m.stamp, .int .i64 m.prev, .int .i64 m.kind] 80)) (.cells #[.int .i64 0, .int .i64 0, .int .i64 0, .int .i64 0, .int .i64 0, .int .i64 0, .int .i64 0, .int .i64 0, .int .i64 0, .int .i64 0, .int .i64 0, .int .i64 0, .int .i64 0, .int .i64 0, .int .i64 0, .int .i64 0, .int .i64 0, .int .i64 0, .int .i64 0, .int .i64 0, .int .i64 0, .int .i64 0] 36)
 have H0 := World.rangeAt_alloc (World.rangeAt_alloc (qz5 (w.alloc (.cells #[.int .i64 A.camera, .slice a0 A.slots.length c0, .slice a1 A.guides.length c1, .slice a2 A.nodes.length c2, .slice a3 A.vers.length c3] 35)) (hdC h) 36) (.cells #[.int .i64 m.next, .bool m.gone, .int .i64 m.stamp, .int .i64 m.prev, .int .i64 m.kind] 80)) (.cells #[.int .i64 0, .int .i64 0, .int .i64 0, .int .i64 0, .int .i64 0, .int .i64 0, .int .i64 0, .int .i64 0, .int .i64 0, .int .i64 0, .int .i64 0, .int .i64 0, .int .i64 0, .int .i64 0, .int .i64 0, .int .i64 0, .int .i64 0, .int .i64 0, .int .i64 0, .int .i64 0, .int .i64 0, .int .i64 0] 36)
 have G0 := World.there_alloc (World.there_alloc (qzf (w.alloc (.cells #[.int .i64 A.camera, .slice a0 A.slots.length c0, .slice a1 A.guides.length c1, .slice a2 A.nodes.length c2, .slice a3 A.vers.length c3] 35)) (hdC h).toArray 36 22 (by simp [hdC])) (.cells #[.int .i64 m.next, .bool m.gone, .int .i64 m.stamp, .int .i64 m.prev, .int .i64 m.kind] 80)) (.cells #[.int .i64 0, .int .i64 0, .int .i64 0, .int .i64 0, .int .i64 0, .int .i64 0, .int .i64 0, .int .i64 0, .int .i64 0, .int .i64 0, .int .i64 0, .int .i64 0, .int .i64 0, .int .i64 0, .int .i64 0, .int .i64 0, .int .i64 0, .int .i64 0, .int .i64 0, .int .i64 0, .int .i64 0, .int .i64 0] 36)
 have M0 := World.rangeAt_alloc (qz5 ((w.alloc (.cells #[.int .i64 A.camera, .slice a0 A.slots.length c0, .slice a1 A.guides.length c1, .slice a2 A.nodes.length c2, .slice a3 A.vers.length c3] 35)).alloc (.cells (hdC h).toArray 36)) [.int .i64 m.next, .bool m.gone, .int .i64 m.stamp, .int .i64 m.prev, .int .i64 m.kind] 80) (.cells #[.int .i64 0, .int .i64 0, .int .i64 0, .int .i64 0, .int .i64 0, .int .i64 0, .int .i64 0, .int .i64 0, .int .i64 0, .int .i64 0, .int .i64 0, .int .i64 0, .int .i64 0, .int .i64 0, .int .i64 0, .int .i64 0, .int .i64 0, .int .i64 0, .int .i64 0, .int .i64 0, .int .i64 0, .int .i64 0] 36)
 have F0 := qzf (((w.alloc (.cells #[.int .i64 A.camera, .slice a0 A.slots.length c0, .slice a1 A.guides.length c1, .slice a2 A.nodes.length c2, .slice a3 A.vers.length c3] 35)).alloc (.cells (hdC h).toArray 36)).alloc (.cells #[.int .i64 m.next, .bool m.gone, .int .i64 m.stamp, .int .i64 m.prev, .int .i64 m.kind] 80)) #[.int .i64 0, .int .i64 0, .int .i64 0, .int .i64 0, .int .i64 0, .int .i64 0, .int .i64 0, .int .i64 0, .int .i64 0, .int .i64 0, .int .i64 0, .int .i64 0, .int .i64 0, .int .i64 0, .int .i64 0, .int .i64 0, .int .i64 0, .int .i64 0, .int .i64 0, .int .i64 0, .int .i64 0, .int .i64 0] 36 22 (by decide)
 have K0 := (((((Below.refl w.heap.size w).alloc (Nat.le_refl _) (.cells #[.int .i64 A.camera, .slice a0 A.slots.length c0, .slice a1 A.guides.length c1, .slice a2 A.nodes.length c2, .slice a3 A.vers.length c3] 35)).alloc (by simp) (.cells (hdC h).toArray 36)).alloc (by simp <;> omega) (.cells #[.int .i64 m.next, .bool m.gone, .int .i64 m.stamp, .int .i64 m.prev, .int .i64 m.kind] 80)).alloc (by simp <;> omega) (.cells #[.int .i64 0, .int .i64 0, .int .i64 0, .int .i64 0, .int .i64 0, .int .i64 0, .int .i64 0, .int .i64 0, .int .i64 0, .int .i64 0, .int .i64 0, .int .i64 0, .int .i64 0, .int .i64 0, .int .i64 0, .int .i64 0, .int .i64 0, .int .i64 0, .int .i64 0, .int .i64 0, .int .i64 0, .int .i64 0] 36))
 have hz0 : w.heap.size + 1 + 1 + 1 < ((((w.alloc (.cells #[.int .i64 A.camera, .slice a0 A.slots.length c0, .slice a1 A.guides.length c1, .slice a2 A.nodes.length c2, .slice a3 A.vers.length c3] 35)).alloc (.cells (hdC h).toArray 36)).alloc (.cells #[.int .i64 m.next, .bool m.gone, .int .i64 m.stamp, .int .i64 m.prev, .int .i64 m.kind] 80)).alloc (.cells #[.int .i64 0, .int .i64 0, .int .i64 0, .int .i64 0, .int .i64 0, .int .i64 0, .int .i64 0, .int .i64 0, .int .i64 0, .int .i64 0, .int .i64 0, .int .i64 0, .int .i64 0, .int .i64 0, .int .i64 0, .int .i64 0, .int .i64 0, .int .i64 0, .int .i64 0, .int .i64 0, .int .i64 0, .int .i64 0] 36)).heap.size := by simp
 simp only [World.size_alloc] at H0 G0 M0 F0
 have I0 := I.below (K0.mono hB)
 go_enter Tryz.func115, Tryz.ntmps115
 have tok : True := trivial
 go_wp2_with (clear tok; refine qz24 ((((w.alloc (.cells #[.int .i64 A.camera, .slice a0 A.slots.length c0, .slice a1 A.guides.length c1, .slice a2 A.nodes.length c2, .slice a3 A.vers.length c3] 35)).alloc (.cells (hdC h).toArray 36)).alloc (.cells #[.int .i64 m.next, .bool m.gone, .int .i64 m.stamp, .int .i64 m.prev, .int .i64 m.kind] 80)).alloc (.cells #[.int .i64 0, .int .i64 0, .int .i64 0, .int .i64 0, .int .i64 0, .int .i64 0, .int .i64 0, .int .i64 0, .int .i64 0, .int .i64 0, .int .i64 0, .int .i64 0, .int .i64 0, .int .i64 0, .int .i64 0, .int .i64 0, .int .i64 0, .int .i64 0, .int .i64 0, .int .i64 0, .int .i64 0, .int .i64 0] 36)) ?_)
 generalize hw0 : (((w.alloc (.cells #[.int .i64 A.camera, .slice a0 A.slots.length c0, .slice a1 A.guides.length c1, .slice a2 A.nodes.length c2, .slice a3 A.vers.length c3] 35)).alloc (.cells (hdC h).toArray 36)).alloc (.cells #[.int .i64 m.next, .bool m.gone, .int .i64 m.stamp, .int .i64 m.prev, .int .i64 m.kind] 80)).alloc (.cells #[.int .i64 0, .int .i64 0, .int .i64 0, .int .i64 0, .int .i64 0, .int .i64 0, .int .i64 0, .int .i64 0, .int .i64 0, .int .i64 0, .int .i64 0, .int .i64 0, .int .i64 0, .int .i64 0, .int .i64 0, .int .i64 0, .int .i64 0, .int .i64 0, .int .i64 0, .int .i64 0, .int .i64 0, .int .i64 0] 36) = w0 at *
 clear hw0 I
 show wpList _ _ _ _ _ w0
 obtain ⟨n, hn⟩ : ∃ n : Nat, h.x_ = n := ⟨h.x_.toNat, by omega⟩
 have hnl : n < A.nodes.length := by omega
 have hnl' : (n : Int) < (A.nodes.length : Int) := by omega
 have hnl0 : (0 : Int) <= (n : Int) := by omega
 have hnd : ndOf A h.x_ = A.nodes[n] := by rw [hn, qzs A n hnl]
 obtain ⟨bn, on, rfl, hbn, RN⟩ := qzh.at I0.n (by omega)
 have n0 : w0.cell? ⟨bn, on + n * 3, none⟩ = some (.int .i64 A.nodes[n].key) := by simpa using (qza (sz := 3) (fun _ => rfl) RN n hnl) 0 _ rfl
 have n1 : w0.cell? ⟨bn, on + n * 3 + 1, none⟩ = some (.int .i64 A.nodes[n].value) := (qza (sz := 3) (fun _ => rfl) RN n hnl) 1 _ rfl
 have n2 : w0.cell? ⟨bn, on + n * 3 + 2, none⟩ = some (.int .i64 A.nodes[n].head) := (qza (sz := 3) (fun _ => rfl) RN n hnl) 2 _ rfl
 have x3 : w0.cell? ⟨w.heap.size, 3, none⟩ = some (.slice (some ⟨bn, on, none⟩) A.nodes.length c2) := by simpa using X0 3 _ rfl
 have q10 : w0.cell? ⟨w.heap.size + 1, 10, none⟩ = some (.int .i64 h.x_) := by simpa using H0 10 (.int .i64 h.x_) rfl
 rw [hn] at q10
 clear RN
 have tok : True := trivial
 go_wp2_with (clear tok; refine qz24 (w0.alloc (.cells #[.int .i64 A.nodes[n].key, .int .i64 A.nodes[n].value, .int .i64 A.nodes[n].head] 65)) ?_)
 have al := (Below.refl w0.heap.size w0).alloc (Nat.le_refl _) (.cells #[.int .i64 A.nodes[n].key, .int .i64 A.nodes[n].value, .int .i64 A.nodes[n].head] 65)
 have NB1 := qz5 w0 [.int .i64 A.nodes[n].key, .int .i64 A.nodes[n].value, .int .i64 A.nodes[n].head] 65
 have X1 := qz0 X0 al (by omega)
 have H1 := qz0 H0 al (by omega)
 have G1 := qz3 G0 al (by omega)
 have F1 := qz3 F0 al (by omega)
 have K1 := K0.trans (al.mono (by omega))
 have I1 := I0.below (al.mono (by omega))
 have hz1 := Nat.lt_of_lt_of_le hz0 al.size
 have hl1 : w0.heap.size < (w0.alloc (.cells #[.int .i64 A.nodes[n].key, .int .i64 A.nodes[n].value, .int .i64 A.nodes[n].head] 65)).heap.size := by simp
 have M1 := qz0 M0 al (by omega)
 generalize hw1 : w0.alloc (.cells #[.int .i64 A.nodes[n].key, .int .i64 A.nodes[n].value, .int .i64 A.nodes[n].head] 65) = w1 at *
 show wpList _ _ _ _ _ w1
 clear hw1 al X0 H0 G0 F0 K0 I0
 clear n0 n1 n2 x3 q10
 have q3 : w1.cell? ⟨w.heap.size + 1, 3, none⟩ = some (.int .i64 h.key) := by simpa using H1 3 (.int .i64 h.key) rfl
 have q10 : w1.cell? ⟨w.heap.size + 1, 10, none⟩ = some (.int .i64 h.x_) := by simpa using H1 10 (.int .i64 h.x_) rfl
 have f10 : w1.frozen? ⟨w.heap.size + 1, 10, none⟩ = false := by simpa using (G1 10 (by decide)).2
 rw [hn] at q10
 obtain ⟨x0, x1, x2, x3, x4⟩ := row5 X1
 obtain ⟨v0, v1, v2, v3, v4⟩ := row5 M1
 have n0 : w1.cell? ⟨w0.heap.size, 0, none⟩ = some (.int .i64 A.nodes[n].key) := by simpa using NB1 0 _ rfl
 have n1 : w1.cell? ⟨w0.heap.size, 1, none⟩ = some (.int .i64 A.nodes[n].value) := by simpa using NB1 1 _ rfl
 have e1 : ¬ (w.heap.size + 1 = w0.heap.size) := by omega
 have e2 : ¬ (w.heap.size + 1 = w.heap.size) := by omega
 have e3 : ¬ (w.heap.size + 1 = w.heap.size + 1 + 1) := by omega
 clear NB1 hl1 hz0
 have hnH : Hid (h.x_ = n) := hn
 clear hn hnl' hnl0
 have hcb : qz2q A h = false := by simp [qz2q, h6]
 have h6' : Hid (h.code = 6) := h6
 clear h6
 by_cases kx : n = 0
 case pos =>
  have nbx0 : ((n : Int) != 0) = false := by simp [kx]
  have hx0' : Hid (h.x_ = 0) := by show _ = _; rw [hnH.out, kx]; rfl
  go_wp2_with fail
  refine (qz4b B A m.next h.key _ _ _ _ _ _ _ _ _ (by first | omega | (simp; omega)) hA' I1 hm0 hm1).mono ?_
  rintro e w5 ⟨rfl, b5⟩
  have H5 := qz0 H1 b5 (by first | omega | (simp; omega))
  have F5 := qz3 F1 b5 (by first | omega | (simp; omega))
  have M5 := qz0 M1 b5 (by first | omega | (simp; omega))
  have K5 := K1.trans (b5.mono (by first | omega | (simp; omega)))
  have hz5 : w.heap.size + 1 + 1 + 1 < w5.heap.size := Nat.lt_of_lt_of_le (m := w1.heap.size) (by first | omega | (simp; omega)) b5.size
  clear x0 x1 x2 x3 x4 v0 v1 v2 v3 v4 n0 n1
  obtain ⟨v0, v1, v2, v3, v4⟩ := row5 M5
  cases hl : (decide (m.next < 0) || decide (h.key < (ndOf A m.next).key))
  case true =>
   have hlb : qz2k A h = true := by unfold qz2k; rw [hvm, if_neg (by rw [h6'.out]; decide)]; exact hl
   obtain ⟨H', hH⟩ : ∃ H' : Hd, Hid (H' = h) := by exact ⟨_, rfl⟩
   have hv : Hid (useH A h = qzb H' 3 0 0) := by show _ = _; rw [hH.out]; have h6 := h6'.out; simp [useH, h6, hlb, hx0'.out]
   go_wp2_with (first | (refine wpList_load_mid rfl 36 (.tmp 4) rfl (w.heap.size + 1) 0 ?hxln62 (hdC H') _ ?hcn62 Tryz.underlying36 rfl (qz1 H') ?_))
   try (case hxln62 => rfl)
   case hcn62 => rw [hH.out]; exact H5
   refine (qz16 H' 3 0 0 _).mono ?_
   rintro e w9 ⟨rfl, b9⟩
   have F9 := qz3 F5 b9 (by first | omega | (simp; omega))
   have K9 := K5.trans (b9.mono (by first | omega | (simp; omega)))
   go_wp2_with (refine wpList_store_mid rfl 36 (.tmp 6) _ rfl (w.heap.size + 1 + 1 + 1) 0 (hdC (qzb H' 3 0 0)).toArray ?hxn62 ?hyn62 ?htn62 (qz8 _) (qzc _) ?_)
   try (case hxn62 => rfl)
   try (case hyn62 => rfl)
   case htn62 => exact F9
   refine bodyPost_ret (v := .agg (hdC (qzb H' 3 0 0)).toArray) ?_ rfl ⟨by rw [hv.out], ?_⟩
   ·exact qz4 Tryz.results115 _ _ (w.heap.size + 1 + 1 + 1) 0 rfl (hdC (qzb H' 3 0 0)) _ (World.rangeAt_setCells_same _ _ _ _ F9) Tryz.underlying36 rfl (qz1 _)
   ·exact Below.setCells (by omega) _ _ _ K9
  have hlb : qz2k A h = false := by unfold qz2k; rw [hvm, if_neg (by rw [h6'.out]; decide)]; exact hl
  obtain ⟨H', hH⟩ : ∃ H' : Hd, Hid (H' = h) := by exact ⟨_, rfl⟩
  have hv : Hid (useH A h = qzw { H' with x_ := m.next } 2) := by show _ = _; rw [hH.out]; have h6 := h6'.out; simp [useH, h6, hlb, hcb, hvm, qzw, hx0'.out]
  go_wp2_with (first | (refine wpList_load_mid rfl 36 (.tmp 4) rfl (w.heap.size + 1) 0 ?hxln63 (hdC H') _ ?hcn63 Tryz.underlying36 rfl (qz1 H') ?_))
  try (case hxln63 => rfl)
  case hcn63 => rw [hH.out]; exact H5
  refine (qz2n H' m.next _).mono ?_
  rintro e w9 ⟨rfl, b9⟩
  have F9 := qz3 F5 b9 (by first | omega | (simp; omega))
  have K9 := K5.trans (b9.mono (by first | omega | (simp; omega)))
  go_wp2_with (refine wpList_store_mid rfl 36 (.tmp 6) _ rfl (w.heap.size + 1 + 1 + 1) 0 (hdC (qzw { H' with x_ := m.next } 2)).toArray ?hxn63 ?hyn63 ?htn63 (qz8 _) (qzc _) ?_)
  try (case hxn63 => rfl)
  try (case hyn63 => rfl)
  case htn63 => exact F9
  refine bodyPost_ret (v := .agg (hdC (qzw { H' with x_ := m.next } 2)).toArray) ?_ rfl ⟨by rw [hv.out], ?_⟩
  ·exact qz4 Tryz.results115 _ _ (w.heap.size + 1 + 1 + 1) 0 rfl (hdC (qzw { H' with x_ := m.next } 2)) _ (World.rangeAt_setCells_same _ _ _ _ F9) Tryz.underlying36 rfl (qz1 _)
  ·exact Below.setCells (by omega) _ _ _ K9
 have hnx : Hid (¬ (h.x_ = 0)) := by have := hnH.out; show ¬ _; omega
 have nbx : ((n : Int) != 0) = true := by simp [kx]
 by_cases kk : A.nodes[n].key = h.key
 case neg =>
  have bk : (A.nodes[n].key == h.key) = false := by simp [kk]
  go_wp2_with fail
  refine (qz4b B A m.next h.key _ _ _ _ _ _ _ _ _ (by first | omega | (simp; omega)) hA' I1 hm0 hm1).mono ?_
  rintro e w5 ⟨rfl, b5⟩
  have H5 := qz0 H1 b5 (by first | omega | (simp; omega))
  have F5 := qz3 F1 b5 (by first | omega | (simp; omega))
  have M5 := qz0 M1 b5 (by first | omega | (simp; omega))
  have K5 := K1.trans (b5.mono (by first | omega | (simp; omega)))
  have hz5 : w.heap.size + 1 + 1 + 1 < w5.heap.size := Nat.lt_of_lt_of_le (m := w1.heap.size) (by first | omega | (simp; omega)) b5.size
  clear x0 x1 x2 x3 x4 v0 v1 v2 v3 v4 n0 n1
  obtain ⟨v0, v1, v2, v3, v4⟩ := row5 M5
  cases hl : (decide (m.next < 0) || decide (h.key < (ndOf A m.next).key))
  case true =>
   have hlb : qz2k A h = true := by unfold qz2k; rw [hvm, if_neg (by rw [h6'.out]; decide)]; exact hl
   obtain ⟨H', hH⟩ : ∃ H' : Hd, Hid (H' = h) := by exact ⟨_, rfl⟩
   have hv : Hid (useH A h = qzb H' 3 0 0) := by show _ = _; rw [hH.out]; have h6 := h6'.out; simp [useH, h6, hlb, hnd, kk]
   go_wp2_with (first | (refine wpList_load_mid rfl 36 (.tmp 4) rfl (w.heap.size + 1) 0 ?hxln64 (hdC H') _ ?hcn64 Tryz.underlying36 rfl (qz1 H') ?_))
   try (case hxln64 => rfl)
   case hcn64 => rw [hH.out]; exact H5
   refine (qz16 H' 3 0 0 _).mono ?_
   rintro e w9 ⟨rfl, b9⟩
   have F9 := qz3 F5 b9 (by first | omega | (simp; omega))
   have K9 := K5.trans (b9.mono (by first | omega | (simp; omega)))
   go_wp2_with (refine wpList_store_mid rfl 36 (.tmp 6) _ rfl (w.heap.size + 1 + 1 + 1) 0 (hdC (qzb H' 3 0 0)).toArray ?hxn64 ?hyn64 ?htn64 (qz8 _) (qzc _) ?_)
   try (case hxn64 => rfl)
   try (case hyn64 => rfl)
   case htn64 => exact F9
   refine bodyPost_ret (v := .agg (hdC (qzb H' 3 0 0)).toArray) ?_ rfl ⟨by rw [hv.out], ?_⟩
   ·exact qz4 Tryz.results115 _ _ (w.heap.size + 1 + 1 + 1) 0 rfl (hdC (qzb H' 3 0 0)) _ (World.rangeAt_setCells_same _ _ _ _ F9) Tryz.underlying36 rfl (qz1 _)
   ·exact Below.setCells (by omega) _ _ _ K9
  have hlb : qz2k A h = false := by unfold qz2k; rw [hvm, if_neg (by rw [h6'.out]; decide)]; exact hl
  obtain ⟨H', hH⟩ : ∃ H' : Hd, Hid (H' = h) := by exact ⟨_, rfl⟩
  have hv : Hid (useH A h = qzw { H' with x_ := m.next } 2) := by show _ = _; rw [hH.out]; have h6 := h6'.out; simp [useH, h6, hlb, hcb, hvm, qzw, hnd, kk]
  go_wp2_with (first | (refine wpList_load_mid rfl 36 (.tmp 4) rfl (w.heap.size + 1) 0 ?hxln65 (hdC H') _ ?hcn65 Tryz.underlying36 rfl (qz1 H') ?_))
  try (case hxln65 => rfl)
  case hcn65 => rw [hH.out]; exact H5
  refine (qz2n H' m.next _).mono ?_
  rintro e w9 ⟨rfl, b9⟩
  have F9 := qz3 F5 b9 (by first | omega | (simp; omega))
  have K9 := K5.trans (b9.mono (by first | omega | (simp; omega)))
  go_wp2_with (refine wpList_store_mid rfl 36 (.tmp 6) _ rfl (w.heap.size + 1 + 1 + 1) 0 (hdC (qzw { H' with x_ := m.next } 2)).toArray ?hxn65 ?hyn65 ?htn65 (qz8 _) (qzc _) ?_)
  try (case hxn65 => rfl)
  try (case hyn65 => rfl)
  case htn65 => exact F9
  refine bodyPost_ret (v := .agg (hdC (qzw { H' with x_ := m.next } 2)).toArray) ?_ rfl ⟨by rw [hv.out], ?_⟩
  ·exact qz4 Tryz.results115 _ _ (w.heap.size + 1 + 1 + 1) 0 rfl (hdC (qzw { H' with x_ := m.next } 2)) _ (World.rangeAt_setCells_same _ _ _ _ F9) Tryz.underlying36 rfl (qz1 _)
  ·exact Below.setCells (by omega) _ _ _ K9
 have bk : (A.nodes[n].key == h.key) = true := by simp [kk]
 have kkH : Hid (A.nodes[n].key = h.key) := kk
 clear kk
 cases kg : m.gone
 ·obtain ⟨H', hH⟩ : ∃ H' : Hd, Hid (H' = h) := by exact ⟨_, rfl⟩
  have hv : Hid (useH A h = qzb H' 2 A.nodes[n].value 0) := by show _ = _; rw [hH.out]; have h6 := h6'.out; have hnx := hnx.out; have kk := kkH.out; simp [useH, h6, hnx, hnd, kk, hvm, kg]
  go_wp2_with (first | (refine wpList_load_mid rfl 36 (.tmp 4) rfl (w.heap.size + 1) 0 ?hxln66 (hdC H') _ ?hcn66 Tryz.underlying36 rfl (qz1 H') ?_))
  try (case hxln66 => rfl)
  case hcn66 => rw [hH.out]; exact H1
  refine (qz16 H' 2 A.nodes[n].value 0 _).mono ?_
  rintro e w9 ⟨rfl, b9⟩
  have F9 := qz3 F1 b9 (by first | omega | (simp; omega))
  have K9 := K1.trans (b9.mono (by first | omega | (simp; omega)))
  go_wp2_with (refine wpList_store_mid rfl 36 (.tmp 6) _ rfl (w.heap.size + 1 + 1 + 1) 0 (hdC (qzb H' 2 A.nodes[n].value 0)).toArray ?hxn66 ?hyn66 ?htn66 (qz8 _) (qzc _) ?_)
  try (case hxn66 => rfl)
  try (case hyn66 => rfl)
  case htn66 => exact F9
  refine bodyPost_ret (v := .agg (hdC (qzb H' 2 A.nodes[n].value 0)).toArray) ?_ rfl ⟨by rw [hv.out], ?_⟩
  ·exact qz4 Tryz.results115 _ _ (w.heap.size + 1 + 1 + 1) 0 rfl (hdC (qzb H' 2 A.nodes[n].value 0)) _ (World.rangeAt_setCells_same _ _ _ _ F9) Tryz.underlying36 rfl (qz1 _)
  ·exact Below.setCells (by omega) _ _ _ K9
 ·obtain ⟨H', hH⟩ : ∃ H' : Hd, Hid (H' = h) := by exact ⟨_, rfl⟩
  have hv : Hid (useH A h = qzb H' 3 0 0) := by show _ = _; rw [hH.out]; have h6 := h6'.out; have hnx := hnx.out; have kk := kkH.out; simp [useH, h6, hnx, hnd, kk, hvm, kg]
  go_wp2_with (first | (refine wpList_load_mid rfl 36 (.tmp 4) rfl (w.heap.size + 1) 0 ?hxln67 (hdC H') _ ?hcn67 Tryz.underlying36 rfl (qz1 H') ?_))
  try (case hxln67 => rfl)
  case hcn67 => rw [hH.out]; exact H1
  refine (qz16 H' 3 0 0 _).mono ?_
  rintro e w9 ⟨rfl, b9⟩
  have F9 := qz3 F1 b9 (by first | omega | (simp; omega))
  have K9 := K1.trans (b9.mono (by first | omega | (simp; omega)))
  go_wp2_with (refine wpList_store_mid rfl 36 (.tmp 6) _ rfl (w.heap.size + 1 + 1 + 1) 0 (hdC (qzb H' 3 0 0)).toArray ?hxn67 ?hyn67 ?htn67 (qz8 _) (qzc _) ?_)
  try (case hxn67 => rfl)
  try (case hyn67 => rfl)
  case htn67 => exact F9
  refine bodyPost_ret (v := .agg (hdC (qzb H' 3 0 0)).toArray) ?_ rfl ⟨by rw [hv.out], ?_⟩
  ·exact qz4 Tryz.results115 _ _ (w.heap.size + 1 + 1 + 1) 0 rfl (hdC (qzb H' 3 0 0)) _ (World.rangeAt_setCells_same _ _ _ _ F9) Tryz.underlying36 rfl (qz1 _)
  ·exact Below.setCells (by omega) _ _ _ K9
end
section
def onAt (L : Nat -> Bool) (i : Nat) : Nat -> Bool := fun j => if j = i then true else L j
end
section
theorem qz8a {P : Program} {l : List Oper} {Q : Exit -> Act -> World -> Prop} {id : Nat} {a0 : Act} {w0 : World} (k : Nat) (hm : P.follows .mixedOrders = true)
  (J : (Nat -> Bool) -> World -> Prop) (hJ0 : J (fun _ => false) { w0 with drawn := w0.drawn + 1 }) (G : (Nat -> Bool) -> Nat -> Value -> World -> Prop) (hT : qzbr l.toArray k (l.length - k) = true) (hL : qzax l.toArray = true) (hBk : qza3 l.toArray k = true) (hg : (l.take k).all (fun o => o.guard.isNone) = true)
  (hdst0 : dstB l.toArray a0.tmps.size = true)
  (step : ∀ (i : Nat) (o : Oper), i < k -> l[i]? = some o -> ∀ (L : Nat -> Bool) (a : Act) (w : World), L i = false -> (∀ j, L j = true -> j < k) -> (∀ j o', l[j]? = some o' -> L j = true -> ∀ e ∈ o'.after, Region.binds .any e = true -> L e.on = true) -> J L w -> (∀ t, qz7h l.toArray t = true -> a.eval (.tmp t) = a0.tmps.getD t undef) ->
   (∀ e ∈ o.after, Region.binds .any e = true -> ∀ d, qz27 l.toArray e.on = some d -> L e.on = true /\ G L e.on (a.eval (.tmp d)) w) ->
   ∀ K : Act -> World -> Prop, (∀ v w', G (onAt L i) i v w' -> J (onAt L i) w' -> (∀ j v', j ≠ i -> L j = true -> G L j v' w -> G (onAt L i) j v' w') -> K (a.put o.dst v) w') -> o.wp P a w K Q)
  (final : ∀ (L : Nat -> Bool) vs w', (∀ i, i < k -> L i = true) -> J L w' -> (∀ i, i < k -> G L i (vs i) w') ->
   wpList P l.toArray Q (l.drop k) (laid l.toArray vs (qz3j k 0 (Array.replicate l.toArray.size false)) (List.range l.toArray.size) a0) w') :
  (Code.region id l.toArray true).wp P Q a0 w0 := by
 have hdst := qz9u hdst0
 have L := qz6o hL
 have hBack : ∀ i, i < k -> ∀ o, l.toArray[i]? = some o -> ∀ e ∈ o.after, Region.binds .any e = true -> e.on < i := fun i hi o ho => qzaq hBk i hi o ho
 simp only [qzbr, Bool.and_eq_true, beq_iff_eq] at hT
 obtain ⟨⟨hkm, hw⟩, hseq⟩ := hT
 have hsl : l.toArray.size = l.length := by simp
 have hkl : k <= l.length := by omega
 refine wp_region_any hm ?_
 have key : ∀ (c : Nat) (listed : Array Bool) (vs : Nat -> Value) (w : World), qz3r listed <= c + (l.length - k) -> listed.size = l.toArray.size -> qz45 .any l.toArray listed -> (∀ j, k <= j -> listed.getD j false = false) -> J (fun j => listed.getD j false) w ->
   (∀ i, i < l.toArray.size -> listed.getD i false = true -> G (fun j => listed.getD j false) i (vs i) w) ->
   wpAny P .any l.toArray Q (c + (l.length - k)) listed (laid l.toArray vs listed (List.range l.toArray.size) a0) w := by
  intro c
  induction c with
  | zero =>
   intro listed vs w hf hs hc htail hb hG
   by_cases hall : ∀ i, i < k -> listed.getD i false = true
   ·have he : listed = qz3j k 0 (Array.replicate l.toArray.size false) := by
     apply Array.ext
     ·rw [qz21, hs]; simp
     ·intro i h1 h2
      have g := qz2j k 0 (Array.replicate l.toArray.size false) i (by simp; omega)
      have g1 : (qz3j k 0 (Array.replicate l.toArray.size false))[i] = (qz3j k 0 (Array.replicate l.toArray.size false)).getD i false := qz3p _ _ h2
      have g2 : listed[i] = listed.getD i false := by simp [h1]
      rw [g1, g2, g]
      by_cases c : i < k
      ·rw [if_pos (by omega), hall i c]
      ·have hio : i < l.length := by omega
       rw [if_neg (by omega), htail i (by omega)]
       simp [hio]
    have hfin := final (fun j => listed.getD j false) vs w hall hb (fun i hi => hG i (by omega) (hall i hi))
    rw [<- he] at hfin
    have := qz1l (P := P) (md := .any) (Q := Q) 0 (l.drop k) k listed _ w (fun j => by simp) (by rw [he]; simpa using hseq) hfin
    simpa using this
   ·exfalso
    simp only [Classical.not_forall] at hall
    obtain ⟨i, hi, hu⟩ := hall
    have := qz4c (m := l.length - k) (by omega) htail hi (by simpa using hu)
    omega
  | succ c ih =>
   intro listed vs w hf hs hc htail hb hG
   by_cases hall : ∀ i, i < k -> listed.getD i false = true
   ·have he : listed = qz3j k 0 (Array.replicate l.toArray.size false) := by
     apply Array.ext
     ·rw [qz21, hs]; simp
     ·intro i h1 h2
      have g := qz2j k 0 (Array.replicate l.toArray.size false) i (by simp; omega)
      have g1 : (qz3j k 0 (Array.replicate l.toArray.size false))[i] = (qz3j k 0 (Array.replicate l.toArray.size false)).getD i false := qz3p _ _ h2
      have g2 : listed[i] = listed.getD i false := by simp [h1]
      rw [g1, g2, g]
      by_cases c : i < k
      ·rw [if_pos (by omega), hall i c]
      ·have hio : i < l.length := by omega
       rw [if_neg (by omega), htail i (by omega)]
       simp [hio]
    have hfin := final (fun j => listed.getD j false) vs w hall hb (fun i hi => hG i (by omega) (hall i hi))
    rw [<- he] at hfin
    have := qz1l (P := P) (md := .any) (Q := Q) (c + 1) (l.drop k) k listed _ w (fun j => by simp) (by rw [he]; simpa using hseq) hfin
    rw [show c + 1 + (l.length - k) = (l.drop k).length + (c + 1) by simp; omega]
    exact this
   simp only [Classical.not_forall] at hall
   obtain ⟨i1, hi1, hu1⟩ := hall
   have hu1' : listed.getD i1 false = false := by simpa using hu1
   have hu1'' : listed.getD i1 true = false := by
    have : i1 < listed.size := by omega
    simpa [this] using hu1'
   have hex : ∃ i, i < k /\ i ∈ Region.ready .any l.toArray listed := by
    apply Classical.byContradiction
    intro hno
    have : ∀ n i, i < n -> i < k -> listed.getD i false = true := by
     intro n
     induction n with
     | zero => intro i hi; omega
     | succ n ihn =>
      intro i hi hik
      rcases Nat.lt_or_ge i n with h | h
      ·exact ihn i h hik
      ·have hin : i = n := by omega
       subst hin
       cases hq : listed.getD i false with
       | true => rfl
       | false =>
        exfalso
        apply hno
        refine ⟨i, hik, mem_ready.2 ⟨?_, ?_⟩⟩
        ·have : i < listed.size := by omega
         simpa [this] using hq
        ·have hil : i < l.toArray.size := by omega
         refine ⟨l.toArray[i], by simp, fun e he hbd => ?_⟩
         exact ihn e.on (hBack i hik _ (by simp) e he hbd) (Nat.lt_trans (hBack i hik _ (by simp) e he hbd) hik)
    have h9 := this (i1 + 1) i1 (by omega) hi1
    rw [hu1'] at h9
    cases h9
   rw [show c + 1 + (l.length - k) = (c + (l.length - k)) + 1 by omega]
   obtain ⟨i0, hi0, hr0⟩ := hex
   refine ⟨fun h0 => (by rw [h0] at hr0; cases hr0), ?_⟩
   intro i hi
   have hik := qz3b hw hc hi1 hu1'' hi
   obtain ⟨h0, o, ho, hall⟩ := mem_ready.1 hi
   have hi' : i < l.toArray.size := (Array.getElem?_eq_some_iff.1 ho).1
   have hlt : i < listed.size := by omega
   have h1 : listed.getD i false = false := by simpa [hlt] using h0
   have ho' : l[i]? = some o := by simpa using ho
   have hguard : o.guard = none := by
    have := (List.all_eq_true.1 hg) o (List.mem_of_getElem? (i := i) (by rw [List.getElem?_take]; simp [hik, ho']))
    simpa using this
   have hnd : (List.range l.toArray.size).Nodup := List.nodup_range
   have hlt' : ∀ e ∈ o.after, Region.binds .any e = true -> ∀ d, qz27 l.toArray e.on = some d -> e.on < l.toArray.size /\ listed.getD e.on false = true /\ (laid l.toArray vs listed (List.range l.toArray.size) a0).eval (.tmp d) = vs e.on := by
    intro e he hbd d hd
    have hel := hall e he hbd
    have hes : e.on < l.toArray.size := by
     rcases Nat.lt_or_ge e.on l.toArray.size with h | h
     ·exact h
     ·simp only [qz27, Array.getElem?_eq_none h] at hd
      cases hd
    exact ⟨hes, hel, qz3t L vs listed e.on d hd hel _ _ hnd (List.mem_range.2 hes) (hdst _ _ hd)⟩
   have hstep := step i o hik ho' (fun j => listed.getD j false) (laid l.toArray vs listed (List.range l.toArray.size) a0) w h1 (fun j hj => by
     rcases Nat.lt_or_ge j k with h | h
     ·exact h
     ·have := htail j h; rw [this] at hj; cases hj) (fun j o' ho' hj e he hbd => hc j o' (by simpa using ho') hj e he hbd) hb
    (fun t ht => qz1s l.toArray vs listed t _ _ (fun k _ => qz58 ht k))
    (fun e he hbd d hd => by
     obtain ⟨h2, h3, h4⟩ := hlt' e he hbd d hd
     rw [h4]
     exact ⟨h3, hG e.on h2 h3⟩)
   have hwn : Region.wanted o (yielded l.toArray (laid l.toArray vs listed (List.range l.toArray.size) a0).tmps) = true := by simp [Region.wanted, hguard]
   unfold wpOp
   simp only [ho, hwn, if_true]
   refine Or.inl (hstep _ ?_)
   intro v w' hGi hb' hkp
   have hLn : (fun j => (listed.setIfInBounds i true).getD j false) = onAt (fun j => listed.getD j false) i := by
    funext j
    unfold onAt
    by_cases hji : j = i
    ·subst hji
     rw [if_pos rfl]
     simp [hlt]
    ·rw [if_neg hji]
     exact getD_set_ne false (Ne.symm hji)
   have hd' : o.dst = qz27 l.toArray i := by simp only [qz27, ho, Option.bind_some]
   rw [hd', qz3n L vs listed i v hlt h1 _ _ hnd (List.mem_range.2 hi')]
   refine ih _ _ _ (by have := qz2e hlt h1; omega) (by simpa using hs) (hc.set hi) (fun j hj => by rw [getD_set_ne false (by omega)]; exact htail j hj) (by rw [hLn]; exact hb') ?_
   intro j hj hjl
   rw [hLn]
   by_cases hji : j = i
   ·subst hji
    simp only [upd, if_true]
    exact hGi
   ·rw [getD_set_ne false (Ne.symm hji)] at hjl
    simp only [upd, hji, if_false]
    exact hkp j _ hji hjl (hG j hj hjl)
 have hgf : ∀ i, (Array.replicate l.toArray.size false).getD i false = false := by
  intro i
  rcases Nat.lt_or_ge i l.toArray.size with h | h
  ·simp at h; simp [h]
  ·simp at h; simp [h]
 have h0 : laid l.toArray (fun _ => undef) (Array.replicate l.toArray.size false) (List.range l.toArray.size) a0 = a0 := by
  have : ∀ (q : List Nat) (a : Act), laid l.toArray (fun _ => undef) (Array.replicate l.toArray.size false) q a = a := by
   intro q
   induction q with
   | nil => intro a; rfl
   | cons i q ih =>
    intro a
    simp only [laid]
    rw [hgf i]
    simpa using ih a
  exact this _ _
 have hk := key k (Array.replicate l.toArray.size false) (fun _ => undef) { w0 with drawn := w0.drawn + 1 } (by unfold qz3r; simp; omega) (by simp) (fun j o _ hj => by rw [hgf j] at hj; cases hj) (fun j _ => hgf j) (by have e : (fun j => (Array.replicate l.toArray.size false).getD j false) = fun _ => false := funext hgf; rw [e]; exact hJ0) (fun i hi h => by rw [hgf i] at h; cases h)
 rw [h0, show k + (l.length - k) = l.toArray.size by simp; omega] at hk
 exact hk
theorem qzaj {P : Program} {op : Oper} {a : Act} {w w' : World} {K : Act -> World -> Prop} {Q : Exit -> Act -> World -> Prop}
  (he : (execOp a.eval op).run P w = .ok .skip w') (h : K (a.put op.dst undef) w') : op.wp P a w K Q := by
 unfold Oper.wp
 rw [he]
 exact h
end
section
attribute [local go_sem ↓] Go.wp_at_zero Go.wp_at_succ
def cntJ (w1 : World) (b : Nat) (v : Value) (L : Nat -> Bool) (V : World) : Prop := ∃ d, V = { (if L 11 = true then w1.setCell ⟨b, 7, none⟩ v else w1) with drawn := d }
def cntG (b nb : Nat) (o s val u1 u2 : Int) : Nat -> Value -> Prop
 | 0, v => v = .pointer (some ⟨b, 7, none⟩)
 | 1, v => v = .int .i64 o
 | 2, v => v = .int .i64 (o + 1)
 | 3, v => v = .int .i64 u1
 | 4, v => v = .pointer (some ⟨b, 8, none⟩)
 | 5, v => v = .int .i64 s
 | 6, v => v = .pointer (some ⟨nb, 1, none⟩)
 | 7, v => v = .int .i64 val
 | 8, v => v = .int .i64 (s + val)
 | 9, v => v = .int .i64 u2
 | 10, v => v = .pointer (some ⟨b, 7, none⟩)
 | _, _ => True
theorem qz8k (B : Nat) (A : Ar) (h : Hd) (m : Vr) (a0 a1 a2 a3 : Option Addr) (c0 c1 c2 c3 : Nat) (w : World) (hB : B <= w.heap.size) (hA : A.size <= 1048576) (I : qzi B w (.slice a0 A.slots.length c0) (.slice a1 A.guides.length c1) (.slice a2 A.nodes.length c2) (.slice a3 A.vers.length c3) A) (h7 : h.code = 7) (hvm : vrOf A h.ver = m) (hx0 : 0 <= h.x_) (hx1 : h.x_ < (A.nodes.length : Int)) (hm0 : -1 <= m.next) (hm1 : m.next < (A.nodes.length : Int)) (ho0 : 0 <= h.out) (ho1 : h.out <= 1000000) (hs0 : 0 <= h.sum) (hs1 : h.sum <= 1000000) (hval : ∀ n (hn : n < A.nodes.length), 0 <= A.nodes[n].value /\ A.nodes[n].value <= 9999) :
  Calls Tryz.prog 116 #[.agg #[.int .i64 A.camera, .slice a0 A.slots.length c0, .slice a1 A.guides.length c1, .slice a2 A.nodes.length c2, .slice a3 A.vers.length c3], .agg (hdC h).toArray, .agg #[.int .i64 m.next, .bool m.gone, .int .i64 m.stamp, .int .i64 m.prev, .int .i64 m.kind]] w fun e w' => e = .returned (.agg (hdC (useH A h)).toArray) /\ Below w.heap.size w w' := by
 have hA' := hA
 unfold Ar.size at hA
 have X0 := World.rangeAt_alloc (World.rangeAt_alloc (World.rangeAt_alloc (qz5 w [.int .i64 A.camera, .slice a0 A.slots.length c0, .slice a1 A.guides.length c1, .slice a2 A.nodes.length c2, .slice a3 A.vers.length c3] 35) (.cells (hdC h).toArray 36)) (.cells #[.int .i64 m.next, .bool m.gone, .int .i64 m.stamp, .int .i64 m.prev, .int .i64 m.kind] 80)) (.cells #[.int .i64 0, .int .i64 0, .int .i64 0, .int .i64 0, .int .i64 0, .int .i64 0, .int .i64 0, .int .i64 0, .int .i64 0, .int .i64 0, .int .i64 0, .int .i64 0, .int .i64 0, .int .i64 0, .int .i64 0, .int .i64 0, .int .i64 0, .int .i64 0, .int .i64 0, .int .i64 0, .int .i64 0, .int .i64 0] 36)
 have H0 := World.rangeAt_alloc (World.rangeAt_alloc (qz5 (w.alloc (.cells #[.int .i64 A.camera, .slice a0 A.slots.length c0, .slice a1 A.guides.length c1, .slice a2 A.nodes.length c2, .slice a3 A.vers.length c3] 35)) (hdC h) 36) (.cells #[.int .i64 m.next, .bool m.gone, .int .i64 m.stamp, .int .i64 m.prev, .int .i64 m.kind] 80)) (.cells #[.int .i64 0, .int .i64 0, .int .i64 0, .int .i64 0, .int .i64 0, .int .i64 0, .int .i64 0, .int .i64 0, .int .i64 0, .int .i64 0, .int .i64 0, .int .i64 0, .int .i64 0, .int .i64 0, .int .i64 0, .int .i64 0, .int .i64 0, .int .i64 0, .int .i64 0, .int .i64 0, .int .i64 0, .int .i64 0] 36)
 have G0 := World.there_alloc (World.there_alloc (qzf (w.alloc (.cells #[.int .i64 A.camera, .slice a0 A.slots.length c0, .slice a1 A.guides.length c1, .slice a2 A.nodes.length c2, .slice a3 A.vers.length c3] 35)) (hdC h).toArray 36 22 (by simp [hdC])) (.cells #[.int .i64 m.next, .bool m.gone, .int .i64 m.stamp, .int .i64 m.prev, .int .i64 m.kind] 80)) (.cells #[.int .i64 0, .int .i64 0, .int .i64 0, .int .i64 0, .int .i64 0, .int .i64 0, .int .i64 0, .int .i64 0, .int .i64 0, .int .i64 0, .int .i64 0, .int .i64 0, .int .i64 0, .int .i64 0, .int .i64 0, .int .i64 0, .int .i64 0, .int .i64 0, .int .i64 0, .int .i64 0, .int .i64 0, .int .i64 0] 36)
 have M0 := World.rangeAt_alloc (qz5 ((w.alloc (.cells #[.int .i64 A.camera, .slice a0 A.slots.length c0, .slice a1 A.guides.length c1, .slice a2 A.nodes.length c2, .slice a3 A.vers.length c3] 35)).alloc (.cells (hdC h).toArray 36)) [.int .i64 m.next, .bool m.gone, .int .i64 m.stamp, .int .i64 m.prev, .int .i64 m.kind] 80) (.cells #[.int .i64 0, .int .i64 0, .int .i64 0, .int .i64 0, .int .i64 0, .int .i64 0, .int .i64 0, .int .i64 0, .int .i64 0, .int .i64 0, .int .i64 0, .int .i64 0, .int .i64 0, .int .i64 0, .int .i64 0, .int .i64 0, .int .i64 0, .int .i64 0, .int .i64 0, .int .i64 0, .int .i64 0, .int .i64 0] 36)
 have F0 := qzf (((w.alloc (.cells #[.int .i64 A.camera, .slice a0 A.slots.length c0, .slice a1 A.guides.length c1, .slice a2 A.nodes.length c2, .slice a3 A.vers.length c3] 35)).alloc (.cells (hdC h).toArray 36)).alloc (.cells #[.int .i64 m.next, .bool m.gone, .int .i64 m.stamp, .int .i64 m.prev, .int .i64 m.kind] 80)) #[.int .i64 0, .int .i64 0, .int .i64 0, .int .i64 0, .int .i64 0, .int .i64 0, .int .i64 0, .int .i64 0, .int .i64 0, .int .i64 0, .int .i64 0, .int .i64 0, .int .i64 0, .int .i64 0, .int .i64 0, .int .i64 0, .int .i64 0, .int .i64 0, .int .i64 0, .int .i64 0, .int .i64 0, .int .i64 0] 36 22 (by decide)
 have K0 := (((((Below.refl w.heap.size w).alloc (Nat.le_refl _) (.cells #[.int .i64 A.camera, .slice a0 A.slots.length c0, .slice a1 A.guides.length c1, .slice a2 A.nodes.length c2, .slice a3 A.vers.length c3] 35)).alloc (by simp) (.cells (hdC h).toArray 36)).alloc (by simp <;> omega) (.cells #[.int .i64 m.next, .bool m.gone, .int .i64 m.stamp, .int .i64 m.prev, .int .i64 m.kind] 80)).alloc (by simp <;> omega) (.cells #[.int .i64 0, .int .i64 0, .int .i64 0, .int .i64 0, .int .i64 0, .int .i64 0, .int .i64 0, .int .i64 0, .int .i64 0, .int .i64 0, .int .i64 0, .int .i64 0, .int .i64 0, .int .i64 0, .int .i64 0, .int .i64 0, .int .i64 0, .int .i64 0, .int .i64 0, .int .i64 0, .int .i64 0, .int .i64 0] 36))
 have hz0 : w.heap.size + 1 + 1 + 1 < ((((w.alloc (.cells #[.int .i64 A.camera, .slice a0 A.slots.length c0, .slice a1 A.guides.length c1, .slice a2 A.nodes.length c2, .slice a3 A.vers.length c3] 35)).alloc (.cells (hdC h).toArray 36)).alloc (.cells #[.int .i64 m.next, .bool m.gone, .int .i64 m.stamp, .int .i64 m.prev, .int .i64 m.kind] 80)).alloc (.cells #[.int .i64 0, .int .i64 0, .int .i64 0, .int .i64 0, .int .i64 0, .int .i64 0, .int .i64 0, .int .i64 0, .int .i64 0, .int .i64 0, .int .i64 0, .int .i64 0, .int .i64 0, .int .i64 0, .int .i64 0, .int .i64 0, .int .i64 0, .int .i64 0, .int .i64 0, .int .i64 0, .int .i64 0, .int .i64 0] 36)).heap.size := by simp
 simp only [World.size_alloc] at H0 G0 M0 F0
 have I0 := I.below (K0.mono hB)
 go_enter Tryz.func116, Tryz.ntmps116
 have tok : True := trivial
 go_wp2_with (clear tok; refine qz24 ((((w.alloc (.cells #[.int .i64 A.camera, .slice a0 A.slots.length c0, .slice a1 A.guides.length c1, .slice a2 A.nodes.length c2, .slice a3 A.vers.length c3] 35)).alloc (.cells (hdC h).toArray 36)).alloc (.cells #[.int .i64 m.next, .bool m.gone, .int .i64 m.stamp, .int .i64 m.prev, .int .i64 m.kind] 80)).alloc (.cells #[.int .i64 0, .int .i64 0, .int .i64 0, .int .i64 0, .int .i64 0, .int .i64 0, .int .i64 0, .int .i64 0, .int .i64 0, .int .i64 0, .int .i64 0, .int .i64 0, .int .i64 0, .int .i64 0, .int .i64 0, .int .i64 0, .int .i64 0, .int .i64 0, .int .i64 0, .int .i64 0, .int .i64 0, .int .i64 0] 36)) ?_)
 generalize hw0 : (((w.alloc (.cells #[.int .i64 A.camera, .slice a0 A.slots.length c0, .slice a1 A.guides.length c1, .slice a2 A.nodes.length c2, .slice a3 A.vers.length c3] 35)).alloc (.cells (hdC h).toArray 36)).alloc (.cells #[.int .i64 m.next, .bool m.gone, .int .i64 m.stamp, .int .i64 m.prev, .int .i64 m.kind] 80)).alloc (.cells #[.int .i64 0, .int .i64 0, .int .i64 0, .int .i64 0, .int .i64 0, .int .i64 0, .int .i64 0, .int .i64 0, .int .i64 0, .int .i64 0, .int .i64 0, .int .i64 0, .int .i64 0, .int .i64 0, .int .i64 0, .int .i64 0, .int .i64 0, .int .i64 0, .int .i64 0, .int .i64 0, .int .i64 0, .int .i64 0] 36) = w0 at *
 clear hw0 I
 show wpList _ _ _ _ _ w0
 obtain ⟨n, hn⟩ : ∃ n : Nat, h.x_ = n := ⟨h.x_.toNat, by omega⟩
 have hnl : n < A.nodes.length := by omega
 have hnl' : (n : Int) < (A.nodes.length : Int) := by omega
 have hnl0 : (0 : Int) <= (n : Int) := by omega
 have hnd : ndOf A h.x_ = A.nodes[n] := by rw [hn, qzs A n hnl]
 obtain ⟨bn, on, rfl, hbn, RN⟩ := qzh.at I0.n (by omega)
 have n0 : w0.cell? ⟨bn, on + n * 3, none⟩ = some (.int .i64 A.nodes[n].key) := by simpa using (qza (sz := 3) (fun _ => rfl) RN n hnl) 0 _ rfl
 have n1 : w0.cell? ⟨bn, on + n * 3 + 1, none⟩ = some (.int .i64 A.nodes[n].value) := (qza (sz := 3) (fun _ => rfl) RN n hnl) 1 _ rfl
 have n2 : w0.cell? ⟨bn, on + n * 3 + 2, none⟩ = some (.int .i64 A.nodes[n].head) := (qza (sz := 3) (fun _ => rfl) RN n hnl) 2 _ rfl
 have x3 : w0.cell? ⟨w.heap.size, 3, none⟩ = some (.slice (some ⟨bn, on, none⟩) A.nodes.length c2) := by simpa using X0 3 _ rfl
 have q10 : w0.cell? ⟨w.heap.size + 1, 10, none⟩ = some (.int .i64 h.x_) := by simpa using H0 10 (.int .i64 h.x_) rfl
 rw [hn] at q10
 clear RN
 have tok : True := trivial
 go_wp2_with (clear tok; refine qz24 (w0.alloc (.cells #[.int .i64 A.nodes[n].key, .int .i64 A.nodes[n].value, .int .i64 A.nodes[n].head] 65)) ?_)
 have al := (Below.refl w0.heap.size w0).alloc (Nat.le_refl _) (.cells #[.int .i64 A.nodes[n].key, .int .i64 A.nodes[n].value, .int .i64 A.nodes[n].head] 65)
 have NB1 := qz5 w0 [.int .i64 A.nodes[n].key, .int .i64 A.nodes[n].value, .int .i64 A.nodes[n].head] 65
 have X1 := qz0 X0 al (by omega)
 have H1 := qz0 H0 al (by omega)
 have G1 := qz3 G0 al (by omega)
 have F1 := qz3 F0 al (by omega)
 have K1 := K0.trans (al.mono (by omega))
 have I1 := I0.below (al.mono (by omega))
 have hz1 := Nat.lt_of_lt_of_le hz0 al.size
 have hl1 : w0.heap.size < (w0.alloc (.cells #[.int .i64 A.nodes[n].key, .int .i64 A.nodes[n].value, .int .i64 A.nodes[n].head] 65)).heap.size := by simp
 have M1 := qz0 M0 al (by omega)
 generalize hw1 : w0.alloc (.cells #[.int .i64 A.nodes[n].key, .int .i64 A.nodes[n].value, .int .i64 A.nodes[n].head] 65) = w1 at *
 show wpList _ _ _ _ _ w1
 clear hw1 al X0 H0 G0 F0 K0 I0
 clear n0 n1 n2 x3 q10
 have q3 : w1.cell? ⟨w.heap.size + 1, 3, none⟩ = some (.int .i64 h.key) := by simpa using H1 3 (.int .i64 h.key) rfl
 have q4 : w1.cell? ⟨w.heap.size + 1, 4, none⟩ = some (.int .i64 h.value) := by simpa using H1 4 (.int .i64 h.value) rfl
 have q7 : w1.cell? ⟨w.heap.size + 1, 7, none⟩ = some (.int .i64 h.out) := by simpa using H1 7 (.int .i64 h.out) rfl
 have q8 : w1.cell? ⟨w.heap.size + 1, 8, none⟩ = some (.int .i64 h.sum) := by simpa using H1 8 (.int .i64 h.sum) rfl
 have q10 : w1.cell? ⟨w.heap.size + 1, 10, none⟩ = some (.int .i64 h.x_) := by simpa using H1 10 (.int .i64 h.x_) rfl
 have f10 : w1.frozen? ⟨w.heap.size + 1, 10, none⟩ = false := by simpa using (G1 10 (by decide)).2
 have f7 : w1.frozen? ⟨w.heap.size + 1, 7, none⟩ = false := by simpa using (G1 7 (by decide)).2
 have f8 : w1.frozen? ⟨w.heap.size + 1, 8, none⟩ = false := by simpa using (G1 8 (by decide)).2
 rw [hn] at q10
 obtain ⟨x0, x1, x2, x3, x4⟩ := row5 X1
 obtain ⟨v0, v1, v2, v3, v4⟩ := row5 M1
 have n0 : w1.cell? ⟨w0.heap.size, 0, none⟩ = some (.int .i64 A.nodes[n].key) := by simpa using NB1 0 _ rfl
 have n1 : w1.cell? ⟨w0.heap.size, 1, none⟩ = some (.int .i64 A.nodes[n].value) := by simpa using NB1 1 _ rfl
 have e1 : ¬ (w.heap.size + 1 = w0.heap.size) := by omega
 have e2 : ¬ (w.heap.size + 1 = w.heap.size) := by omega
 have e3 : ¬ (w.heap.size + 1 = w.heap.size + 1 + 1) := by omega
 clear NB1 hl1 hz0
 have hnH : Hid (h.x_ = n) := hn
 clear hn hnl' hnl0
 have hval := hval n hnl
 have h7' : Hid (h.code = 7) := h7
 clear h7
 by_cases kx : n = 0
 case pos =>
  have hcb : qz2q A h = false := by simp [qz2q, hnH.out, kx]
  have nbx0 : ((n : Int) != 0) = false := by simp [kx]
  obtain ⟨g, hg⟩ : ∃ g : Hd, Hid (g = h) := by exact ⟨_, rfl⟩
  rw [<- hg.out] at H1
  go_upto_region 4 with (first | (go_at_call 80; refine (qze _ _ _ _).mono ?_; rintro e w' ⟨rfl, hw⟩; obtain rfl := hw.symm))
  go_wp2_with fail
  refine (qz4b B A m.next h.value _ _ _ _ _ _ _ _ _ (by first | omega | (simp; omega)) hA' I1 hm0 hm1).mono ?_
  rintro e w5 ⟨rfl, b5⟩
  have H5 := qz0 H1 b5 (by first | omega | (simp; omega))
  have F5 := qz3 F1 b5 (by first | omega | (simp; omega))
  have M5 := qz0 M1 b5 (by first | omega | (simp; omega))
  have K5 := K1.trans (b5.mono (by first | omega | (simp; omega)))
  have hz5 : w.heap.size + 1 + 1 + 1 < w5.heap.size := Nat.lt_of_lt_of_le (m := w1.heap.size) (by first | omega | (simp; omega)) b5.size
  clear x0 x1 x2 x3 x4 v0 v1 v2 v3 v4 n0 n1
  obtain ⟨v0, v1, v2, v3, v4⟩ := row5 M5
  have q7 : w5.cell? ⟨w.heap.size + 1, 7, none⟩ = some (.int .i64 g.out) := by simpa using H5 7 (.int .i64 g.out) rfl
  have q8 : w5.cell? ⟨w.heap.size + 1, 8, none⟩ = some (.int .i64 g.sum) := by simpa using H5 8 (.int .i64 g.sum) rfl
  cases hl : (decide (m.next < 0) || decide (h.value < (ndOf A m.next).key))
  case true =>
   have hlb : qz2k A h = true := by unfold qz2k; rw [hvm, if_pos h7'.out]; exact hl
   obtain ⟨H', hH⟩ : ∃ H' : Hd, Hid (H' = g) := by exact ⟨_, rfl⟩
   have hv : Hid (useH A h = qzb H' 4 g.out g.sum) := by show _ = _; rw [hH.out]; rw [hg.out]; have h7 := h7'.out; simp [useH, h7, hlb, qzb, hcb]
   go_wp2_with (first | (refine wpList_load_mid rfl 36 (.tmp 4) rfl (w.heap.size + 1) 0 ?hxln68 (hdC H') _ ?hcn68 Tryz.underlying36 rfl (qz1 H') ?_))
   try (case hxln68 => rfl)
   case hcn68 => rw [hH.out]; exact H5
   refine (qz16 H' 4 g.out g.sum _).mono ?_
   rintro e w9 ⟨rfl, b9⟩
   have F9 := qz3 F5 b9 (by first | omega | (simp; omega))
   have K9 := K5.trans (b9.mono (by first | omega | (simp; omega)))
   go_wp2_with (refine wpList_store_mid rfl 36 (.tmp 6) _ rfl (w.heap.size + 1 + 1 + 1) 0 (hdC (qzb H' 4 g.out g.sum)).toArray ?hxn68 ?hyn68 ?htn68 (qz8 _) (qzc _) ?_)
   try (case hxn68 => rfl)
   try (case hyn68 => rfl)
   case htn68 => exact F9
   refine bodyPost_ret (v := .agg (hdC (qzb H' 4 g.out g.sum)).toArray) ?_ rfl ⟨by rw [hv.out], ?_⟩
   ·exact qz4 Tryz.results116 _ _ (w.heap.size + 1 + 1 + 1) 0 rfl (hdC (qzb H' 4 g.out g.sum)) _ (World.rangeAt_setCells_same _ _ _ _ F9) Tryz.underlying36 rfl (qz1 _)
   ·exact Below.setCells (by omega) _ _ _ K9
  have hlb : qz2k A h = false := by unfold qz2k; rw [hvm, if_pos h7'.out]; exact hl
  obtain ⟨H', hH⟩ : ∃ H' : Hd, Hid (H' = g) := by exact ⟨_, rfl⟩
  have hv : Hid (useH A h = qzw { H' with x_ := m.next } 2) := by show _ = _; rw [hH.out]; rw [hg.out]; have h7 := h7'.out; simp [useH, h7, hlb, hvm, qzw, hcb]
  go_wp2_with (first | (refine wpList_load_mid rfl 36 (.tmp 4) rfl (w.heap.size + 1) 0 ?hxln69 (hdC H') _ ?hcn69 Tryz.underlying36 rfl (qz1 H') ?_))
  try (case hxln69 => rfl)
  case hcn69 => rw [hH.out]; exact H5
  refine (qz2n H' m.next _).mono ?_
  rintro e w9 ⟨rfl, b9⟩
  have F9 := qz3 F5 b9 (by first | omega | (simp; omega))
  have K9 := K5.trans (b9.mono (by first | omega | (simp; omega)))
  go_wp2_with (refine wpList_store_mid rfl 36 (.tmp 6) _ rfl (w.heap.size + 1 + 1 + 1) 0 (hdC (qzw { H' with x_ := m.next } 2)).toArray ?hxn69 ?hyn69 ?htn69 (qz8 _) (qzc _) ?_)
  try (case hxn69 => rfl)
  try (case hyn69 => rfl)
  case htn69 => exact F9
  refine bodyPost_ret (v := .agg (hdC (qzw { H' with x_ := m.next } 2)).toArray) ?_ rfl ⟨by rw [hv.out], ?_⟩
  ·exact qz4 Tryz.results116 _ _ (w.heap.size + 1 + 1 + 1) 0 rfl (hdC (qzw { H' with x_ := m.next } 2)) _ (World.rangeAt_setCells_same _ _ _ _ F9) Tryz.underlying36 rfl (qz1 _)
  ·exact Below.setCells (by omega) _ _ _ K9
 have nbx : ((n : Int) != 0) = true := by simp [kx]
 have hnx : Hid (¬ (h.x_ = 0)) := by have := hnH.out; show ¬ _; omega
 cases kg : m.gone
 case true =>
  have hcb : qz2q A h = false := by simp [qz2q, hvm, kg]
  obtain ⟨g, hg⟩ : ∃ g : Hd, Hid (g = h) := by exact ⟨_, rfl⟩
  rw [<- hg.out] at H1
  go_upto_region 4 with (first | (go_at_call 80; refine (qze _ _ _ _).mono ?_; rintro e w' ⟨rfl, hw⟩; obtain rfl := hw.symm))
  go_wp2_with fail
  refine (qz4b B A m.next h.value _ _ _ _ _ _ _ _ _ (by first | omega | (simp; omega)) hA' I1 hm0 hm1).mono ?_
  rintro e w5 ⟨rfl, b5⟩
  have H5 := qz0 H1 b5 (by first | omega | (simp; omega))
  have F5 := qz3 F1 b5 (by first | omega | (simp; omega))
  have M5 := qz0 M1 b5 (by first | omega | (simp; omega))
  have K5 := K1.trans (b5.mono (by first | omega | (simp; omega)))
  have hz5 : w.heap.size + 1 + 1 + 1 < w5.heap.size := Nat.lt_of_lt_of_le (m := w1.heap.size) (by first | omega | (simp; omega)) b5.size
  clear x0 x1 x2 x3 x4 v0 v1 v2 v3 v4 n0 n1
  obtain ⟨v0, v1, v2, v3, v4⟩ := row5 M5
  have q7 : w5.cell? ⟨w.heap.size + 1, 7, none⟩ = some (.int .i64 g.out) := by simpa using H5 7 (.int .i64 g.out) rfl
  have q8 : w5.cell? ⟨w.heap.size + 1, 8, none⟩ = some (.int .i64 g.sum) := by simpa using H5 8 (.int .i64 g.sum) rfl
  cases hl : (decide (m.next < 0) || decide (h.value < (ndOf A m.next).key))
  case true =>
   have hlb : qz2k A h = true := by unfold qz2k; rw [hvm, if_pos h7'.out]; exact hl
   obtain ⟨H', hH⟩ : ∃ H' : Hd, Hid (H' = g) := by exact ⟨_, rfl⟩
   have hv : Hid (useH A h = qzb H' 4 g.out g.sum) := by show _ = _; rw [hH.out]; rw [hg.out]; have h7 := h7'.out; simp [useH, h7, hlb, qzb, hcb]
   go_wp2_with (first | (refine wpList_load_mid rfl 36 (.tmp 4) rfl (w.heap.size + 1) 0 ?hxln70 (hdC H') _ ?hcn70 Tryz.underlying36 rfl (qz1 H') ?_))
   try (case hxln70 => rfl)
   case hcn70 => rw [hH.out]; exact H5
   refine (qz16 H' 4 g.out g.sum _).mono ?_
   rintro e w9 ⟨rfl, b9⟩
   have F9 := qz3 F5 b9 (by first | omega | (simp; omega))
   have K9 := K5.trans (b9.mono (by first | omega | (simp; omega)))
   go_wp2_with (refine wpList_store_mid rfl 36 (.tmp 6) _ rfl (w.heap.size + 1 + 1 + 1) 0 (hdC (qzb H' 4 g.out g.sum)).toArray ?hxn70 ?hyn70 ?htn70 (qz8 _) (qzc _) ?_)
   try (case hxn70 => rfl)
   try (case hyn70 => rfl)
   case htn70 => exact F9
   refine bodyPost_ret (v := .agg (hdC (qzb H' 4 g.out g.sum)).toArray) ?_ rfl ⟨by rw [hv.out], ?_⟩
   ·exact qz4 Tryz.results116 _ _ (w.heap.size + 1 + 1 + 1) 0 rfl (hdC (qzb H' 4 g.out g.sum)) _ (World.rangeAt_setCells_same _ _ _ _ F9) Tryz.underlying36 rfl (qz1 _)
   ·exact Below.setCells (by omega) _ _ _ K9
  have hlb : qz2k A h = false := by unfold qz2k; rw [hvm, if_pos h7'.out]; exact hl
  obtain ⟨H', hH⟩ : ∃ H' : Hd, Hid (H' = g) := by exact ⟨_, rfl⟩
  have hv : Hid (useH A h = qzw { H' with x_ := m.next } 2) := by show _ = _; rw [hH.out]; rw [hg.out]; have h7 := h7'.out; simp [useH, h7, hlb, hvm, qzw, hcb]
  go_wp2_with (first | (refine wpList_load_mid rfl 36 (.tmp 4) rfl (w.heap.size + 1) 0 ?hxln71 (hdC H') _ ?hcn71 Tryz.underlying36 rfl (qz1 H') ?_))
  try (case hxln71 => rfl)
  case hcn71 => rw [hH.out]; exact H5
  refine (qz2n H' m.next _).mono ?_
  rintro e w9 ⟨rfl, b9⟩
  have F9 := qz3 F5 b9 (by first | omega | (simp; omega))
  have K9 := K5.trans (b9.mono (by first | omega | (simp; omega)))
  go_wp2_with (refine wpList_store_mid rfl 36 (.tmp 6) _ rfl (w.heap.size + 1 + 1 + 1) 0 (hdC (qzw { H' with x_ := m.next } 2)).toArray ?hxn71 ?hyn71 ?htn71 (qz8 _) (qzc _) ?_)
  try (case hxn71 => rfl)
  try (case hyn71 => rfl)
  case htn71 => exact F9
  refine bodyPost_ret (v := .agg (hdC (qzw { H' with x_ := m.next } 2)).toArray) ?_ rfl ⟨by rw [hv.out], ?_⟩
  ·exact qz4 Tryz.results116 _ _ (w.heap.size + 1 + 1 + 1) 0 rfl (hdC (qzw { H' with x_ := m.next } 2)) _ (World.rangeAt_setCells_same _ _ _ _ F9) Tryz.underlying36 rfl (qz1 _)
  ·exact Below.setCells (by omega) _ _ _ K9
 cases kin : inB A.nodes[n].key h.key h.value
 case false =>
  have hcb : qz2q A h = false := by simp [qz2q, hnd, kin]
  obtain ⟨g, hg⟩ : ∃ g : Hd, Hid (g = h) := by exact ⟨_, rfl⟩
  rw [<- hg.out] at H1
  go_upto_region 4 with (first | (go_at_call 80; refine (qze _ _ _ _).mono ?_; rintro e w' ⟨rfl, hw⟩; obtain rfl := hw.symm))
  go_wp2_with fail
  refine (qz4b B A m.next h.value _ _ _ _ _ _ _ _ _ (by first | omega | (simp; omega)) hA' I1 hm0 hm1).mono ?_
  rintro e w5 ⟨rfl, b5⟩
  have H5 := qz0 H1 b5 (by first | omega | (simp; omega))
  have F5 := qz3 F1 b5 (by first | omega | (simp; omega))
  have M5 := qz0 M1 b5 (by first | omega | (simp; omega))
  have K5 := K1.trans (b5.mono (by first | omega | (simp; omega)))
  have hz5 : w.heap.size + 1 + 1 + 1 < w5.heap.size := Nat.lt_of_lt_of_le (m := w1.heap.size) (by first | omega | (simp; omega)) b5.size
  clear x0 x1 x2 x3 x4 v0 v1 v2 v3 v4 n0 n1
  obtain ⟨v0, v1, v2, v3, v4⟩ := row5 M5
  have q7 : w5.cell? ⟨w.heap.size + 1, 7, none⟩ = some (.int .i64 g.out) := by simpa using H5 7 (.int .i64 g.out) rfl
  have q8 : w5.cell? ⟨w.heap.size + 1, 8, none⟩ = some (.int .i64 g.sum) := by simpa using H5 8 (.int .i64 g.sum) rfl
  cases hl : (decide (m.next < 0) || decide (h.value < (ndOf A m.next).key))
  case true =>
   have hlb : qz2k A h = true := by unfold qz2k; rw [hvm, if_pos h7'.out]; exact hl
   obtain ⟨H', hH⟩ : ∃ H' : Hd, Hid (H' = g) := by exact ⟨_, rfl⟩
   have hv : Hid (useH A h = qzb H' 4 g.out g.sum) := by show _ = _; rw [hH.out]; rw [hg.out]; have h7 := h7'.out; simp [useH, h7, hlb, qzb, hcb]
   go_wp2_with (first | (refine wpList_load_mid rfl 36 (.tmp 4) rfl (w.heap.size + 1) 0 ?hxln72 (hdC H') _ ?hcn72 Tryz.underlying36 rfl (qz1 H') ?_))
   try (case hxln72 => rfl)
   case hcn72 => rw [hH.out]; exact H5
   refine (qz16 H' 4 g.out g.sum _).mono ?_
   rintro e w9 ⟨rfl, b9⟩
   have F9 := qz3 F5 b9 (by first | omega | (simp; omega))
   have K9 := K5.trans (b9.mono (by first | omega | (simp; omega)))
   go_wp2_with (refine wpList_store_mid rfl 36 (.tmp 6) _ rfl (w.heap.size + 1 + 1 + 1) 0 (hdC (qzb H' 4 g.out g.sum)).toArray ?hxn72 ?hyn72 ?htn72 (qz8 _) (qzc _) ?_)
   try (case hxn72 => rfl)
   try (case hyn72 => rfl)
   case htn72 => exact F9
   refine bodyPost_ret (v := .agg (hdC (qzb H' 4 g.out g.sum)).toArray) ?_ rfl ⟨by rw [hv.out], ?_⟩
   ·exact qz4 Tryz.results116 _ _ (w.heap.size + 1 + 1 + 1) 0 rfl (hdC (qzb H' 4 g.out g.sum)) _ (World.rangeAt_setCells_same _ _ _ _ F9) Tryz.underlying36 rfl (qz1 _)
   ·exact Below.setCells (by omega) _ _ _ K9
  have hlb : qz2k A h = false := by unfold qz2k; rw [hvm, if_pos h7'.out]; exact hl
  obtain ⟨H', hH⟩ : ∃ H' : Hd, Hid (H' = g) := by exact ⟨_, rfl⟩
  have hv : Hid (useH A h = qzw { H' with x_ := m.next } 2) := by show _ = _; rw [hH.out]; rw [hg.out]; have h7 := h7'.out; simp [useH, h7, hlb, hvm, qzw, hcb]
  go_wp2_with (first | (refine wpList_load_mid rfl 36 (.tmp 4) rfl (w.heap.size + 1) 0 ?hxln73 (hdC H') _ ?hcn73 Tryz.underlying36 rfl (qz1 H') ?_))
  try (case hxln73 => rfl)
  case hcn73 => rw [hH.out]; exact H5
  refine (qz2n H' m.next _).mono ?_
  rintro e w9 ⟨rfl, b9⟩
  have F9 := qz3 F5 b9 (by first | omega | (simp; omega))
  have K9 := K5.trans (b9.mono (by first | omega | (simp; omega)))
  go_wp2_with (refine wpList_store_mid rfl 36 (.tmp 6) _ rfl (w.heap.size + 1 + 1 + 1) 0 (hdC (qzw { H' with x_ := m.next } 2)).toArray ?hxn73 ?hyn73 ?htn73 (qz8 _) (qzc _) ?_)
  try (case hxn73 => rfl)
  try (case hyn73 => rfl)
  case htn73 => exact F9
  refine bodyPost_ret (v := .agg (hdC (qzw { H' with x_ := m.next } 2)).toArray) ?_ rfl ⟨by rw [hv.out], ?_⟩
  ·exact qz4 Tryz.results116 _ _ (w.heap.size + 1 + 1 + 1) 0 rfl (hdC (qzw { H' with x_ := m.next } 2)) _ (World.rangeAt_setCells_same _ _ _ _ F9) Tryz.underlying36 rfl (qz1 _)
  ·exact Below.setCells (by omega) _ _ _ K9
 have hcb : qz2q A h = true := by
  have := hnx.out
  have := h7'.out
  simp [qz2q, hnd, hvm, kin, kg, *]
 obtain ⟨u1, hu1⟩ : ∃ u1 : Int, Hid (u1 = min (h.out + 1) 1000000) := by exact ⟨_, rfl⟩
 obtain ⟨u2, hu2⟩ : ∃ u2 : Int, Hid (u2 = min (h.sum + A.nodes[n].value) 1000000) := by exact ⟨_, rfl⟩
 have mn1 : (if (1000000 : Int) < h.out + 1 then (1000000 : Int) else h.out + 1) = u1 := by rw [hu1.out]; omega
 have wr1 : IntKind.i64.wrap (h.out + 1) = h.out + 1 := IntWalk.i64_in _ (by omega)
 have wr2 : IntKind.i64.wrap (h.sum + A.nodes[n].value) = h.sum + A.nodes[n].value := IntWalk.i64_in _ (by omega)
 have mn2 : (if (1000000 : Int) < h.sum + A.nodes[n].value then (1000000 : Int) else h.sum + A.nodes[n].value) = u2 := by rw [hu2.out]; omega
 go_upto_region 3 with (first | (go_at_call 80; refine (qze _ _ _ _).mono ?_; rintro e w' ⟨rfl, hw⟩; obtain rfl := hw.symm))
 clear q3 q4 q10 f10 x0 x1 x2 x3 x4 v0 v1 v2 v3 v4 n0
 refine qz8a 12 (by kernel_rfl) (cntJ w1 (w.heap.size + 1) (.int .i64 u1)) ⟨w1.drawn + 1, rfl⟩ (fun _ i v _ => cntG (w.heap.size + 1) w0.heap.size h.out h.sum A.nodes[n].value u1 u2 i v) (by kernel_rfl) (by kernel_rfl) (by kernel_rfl) (by kernel_rfl) (by rfl) ?step ?final
 case step =>
  intro i o hik ho L a V hLi hLk hcl hJ hnn hd K hK
  have y8 : V.cell? ⟨w.heap.size + 1, 8, none⟩ = some (.int .i64 h.sum) := by
   obtain ⟨d, hd⟩ := hJ
   rw [hd]
   show World.cell? (if L 11 = true then _ else _) _ = _
   split
   ·exact (World.cell?_setCell_other _ _ _ _ (by simp)).trans q8
   ·exact q8
  have yn : V.cell? ⟨w0.heap.size, 1, none⟩ = some (.int .i64 A.nodes[n].value) := by
   obtain ⟨d, hd⟩ := hJ
   rw [hd]
   show World.cell? (if L 11 = true then _ else _) _ = _
   split
   ·exact (World.cell?_setCell_other _ _ _ _ (by simp <;> omega)).trans n1
   ·exact n1
  have y7 : L 11 = false -> V.cell? ⟨w.heap.size + 1, 7, none⟩ = some (.int .i64 h.out) := by
   intro hl
   obtain ⟨d, hd⟩ := hJ
   rw [hd]
   show World.cell? (if L 11 = true then _ else _) _ = _
   rw [if_neg (by rw [hl]; decide)]
   exact q7
  have y7f : L 11 = false -> V.frozen? ⟨w.heap.size + 1, 7, none⟩ = false := by
   intro hl
   obtain ⟨d, hd⟩ := hJ
   rw [hd]
   show World.frozen? (if L 11 = true then _ else _) _ = _
   rw [if_neg (by rw [hl]; decide)]
   exact f7
  match i, ho with
  | 0, ho =>
   obtain rfl := Option.some.inj ho
   have e0 : a.eval (.tmp 4) = .pointer (some ⟨w.heap.size + 1, 0, none⟩) := hnn 4 rfl
   refine qz7 (v := .pointer (some ⟨w.heap.size + 1, 7, none⟩)) (w' := V) ?_ (hK _ _ rfl hJ (fun j v' _ _ h => h))
   generalize a.eval = ev at *
   go_simp
  | 1, ho =>
   have hl : L 11 = false := by
    cases hl : L 11
    ·rfl
    ·have := hcl 11 _ rfl hl ⟨1, .phase⟩ (by simp) rfl
     rw [hLi] at this
     cases this
   have y7 := y7 hl
   obtain rfl := Option.some.inj ho
   have e0 : a.eval (.tmp 31) = .pointer (some ⟨w.heap.size + 1, 7, none⟩) := (hd ⟨0, .data⟩ (by simp) rfl 31 rfl).2
   refine qz7 (v := .int .i64 h.out) (w' := V) ?_ (hK _ _ rfl hJ (fun j v' _ _ h => h))
   generalize a.eval = ev at *
   go_simp
  | 2, ho =>
   obtain rfl := Option.some.inj ho
   have e0 : a.eval (.tmp 32) = .int .i64 h.out := (hd ⟨1, .data⟩ (by simp) rfl 32 rfl).2
   have ec : a.eval (.const (.int .i64 1)) = .int .i64 1 := rfl
   refine qz7 (v := .int .i64 (h.out + 1)) (w' := V) ?_ (hK _ _ rfl hJ (fun j v' _ _ h => h))
   generalize a.eval = ev at *
   go_simp
  | 3, ho =>
   obtain rfl := Option.some.inj ho
   have e0 : a.eval (.tmp 33) = .int .i64 (h.out + 1) := (hd ⟨2, .data⟩ (by simp) rfl 33 rfl).2
   have ec : a.eval (.const (.int .i64 1000000)) = .int .i64 1000000 := rfl
   refine qz7 (v := .int .i64 u1) (w' := V) ?_ (hK _ _ rfl hJ (fun j v' _ _ h => h))
   generalize a.eval = ev at *
   go_simp
  | 4, ho =>
   obtain rfl := Option.some.inj ho
   have e0 : a.eval (.tmp 4) = .pointer (some ⟨w.heap.size + 1, 0, none⟩) := hnn 4 rfl
   refine qz7 (v := .pointer (some ⟨w.heap.size + 1, 8, none⟩)) (w' := V) ?_ (hK _ _ rfl hJ (fun j v' _ _ h => h))
   generalize a.eval = ev at *
   go_simp
  | 5, ho =>
   obtain rfl := Option.some.inj ho
   have e0 : a.eval (.tmp 35) = .pointer (some ⟨w.heap.size + 1, 8, none⟩) := (hd ⟨4, .data⟩ (by simp) rfl 35 rfl).2
   refine qz7 (v := .int .i64 h.sum) (w' := V) ?_ (hK _ _ rfl hJ (fun j v' _ _ h => h))
   generalize a.eval = ev at *
   go_simp
  | 6, ho =>
   obtain rfl := Option.some.inj ho
   have e0 : a.eval (.tmp 7) = .pointer (some ⟨w0.heap.size, 0, none⟩) := hnn 7 rfl
   refine qz7 (v := .pointer (some ⟨w0.heap.size, 1, none⟩)) (w' := V) ?_ (hK _ _ rfl hJ (fun j v' _ _ h => h))
   generalize a.eval = ev at *
   go_simp
  | 7, ho =>
   obtain rfl := Option.some.inj ho
   have e0 : a.eval (.tmp 37) = .pointer (some ⟨w0.heap.size, 1, none⟩) := (hd ⟨6, .data⟩ (by simp) rfl 37 rfl).2
   refine qz7 (v := .int .i64 A.nodes[n].value) (w' := V) ?_ (hK _ _ rfl hJ (fun j v' _ _ h => h))
   generalize a.eval = ev at *
   go_simp
  | 8, ho =>
   obtain rfl := Option.some.inj ho
   have e0 : a.eval (.tmp 36) = .int .i64 h.sum := (hd ⟨5, .data⟩ (by simp) rfl 36 rfl).2
   have e1 : a.eval (.tmp 38) = .int .i64 A.nodes[n].value := (hd ⟨7, .data⟩ (by simp) rfl 38 rfl).2
   refine qz7 (v := .int .i64 (h.sum + A.nodes[n].value)) (w' := V) ?_ (hK _ _ rfl hJ (fun j v' _ _ h => h))
   generalize a.eval = ev at *
   go_simp
  | 9, ho =>
   obtain rfl := Option.some.inj ho
   have e0 : a.eval (.tmp 39) = .int .i64 (h.sum + A.nodes[n].value) := (hd ⟨8, .data⟩ (by simp) rfl 39 rfl).2
   have ec : a.eval (.const (.int .i64 1000000)) = .int .i64 1000000 := rfl
   refine qz7 (v := .int .i64 u2) (w' := V) ?_ (hK _ _ rfl hJ (fun j v' _ _ h => h))
   generalize a.eval = ev at *
   go_simp
  | 10, ho =>
   obtain rfl := Option.some.inj ho
   have e0 : a.eval (.tmp 4) = .pointer (some ⟨w.heap.size + 1, 0, none⟩) := hnn 4 rfl
   refine qz7 (v := .pointer (some ⟨w.heap.size + 1, 7, none⟩)) (w' := V) ?_ (hK _ _ rfl hJ (fun j v' _ _ h => h))
   generalize a.eval = ev at *
   go_simp
  | 11, ho =>
   have y7 := y7 hLi
   have y7f := y7f hLi
   obtain rfl := Option.some.inj ho
   have e0 : a.eval (.tmp 41) = .pointer (some ⟨w.heap.size + 1, 7, none⟩) := (hd ⟨10, .data⟩ (by simp) rfl 41 rfl).2
   have e1 : a.eval (.tmp 34) = .int .i64 u1 := (hd ⟨3, .data⟩ (by simp) rfl 34 rfl).2
   refine qzaj (w' := V.setCell ⟨w.heap.size + 1, 7, none⟩ (.int .i64 u1)) ?_ (hK _ _ trivial ?_ (fun j v' _ _ h => h))
   ·generalize a.eval = ev at *
    go_simp
   ·obtain ⟨d, hd⟩ := hJ
    refine ⟨d, ?_⟩
    rw [hd, if_neg (by rw [hLi]; decide)]
    rfl
  | n + 12, ho => omega
 intro L vs V hall hJ hG
 obtain ⟨d, hd⟩ := hJ
 rw [if_pos (hall 11 (by decide))] at hd
 obtain ⟨g, hg⟩ : ∃ g : Hd, Hid (g = { h with out := u1, sum := u2 }) := by exact ⟨_, rfl⟩
 have g9 : vs 9 = .int .i64 u2 := hG 9 (by decide)
 have X3 : V.rangeAt w.heap.size 0 [.int .i64 A.camera, .slice a0 A.slots.length c0, .slice a1 A.guides.length c1, .slice (some ⟨bn, on, none⟩) A.nodes.length c2, .slice a3 A.vers.length c3] := by rw [hd]; exact qzp X1 (a := ⟨w.heap.size + 1, 7, none⟩) (by show w.heap.size + 1 ≠ w.heap.size; omega) _
 have H3 : V.rangeAt (w.heap.size + 1) 0 (hdC { h with out := u1 }) := by rw [hd]; exact qz6 H1 7 (by simp [hdC]) _
 have G3 : V.there (w.heap.size + 1) 0 22 := by rw [hd]; exact qz2 G1 _ _
 have F3 : V.there (w.heap.size + 1 + 1 + 1) 0 22 := by rw [hd]; exact qz2 F1 _ _
 have M3 : V.rangeAt (w.heap.size + 1 + 1) 0 [.int .i64 m.next, .bool false, .int .i64 m.stamp, .int .i64 m.prev, .int .i64 m.kind] := by rw [hd, <- kg]; exact qzp M1 (a := ⟨w.heap.size + 1, 7, none⟩) (by show w.heap.size + 1 ≠ w.heap.size + 1 + 1; omega) _
 have KS := Below.setCell K1 (p := ⟨w.heap.size + 1, 7, none⟩) (by show w.heap.size <= w.heap.size + 1; omega) (.int .i64 u1)
 have K3 : Below w.heap.size w V := by rw [hd]; exact ⟨KS.os, KS.tape, KS.output, KS.size, KS.block⟩
 have hz3 : w.heap.size + 1 + 1 + 1 < V.heap.size := by rw [hd]; show _ < (w1.setCell _ _).heap.size; rw [World.size_setCell]; exact hz1
 have KT := Below.setCell (Below.refl B w1) (p := ⟨w.heap.size + 1, 7, none⟩) (by show B <= w.heap.size + 1; omega) (.int .i64 u1)
 have I3 : qzi B V (.slice a0 A.slots.length c0) (.slice a1 A.guides.length c1) (.slice (some ⟨bn, on, none⟩) A.nodes.length c2) (.slice a3 A.vers.length c3) A := I1.below (by rw [hd]; exact ⟨KT.os, KT.tape, KT.output, KT.size, KT.block⟩)
 have y8 : V.cell? ⟨w.heap.size + 1, 8, none⟩ = some (.int .i64 h.sum) := by simpa using H3 8 (.int .i64 h.sum) rfl
 have f8' : V.frozen? ⟨w.heap.size + 1, 8, none⟩ = false := by simpa using (G3 8 (by decide)).2
 generalize hl : laid _ vs _ _ _ = A'
 have hA' : A' = { tmps := #[.agg #[.int .i64 A.camera, .slice a0 A.slots.length c0, .slice a1 A.guides.length c1, .slice (some ⟨bn, on, none⟩) A.nodes.length c2, .slice a3 A.vers.length c3], .agg (hdC h).toArray, .agg #[.int .i64 m.next, .bool false, .int .i64 m.stamp, .int .i64 m.prev, .int .i64 m.kind], .pointer (some ⟨w.heap.size, 0, none⟩), .pointer (some ⟨w.heap.size + 1, 0, none⟩), .pointer (some ⟨w.heap.size + 1 + 1, 0, none⟩), .pointer (some ⟨w.heap.size + 1 + 1 + 1, 0, none⟩), .pointer (some ⟨w0.heap.size, 0, none⟩), .pointer (some ⟨w.heap.size, 3, none⟩), .slice (some ⟨bn, on, none⟩) A.nodes.length c2, .pointer (some ⟨w.heap.size + 1, 10, none⟩), .int .i64 (n : Int), .pointer (some ⟨bn, on + n * 3, none⟩), .agg #[.int .i64 A.nodes[n].key, .int .i64 A.nodes[n].value, .int .i64 A.nodes[n].head], .pointer (some ⟨w.heap.size + 1, 10, none⟩), .int .i64 (n : Int), .bool true, .bool true, .pointer (some ⟨w.heap.size + 1 + 1, 1, none⟩), .bool false, .bool true, .bool true, .bool true, .pointer (some ⟨w0.heap.size, 0, none⟩), .int .i64 A.nodes[n].key, .pointer (some ⟨w.heap.size + 1, 3, none⟩), .int .i64 h.key, .pointer (some ⟨w.heap.size + 1, 4, none⟩), .int .i64 h.value, .bool true, .bool true, vs 0, vs 1, vs 2, vs 3, vs 4, vs 5, vs 6, vs 7, vs 8, vs 9, vs 10, undef, undef, undef, undef, undef, undef, undef, undef, undef, undef, undef, undef, undef, undef, undef, undef, undef], defers := [] } := by
  rw [<- hl]
  kernel_rfl
 subst hA'
 rw [g9]
 clear hl hG g9 hd KS KT X1 H1 G1 F1 M1 K1 hz1 I1 n1 q7 q8 f7 f8 mn1 mn2 wr1 wr2 hall
 simp only [List.drop_succ_cons, List.drop_zero]
 have tok : True := trivial
 go_wp2_with (clear tok; refine qz24 (V.setCell ⟨w.heap.size + 1, 8, none⟩ (.int .i64 u2)) ?_)
 have X4 := qzp X3 (a := ⟨w.heap.size + 1, 8, none⟩) (by show w.heap.size + 1 ≠ w.heap.size; omega) (.int .i64 u2)
 have M4 := qzp M3 (a := ⟨w.heap.size + 1, 8, none⟩) (by show w.heap.size + 1 ≠ w.heap.size + 1 + 1; omega) (.int .i64 u2)
 have H4 : (V.setCell ⟨w.heap.size + 1, 8, none⟩ (.int .i64 u2)).rangeAt (w.heap.size + 1) 0 (hdC g) := by rw [hg.out]; exact qz6 H3 8 (by simp [hdC]) _
 have F4 := qz2 F3 ⟨w.heap.size + 1, 8, none⟩ (.int .i64 u2)
 have K4 := Below.setCell K3 (p := ⟨w.heap.size + 1, 8, none⟩) (by show w.heap.size <= w.heap.size + 1; omega) (.int .i64 u2)
 have I4 := I3.below (Below.setCell (Below.refl B V) (p := ⟨w.heap.size + 1, 8, none⟩) (by show B <= w.heap.size + 1; omega) (.int .i64 u2))
 have hz4 : w.heap.size + 1 + 1 + 1 < (V.setCell ⟨w.heap.size + 1, 8, none⟩ (.int .i64 u2)).heap.size := by simp only [World.size_setCell]; exact hz3
 generalize hw4 : V.setCell ⟨w.heap.size + 1, 8, none⟩ (.int .i64 u2) = w4 at *
 show wpList _ _ _ _ _ w4
 clear hw4 X3 M3 H3 F3 K3 I3 hz3 G3 y8 f8'
 obtain ⟨x0, x1, x2, x3, x4⟩ := row5 X4
 obtain ⟨v0, v1, v2, v3, v4⟩ := row5 M4
 have gv : g.value = h.value := by rw [hg.out]
 have q4 : w4.cell? ⟨w.heap.size + 1, 4, none⟩ = some (.int .i64 g.value) := by simpa using H4 4 (.int .i64 g.value) rfl
 rw [gv] at q4
 clear gv
 go_wp2_with fail
 refine (qz4b B A m.next h.value _ _ _ _ _ _ _ _ _ (by first | omega | (simp; omega)) hA' I4 hm0 hm1).mono ?_
 rintro e w5 ⟨rfl, b5⟩
 have H5 := qz0 H4 b5 (by first | omega | (simp; omega))
 have F5 := qz3 F4 b5 (by first | omega | (simp; omega))
 have M5 := qz0 M4 b5 (by first | omega | (simp; omega))
 have K5 := K4.trans (b5.mono (by first | omega | (simp; omega)))
 have hz5 : w.heap.size + 1 + 1 + 1 < w5.heap.size := Nat.lt_of_lt_of_le (m := w4.heap.size) (by first | omega | (simp; omega)) b5.size
 clear x0 x1 x2 x3 x4 v0 v1 v2 v3 v4
 obtain ⟨v0, v1, v2, v3, v4⟩ := row5 M5
 have q7 : w5.cell? ⟨w.heap.size + 1, 7, none⟩ = some (.int .i64 g.out) := by simpa using H5 7 (.int .i64 g.out) rfl
 have q8 : w5.cell? ⟨w.heap.size + 1, 8, none⟩ = some (.int .i64 g.sum) := by simpa using H5 8 (.int .i64 g.sum) rfl
 cases hl : (decide (m.next < 0) || decide (h.value < (ndOf A m.next).key))
 case true =>
  have hlb : qz2k A h = true := by unfold qz2k; rw [hvm, if_pos h7'.out]; exact hl
  obtain ⟨H', hH⟩ : ∃ H' : Hd, Hid (H' = g) := by exact ⟨_, rfl⟩
  have hv : Hid (useH A h = qzb H' 4 g.out g.sum) := by show _ = _; rw [hH.out]; rw [hg.out]; have h7 := h7'.out; simp [useH, h7, hlb, qzb, hcb, qz6v, hnd, hu1.out, hu2.out]
  go_wp2_with (first | (refine wpList_load_mid rfl 36 (.tmp 4) rfl (w.heap.size + 1) 0 ?hxln74 (hdC H') _ ?hcn74 Tryz.underlying36 rfl (qz1 H') ?_))
  try (case hxln74 => rfl)
  case hcn74 => rw [hH.out]; exact H5
  refine (qz16 H' 4 g.out g.sum _).mono ?_
  rintro e w9 ⟨rfl, b9⟩
  have F9 := qz3 F5 b9 (by first | omega | (simp; omega))
  have K9 := K5.trans (b9.mono (by first | omega | (simp; omega)))
  go_wp2_with (refine wpList_store_mid rfl 36 (.tmp 6) _ rfl (w.heap.size + 1 + 1 + 1) 0 (hdC (qzb H' 4 g.out g.sum)).toArray ?hxn74 ?hyn74 ?htn74 (qz8 _) (qzc _) ?_)
  try (case hxn74 => rfl)
  try (case hyn74 => rfl)
  case htn74 => exact F9
  refine bodyPost_ret (v := .agg (hdC (qzb H' 4 g.out g.sum)).toArray) ?_ rfl ⟨by rw [hv.out], ?_⟩
  ·exact qz4 Tryz.results116 _ _ (w.heap.size + 1 + 1 + 1) 0 rfl (hdC (qzb H' 4 g.out g.sum)) _ (World.rangeAt_setCells_same _ _ _ _ F9) Tryz.underlying36 rfl (qz1 _)
  ·exact Below.setCells (by omega) _ _ _ K9
 have hlb : qz2k A h = false := by unfold qz2k; rw [hvm, if_pos h7'.out]; exact hl
 obtain ⟨H', hH⟩ : ∃ H' : Hd, Hid (H' = g) := by exact ⟨_, rfl⟩
 have hv : Hid (useH A h = qzw { H' with x_ := m.next } 2) := by show _ = _; rw [hH.out]; rw [hg.out]; have h7 := h7'.out; simp [useH, h7, hlb, hvm, qzw, hcb, qz6v, hnd, hu1.out, hu2.out]
 go_wp2_with (first | (refine wpList_load_mid rfl 36 (.tmp 4) rfl (w.heap.size + 1) 0 ?hxln75 (hdC H') _ ?hcn75 Tryz.underlying36 rfl (qz1 H') ?_))
 try (case hxln75 => rfl)
 case hcn75 => rw [hH.out]; exact H5
 refine (qz2n H' m.next _).mono ?_
 rintro e w9 ⟨rfl, b9⟩
 have F9 := qz3 F5 b9 (by first | omega | (simp; omega))
 have K9 := K5.trans (b9.mono (by first | omega | (simp; omega)))
 go_wp2_with (refine wpList_store_mid rfl 36 (.tmp 6) _ rfl (w.heap.size + 1 + 1 + 1) 0 (hdC (qzw { H' with x_ := m.next } 2)).toArray ?hxn75 ?hyn75 ?htn75 (qz8 _) (qzc _) ?_)
 try (case hxn75 => rfl)
 try (case hyn75 => rfl)
 case htn75 => exact F9
 refine bodyPost_ret (v := .agg (hdC (qzw { H' with x_ := m.next } 2)).toArray) ?_ rfl ⟨by rw [hv.out], ?_⟩
 ·exact qz4 Tryz.results116 _ _ (w.heap.size + 1 + 1 + 1) 0 rfl (hdC (qzw { H' with x_ := m.next } 2)) _ (World.rangeAt_setCells_same _ _ _ _ F9) Tryz.underlying36 rfl (qz1 _)
 ·exact Below.setCells (by omega) _ _ _ K9
end
section
attribute [local go_sem ↓] Go.wp_at_zero Go.wp_at_succ
theorem qzaw (B : Nat) (A : Ar) (h : Hd) (m : Vr) (a0 a1 a2 a3 : Option Addr) (c0 c1 c2 c3 : Nat) (w : World) (hB : B <= w.heap.size) (hA : A.size <= 1048576) (I : qzi B w (.slice a0 A.slots.length c0) (.slice a1 A.guides.length c1) (.slice a2 A.nodes.length c2) (.slice a3 A.vers.length c3) A) (hvm : vrOf A h.ver = m) (hx0 : 0 <= h.x_) (hx1 : h.x_ < (A.nodes.length : Int)) (hm0 : -1 <= m.next) (hm1 : m.next < (A.nodes.length : Int)) (ho0 : 0 <= h.out) (ho1 : h.out <= 1000000) (hs0 : 0 <= h.sum) (hs1 : h.sum <= 1000000) (hval : ∀ n (hn : n < A.nodes.length), 0 <= A.nodes[n].value /\ A.nodes[n].value <= 9999) :
  Calls Tryz.prog 111 #[.agg #[.int .i64 A.camera, .slice a0 A.slots.length c0, .slice a1 A.guides.length c1, .slice a2 A.nodes.length c2, .slice a3 A.vers.length c3], .agg (hdC h).toArray, .agg #[.int .i64 m.next, .bool m.gone, .int .i64 m.stamp, .int .i64 m.prev, .int .i64 m.kind]] w fun e w' => e = .returned (.agg (hdC (useH A h)).toArray) /\ Below w.heap.size w w' := by
 have hA' := hA
 unfold Ar.size at hA
 have X0 := World.rangeAt_alloc (World.rangeAt_alloc (World.rangeAt_alloc (qz5 w [.int .i64 A.camera, .slice a0 A.slots.length c0, .slice a1 A.guides.length c1, .slice a2 A.nodes.length c2, .slice a3 A.vers.length c3] 35) (.cells (hdC h).toArray 36)) (.cells #[.int .i64 m.next, .bool m.gone, .int .i64 m.stamp, .int .i64 m.prev, .int .i64 m.kind] 80)) (.cells #[.int .i64 0, .int .i64 0, .int .i64 0, .int .i64 0, .int .i64 0, .int .i64 0, .int .i64 0, .int .i64 0, .int .i64 0, .int .i64 0, .int .i64 0, .int .i64 0, .int .i64 0, .int .i64 0, .int .i64 0, .int .i64 0, .int .i64 0, .int .i64 0, .int .i64 0, .int .i64 0, .int .i64 0, .int .i64 0] 36)
 have H0 := World.rangeAt_alloc (World.rangeAt_alloc (qz5 (w.alloc (.cells #[.int .i64 A.camera, .slice a0 A.slots.length c0, .slice a1 A.guides.length c1, .slice a2 A.nodes.length c2, .slice a3 A.vers.length c3] 35)) (hdC h) 36) (.cells #[.int .i64 m.next, .bool m.gone, .int .i64 m.stamp, .int .i64 m.prev, .int .i64 m.kind] 80)) (.cells #[.int .i64 0, .int .i64 0, .int .i64 0, .int .i64 0, .int .i64 0, .int .i64 0, .int .i64 0, .int .i64 0, .int .i64 0, .int .i64 0, .int .i64 0, .int .i64 0, .int .i64 0, .int .i64 0, .int .i64 0, .int .i64 0, .int .i64 0, .int .i64 0, .int .i64 0, .int .i64 0, .int .i64 0, .int .i64 0] 36)
 have G0 := World.there_alloc (World.there_alloc (qzf (w.alloc (.cells #[.int .i64 A.camera, .slice a0 A.slots.length c0, .slice a1 A.guides.length c1, .slice a2 A.nodes.length c2, .slice a3 A.vers.length c3] 35)) (hdC h).toArray 36 22 (by simp [hdC])) (.cells #[.int .i64 m.next, .bool m.gone, .int .i64 m.stamp, .int .i64 m.prev, .int .i64 m.kind] 80)) (.cells #[.int .i64 0, .int .i64 0, .int .i64 0, .int .i64 0, .int .i64 0, .int .i64 0, .int .i64 0, .int .i64 0, .int .i64 0, .int .i64 0, .int .i64 0, .int .i64 0, .int .i64 0, .int .i64 0, .int .i64 0, .int .i64 0, .int .i64 0, .int .i64 0, .int .i64 0, .int .i64 0, .int .i64 0, .int .i64 0] 36)
 have M0 := World.rangeAt_alloc (qz5 ((w.alloc (.cells #[.int .i64 A.camera, .slice a0 A.slots.length c0, .slice a1 A.guides.length c1, .slice a2 A.nodes.length c2, .slice a3 A.vers.length c3] 35)).alloc (.cells (hdC h).toArray 36)) [.int .i64 m.next, .bool m.gone, .int .i64 m.stamp, .int .i64 m.prev, .int .i64 m.kind] 80) (.cells #[.int .i64 0, .int .i64 0, .int .i64 0, .int .i64 0, .int .i64 0, .int .i64 0, .int .i64 0, .int .i64 0, .int .i64 0, .int .i64 0, .int .i64 0, .int .i64 0, .int .i64 0, .int .i64 0, .int .i64 0, .int .i64 0, .int .i64 0, .int .i64 0, .int .i64 0, .int .i64 0, .int .i64 0, .int .i64 0] 36)
 have F0 := qzf (((w.alloc (.cells #[.int .i64 A.camera, .slice a0 A.slots.length c0, .slice a1 A.guides.length c1, .slice a2 A.nodes.length c2, .slice a3 A.vers.length c3] 35)).alloc (.cells (hdC h).toArray 36)).alloc (.cells #[.int .i64 m.next, .bool m.gone, .int .i64 m.stamp, .int .i64 m.prev, .int .i64 m.kind] 80)) #[.int .i64 0, .int .i64 0, .int .i64 0, .int .i64 0, .int .i64 0, .int .i64 0, .int .i64 0, .int .i64 0, .int .i64 0, .int .i64 0, .int .i64 0, .int .i64 0, .int .i64 0, .int .i64 0, .int .i64 0, .int .i64 0, .int .i64 0, .int .i64 0, .int .i64 0, .int .i64 0, .int .i64 0, .int .i64 0] 36 22 (by decide)
 have K0 := (((((Below.refl w.heap.size w).alloc (Nat.le_refl _) (.cells #[.int .i64 A.camera, .slice a0 A.slots.length c0, .slice a1 A.guides.length c1, .slice a2 A.nodes.length c2, .slice a3 A.vers.length c3] 35)).alloc (by simp) (.cells (hdC h).toArray 36)).alloc (by simp <;> omega) (.cells #[.int .i64 m.next, .bool m.gone, .int .i64 m.stamp, .int .i64 m.prev, .int .i64 m.kind] 80)).alloc (by simp <;> omega) (.cells #[.int .i64 0, .int .i64 0, .int .i64 0, .int .i64 0, .int .i64 0, .int .i64 0, .int .i64 0, .int .i64 0, .int .i64 0, .int .i64 0, .int .i64 0, .int .i64 0, .int .i64 0, .int .i64 0, .int .i64 0, .int .i64 0, .int .i64 0, .int .i64 0, .int .i64 0, .int .i64 0, .int .i64 0, .int .i64 0] 36))
 have hz0 : w.heap.size + 1 + 1 + 1 < ((((w.alloc (.cells #[.int .i64 A.camera, .slice a0 A.slots.length c0, .slice a1 A.guides.length c1, .slice a2 A.nodes.length c2, .slice a3 A.vers.length c3] 35)).alloc (.cells (hdC h).toArray 36)).alloc (.cells #[.int .i64 m.next, .bool m.gone, .int .i64 m.stamp, .int .i64 m.prev, .int .i64 m.kind] 80)).alloc (.cells #[.int .i64 0, .int .i64 0, .int .i64 0, .int .i64 0, .int .i64 0, .int .i64 0, .int .i64 0, .int .i64 0, .int .i64 0, .int .i64 0, .int .i64 0, .int .i64 0, .int .i64 0, .int .i64 0, .int .i64 0, .int .i64 0, .int .i64 0, .int .i64 0, .int .i64 0, .int .i64 0, .int .i64 0, .int .i64 0] 36)).heap.size := by simp
 simp only [World.size_alloc] at H0 G0 M0 F0
 have I0 := I.below (K0.mono hB)
 go_enter Tryz.func111, Tryz.ntmps111
 have tok : True := trivial
 go_wp2_with (clear tok; refine qz24 ((((w.alloc (.cells #[.int .i64 A.camera, .slice a0 A.slots.length c0, .slice a1 A.guides.length c1, .slice a2 A.nodes.length c2, .slice a3 A.vers.length c3] 35)).alloc (.cells (hdC h).toArray 36)).alloc (.cells #[.int .i64 m.next, .bool m.gone, .int .i64 m.stamp, .int .i64 m.prev, .int .i64 m.kind] 80)).alloc (.cells #[.int .i64 0, .int .i64 0, .int .i64 0, .int .i64 0, .int .i64 0, .int .i64 0, .int .i64 0, .int .i64 0, .int .i64 0, .int .i64 0, .int .i64 0, .int .i64 0, .int .i64 0, .int .i64 0, .int .i64 0, .int .i64 0, .int .i64 0, .int .i64 0, .int .i64 0, .int .i64 0, .int .i64 0, .int .i64 0] 36)) ?_)
 generalize hw0 : (((w.alloc (.cells #[.int .i64 A.camera, .slice a0 A.slots.length c0, .slice a1 A.guides.length c1, .slice a2 A.nodes.length c2, .slice a3 A.vers.length c3] 35)).alloc (.cells (hdC h).toArray 36)).alloc (.cells #[.int .i64 m.next, .bool m.gone, .int .i64 m.stamp, .int .i64 m.prev, .int .i64 m.kind] 80)).alloc (.cells #[.int .i64 0, .int .i64 0, .int .i64 0, .int .i64 0, .int .i64 0, .int .i64 0, .int .i64 0, .int .i64 0, .int .i64 0, .int .i64 0, .int .i64 0, .int .i64 0, .int .i64 0, .int .i64 0, .int .i64 0, .int .i64 0, .int .i64 0, .int .i64 0, .int .i64 0, .int .i64 0, .int .i64 0, .int .i64 0] 36) = w0 at *
 clear hw0 I
 show wpList _ _ _ _ _ w0
 obtain ⟨x0, x1, x2, x3, x4⟩ := row5 X0
 obtain ⟨v0, v1, v2, v3, v4⟩ := row5 M0
 have q2 : w0.cell? ⟨w.heap.size + 1, 2, none⟩ = some (.int .i64 h.code) := by simpa using H0 2 (.int .i64 h.code) rfl
 by_cases k6 : h.code = 6
 ·obtain ⟨H', hH⟩ : ∃ H' : Hd, Hid (H' = h) := by exact ⟨_, rfl⟩
  have hv : Hid (useH A h = useH A H') := by show _ = _; rw [hH.out]; skip
  go_wp2_with (first | (refine wpList_load_mid rfl 36 (.tmp 4) rfl (w.heap.size + 1) 0 ?hxln76 (hdC H') _ ?hcn76 Tryz.underlying36 rfl (qz1 H') ?_))
  try (case hxln76 => rfl)
  case hcn76 => rw [hH.out]; exact H0
  refine (qz91 B A H' m _ _ _ _ _ _ _ _ _ (by first | omega | (simp; omega)) hA' (I0.below (Below.refl B w0)) (by rw [hH.out]; exact k6) (by rw [hH.out]; exact hvm) (by rw [hH.out]; exact hx0) (by rw [hH.out]; exact hx1) hm0 hm1).mono ?_
  rintro e w9 ⟨rfl, b9⟩
  have F9 := qz3 F0 b9 (by first | omega | (simp; omega))
  have K9 := K0.trans (b9.mono (by first | omega | (simp; omega)))
  go_wp2_with (refine wpList_store_mid rfl 36 (.tmp 6) _ rfl (w.heap.size + 1 + 1 + 1) 0 (hdC (useH A H')).toArray ?hxn76 ?hyn76 ?htn76 (qz8 _) (qzc _) ?_)
  try (case hxn76 => rfl)
  try (case hyn76 => rfl)
  case htn76 => exact F9
  refine bodyPost_ret (v := .agg (hdC (useH A H')).toArray) ?_ rfl ⟨by rw [hv.out], ?_⟩
  ·exact qz4 Tryz.results111 _ _ (w.heap.size + 1 + 1 + 1) 0 rfl (hdC (useH A H')) _ (World.rangeAt_setCells_same _ _ _ _ F9) Tryz.underlying36 rfl (qz1 _)
  ·exact Below.setCells (by omega) _ _ _ K9
 have b6 : (h.code == 6) = false := by simp [k6]
 by_cases k7 : h.code = 7
 ·obtain ⟨H', hH⟩ : ∃ H' : Hd, Hid (H' = h) := by exact ⟨_, rfl⟩
  have hv : Hid (useH A h = useH A H') := by show _ = _; rw [hH.out]; skip
  go_wp2_with (first | (refine wpList_load_mid rfl 36 (.tmp 4) rfl (w.heap.size + 1) 0 ?hxln77 (hdC H') _ ?hcn77 Tryz.underlying36 rfl (qz1 H') ?_))
  try (case hxln77 => rfl)
  case hcn77 => rw [hH.out]; exact H0
  refine (qz8k B A H' m _ _ _ _ _ _ _ _ _ (by first | omega | (simp; omega)) hA' (I0.below (Below.refl B w0)) (by rw [hH.out]; exact k7) (by rw [hH.out]; exact hvm) (by rw [hH.out]; exact hx0) (by rw [hH.out]; exact hx1) hm0 hm1 (by rw [hH.out]; exact ho0) (by rw [hH.out]; exact ho1) (by rw [hH.out]; exact hs0) (by rw [hH.out]; exact hs1) hval).mono ?_
  rintro e w9 ⟨rfl, b9⟩
  have F9 := qz3 F0 b9 (by first | omega | (simp; omega))
  have K9 := K0.trans (b9.mono (by first | omega | (simp; omega)))
  go_wp2_with (refine wpList_store_mid rfl 36 (.tmp 6) _ rfl (w.heap.size + 1 + 1 + 1) 0 (hdC (useH A H')).toArray ?hxn77 ?hyn77 ?htn77 (qz8 _) (qzc _) ?_)
  try (case hxn77 => rfl)
  try (case hyn77 => rfl)
  case htn77 => exact F9
  refine bodyPost_ret (v := .agg (hdC (useH A H')).toArray) ?_ rfl ⟨by rw [hv.out], ?_⟩
  ·exact qz4 Tryz.results111 _ _ (w.heap.size + 1 + 1 + 1) 0 rfl (hdC (useH A H')) _ (World.rangeAt_setCells_same _ _ _ _ F9) Tryz.underlying36 rfl (qz1 _)
  ·exact Below.setCells (by omega) _ _ _ K9
 have b7 : (h.code == 7) = false := by simp [k7]
 obtain ⟨H', hH⟩ : ∃ H' : Hd, Hid (H' = h) := by exact ⟨_, rfl⟩
 have hv : Hid (useH A h = qzw H' 0) := by show _ = _; rw [hH.out]; simp [useH, k6, k7, qzw]
 go_wp2_with (first | (refine wpList_load_mid rfl 36 (.tmp 4) rfl (w.heap.size + 1) 0 ?hxln78 (hdC H') _ ?hcn78 Tryz.underlying36 rfl (qz1 H') ?_))
 try (case hxln78 => rfl)
 case hcn78 => rw [hH.out]; exact H0
 refine (qzr H' 0 _).mono ?_
 rintro e w9 ⟨rfl, b9⟩
 have F9 := qz3 F0 b9 (by first | omega | (simp; omega))
 have K9 := K0.trans (b9.mono (by first | omega | (simp; omega)))
 go_wp2_with (refine wpList_store_mid rfl 36 (.tmp 6) _ rfl (w.heap.size + 1 + 1 + 1) 0 (hdC (qzw H' 0)).toArray ?hxn78 ?hyn78 ?htn78 (qz8 _) (qzc _) ?_)
 try (case hxn78 => rfl)
 try (case hyn78 => rfl)
 case htn78 => exact F9
 refine bodyPost_ret (v := .agg (hdC (qzw H' 0)).toArray) ?_ rfl ⟨by rw [hv.out], ?_⟩
 ·exact qz4 Tryz.results111 _ _ (w.heap.size + 1 + 1 + 1) 0 rfl (hdC (qzw H' 0)) _ (World.rangeAt_setCells_same _ _ _ _ F9) Tryz.underlying36 rfl (qz1 _)
 ·exact Below.setCells (by omega) _ _ _ K9
end
end Go.Proofs.YtknncnaikeinbaaGreat
