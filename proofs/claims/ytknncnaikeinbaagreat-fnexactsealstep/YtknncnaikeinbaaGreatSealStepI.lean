/-
  What the law's proof goes by, part 9.
-/
import Derived.Laws.EntriesVeiled
import Derived.Test.YtknncnaikeinbaaGreatSealStepH
namespace Go.Proofs.YtknncnaikeinbaaGreat
open Go.ChangeShapes Go.WideShapes Go.ChangeAt Go.RowKit
set_option maxRecDepth 100000
set_option maxHeartbeats 16000000
set_option linter.unusedVariables false
set_option linter.unusedSimpArgs false
set_option linter.unnecessarySimpa false
set_option linter.unusedSectionVars false
section
attribute [local go_sem ↓] Go.wp_at_zero Go.wp_at_succ
def onH (A : Ar) (h : Hd) : Hd :=
 if h.then_ = 1 then (if (vrOf A h.ver).gone then { h with x_ := 0, at_ := 2 } else qz2f A { h with pred := h.x_, predVer := h.ver } (vrOf A h.ver).next)
 else if h.then_ = 2 then (if (vrOf A h.ver).gone then { h with currVer := h.ver, at_ := 6 } else if 0 <= h.curr /\ h.key <= (ndOf A h.curr).key then qzo A { h with currVer := h.ver } else qz2f A { h with currVer := h.ver, pred := max h.curr 0, predVer := h.ver } (vrOf A h.ver).next)
 else if h.then_ = 3 then qz2f A { h with predVer := h.ver } (vrOf A h.ver).next
 else if h.then_ = 4 then { h with at_ := 10 } else if h.then_ = 5 then { h with at_ := 12 }
 else if h.then_ = 6 then (if (vrOf A h.ver).stamp <= h.held then useH A h else { h with at_ := 19 })
 else if h.then_ = 7 then { h with at_ := if (vrOf A h.ver).stamp <= h.least then 23 else 22 }
 else { h with at_ := 0 }
theorem qz7f (B : Nat) (A : Ar) (h : Hd) (a0 a1 a2 a3 : Option Addr) (c0 c1 c2 c3 : Nat) (w : World) (hB : B <= w.heap.size) (hA : A.size <= 1048576) (I : qzi B w (.slice a0 A.slots.length c0) (.slice a1 A.guides.length c1) (.slice a2 A.nodes.length c2) (.slice a3 A.vers.length c3) A) (x y z u : Int) (hOk : qz14 x y z u A = true) (hv0 : 0 <= h.ver) (hv1 : h.ver < (A.vers.length : Int)) (hx0 : 0 <= h.x_) (hx1 : h.x_ < (A.nodes.length : Int)) (hcu : h.curr < (A.nodes.length : Int)) (ho0 : 0 <= h.out) (ho1 : h.out <= 1000000) (hs0 : 0 <= h.sum) (hs1 : h.sum <= 1000000) :
  Calls Tryz.prog 42 #[.agg #[.int .i64 A.camera, .slice a0 A.slots.length c0, .slice a1 A.guides.length c1, .slice a2 A.nodes.length c2, .slice a3 A.vers.length c3], .agg (hdC h).toArray] w fun e w' => e = .returned (.agg (hdC (onH A h)).toArray) /\ Below w.heap.size w w' := by
 have hA' := hA
 unfold Ar.size at hA
 have X0 := World.rangeAt_alloc (World.rangeAt_alloc (qz5 w [.int .i64 A.camera, .slice a0 A.slots.length c0, .slice a1 A.guides.length c1, .slice a2 A.nodes.length c2, .slice a3 A.vers.length c3] 35) (.cells (hdC h).toArray 36)) (.cells #[.int .i64 0, .int .i64 0, .int .i64 0, .int .i64 0, .int .i64 0, .int .i64 0, .int .i64 0, .int .i64 0, .int .i64 0, .int .i64 0, .int .i64 0, .int .i64 0, .int .i64 0, .int .i64 0, .int .i64 0, .int .i64 0, .int .i64 0, .int .i64 0, .int .i64 0, .int .i64 0, .int .i64 0, .int .i64 0] 36)
 have H0 := World.rangeAt_alloc (qz5 (w.alloc (.cells #[.int .i64 A.camera, .slice a0 A.slots.length c0, .slice a1 A.guides.length c1, .slice a2 A.nodes.length c2, .slice a3 A.vers.length c3] 35)) (hdC h) 36) (.cells #[.int .i64 0, .int .i64 0, .int .i64 0, .int .i64 0, .int .i64 0, .int .i64 0, .int .i64 0, .int .i64 0, .int .i64 0, .int .i64 0, .int .i64 0, .int .i64 0, .int .i64 0, .int .i64 0, .int .i64 0, .int .i64 0, .int .i64 0, .int .i64 0, .int .i64 0, .int .i64 0, .int .i64 0, .int .i64 0] 36)
 have G0 := World.there_alloc (qzf (w.alloc (.cells #[.int .i64 A.camera, .slice a0 A.slots.length c0, .slice a1 A.guides.length c1, .slice a2 A.nodes.length c2, .slice a3 A.vers.length c3] 35)) (hdC h).toArray 36 22 (by simp [hdC])) (.cells #[.int .i64 0, .int .i64 0, .int .i64 0, .int .i64 0, .int .i64 0, .int .i64 0, .int .i64 0, .int .i64 0, .int .i64 0, .int .i64 0, .int .i64 0, .int .i64 0, .int .i64 0, .int .i64 0, .int .i64 0, .int .i64 0, .int .i64 0, .int .i64 0, .int .i64 0, .int .i64 0, .int .i64 0, .int .i64 0] 36)
 have F0 := qzf ((w.alloc (.cells #[.int .i64 A.camera, .slice a0 A.slots.length c0, .slice a1 A.guides.length c1, .slice a2 A.nodes.length c2, .slice a3 A.vers.length c3] 35)).alloc (.cells (hdC h).toArray 36)) #[.int .i64 0, .int .i64 0, .int .i64 0, .int .i64 0, .int .i64 0, .int .i64 0, .int .i64 0, .int .i64 0, .int .i64 0, .int .i64 0, .int .i64 0, .int .i64 0, .int .i64 0, .int .i64 0, .int .i64 0, .int .i64 0, .int .i64 0, .int .i64 0, .int .i64 0, .int .i64 0, .int .i64 0, .int .i64 0] 36 22 (by decide)
 have K0 := (((Below.refl w.heap.size w).alloc (Nat.le_refl _) (.cells #[.int .i64 A.camera, .slice a0 A.slots.length c0, .slice a1 A.guides.length c1, .slice a2 A.nodes.length c2, .slice a3 A.vers.length c3] 35)).alloc (by simp) (.cells (hdC h).toArray 36)).alloc (by simp; omega) (.cells #[.int .i64 0, .int .i64 0, .int .i64 0, .int .i64 0, .int .i64 0, .int .i64 0, .int .i64 0, .int .i64 0, .int .i64 0, .int .i64 0, .int .i64 0, .int .i64 0, .int .i64 0, .int .i64 0, .int .i64 0, .int .i64 0, .int .i64 0, .int .i64 0, .int .i64 0, .int .i64 0, .int .i64 0, .int .i64 0] 36)
 have hz0 : w.heap.size + 1 + 1 < (((w.alloc (.cells #[.int .i64 A.camera, .slice a0 A.slots.length c0, .slice a1 A.guides.length c1, .slice a2 A.nodes.length c2, .slice a3 A.vers.length c3] 35)).alloc (.cells (hdC h).toArray 36)).alloc (.cells #[.int .i64 0, .int .i64 0, .int .i64 0, .int .i64 0, .int .i64 0, .int .i64 0, .int .i64 0, .int .i64 0, .int .i64 0, .int .i64 0, .int .i64 0, .int .i64 0, .int .i64 0, .int .i64 0, .int .i64 0, .int .i64 0, .int .i64 0, .int .i64 0, .int .i64 0, .int .i64 0, .int .i64 0, .int .i64 0] 36)).heap.size := by simp
 simp only [World.size_alloc] at H0 G0 F0
 have I0 := I.below (K0.mono hB)
 go_enter Tryz.func42, Tryz.ntmps42
 have tok : True := trivial
 go_wp2_with (clear tok; refine qz24 (((w.alloc (.cells #[.int .i64 A.camera, .slice a0 A.slots.length c0, .slice a1 A.guides.length c1, .slice a2 A.nodes.length c2, .slice a3 A.vers.length c3] 35)).alloc (.cells (hdC h).toArray 36)).alloc (.cells #[.int .i64 0, .int .i64 0, .int .i64 0, .int .i64 0, .int .i64 0, .int .i64 0, .int .i64 0, .int .i64 0, .int .i64 0, .int .i64 0, .int .i64 0, .int .i64 0, .int .i64 0, .int .i64 0, .int .i64 0, .int .i64 0, .int .i64 0, .int .i64 0, .int .i64 0, .int .i64 0, .int .i64 0, .int .i64 0] 36)) ?_)
 generalize hw0 : ((w.alloc (.cells #[.int .i64 A.camera, .slice a0 A.slots.length c0, .slice a1 A.guides.length c1, .slice a2 A.nodes.length c2, .slice a3 A.vers.length c3] 35)).alloc (.cells (hdC h).toArray 36)).alloc (.cells #[.int .i64 0, .int .i64 0, .int .i64 0, .int .i64 0, .int .i64 0, .int .i64 0, .int .i64 0, .int .i64 0, .int .i64 0, .int .i64 0, .int .i64 0, .int .i64 0, .int .i64 0, .int .i64 0, .int .i64 0, .int .i64 0, .int .i64 0, .int .i64 0, .int .i64 0, .int .i64 0, .int .i64 0, .int .i64 0] 36) = w0 at *
 clear hw0 I
 show wpList _ _ _ _ _ w0
 obtain ⟨v, hv⟩ : ∃ v : Nat, h.ver = v := ⟨h.ver.toNat, by omega⟩
 have hvl : v < A.vers.length := by omega
 have hvl' : (v : Int) < (A.vers.length : Int) := by omega
 have hvl0 : (0 : Int) <= (v : Int) := by omega
 have hvr : vrOf A h.ver = A.vers[v] := by rw [hv, qz2z A v hvl]
 obtain ⟨bb, off, rfl, hbb, R⟩ := qzh.at I0.r (by omega)
 have V5 := qza (sz := 5) (fun _ => rfl) R v hvl
 have v0 : w0.cell? ⟨bb, off + v * 5, none⟩ = some (.int .i64 A.vers[v].next) := by simpa using V5 0 _ rfl
 have v1 : w0.cell? ⟨bb, off + v * 5 + 1, none⟩ = some (.bool A.vers[v].gone) := V5 1 _ rfl
 have v2 : w0.cell? ⟨bb, off + v * 5 + 2, none⟩ = some (.int .i64 A.vers[v].stamp) := V5 2 _ rfl
 have v3 : w0.cell? ⟨bb, off + v * 5 + 3, none⟩ = some (.int .i64 A.vers[v].prev) := V5 3 _ rfl
 have v4 : w0.cell? ⟨bb, off + v * 5 + 4, none⟩ = some (.int .i64 A.vers[v].kind) := V5 4 _ rfl
 have x4 : w0.cell? ⟨w.heap.size, 4, none⟩ = some (.slice (some ⟨bb, off, none⟩) A.vers.length c3) := by simpa using X0 4 _ rfl
 have q11 : w0.cell? ⟨w.heap.size + 1, 11, none⟩ = some (.int .i64 h.ver) := by simpa using H0 11 (.int .i64 h.ver) rfl
 rw [hv] at q11
 clear R V5
 have tok : True := trivial
 go_wp2_with (clear tok; refine qz24 (w0.alloc (.cells #[.int .i64 A.vers[v].next, .bool A.vers[v].gone, .int .i64 A.vers[v].stamp, .int .i64 A.vers[v].prev, .int .i64 A.vers[v].kind] 80)) ?_)
 have al := (Below.refl w0.heap.size w0).alloc (Nat.le_refl _) (.cells #[.int .i64 A.vers[v].next, .bool A.vers[v].gone, .int .i64 A.vers[v].stamp, .int .i64 A.vers[v].prev, .int .i64 A.vers[v].kind] 80)
 have VB1 := qz5 w0 [.int .i64 A.vers[v].next, .bool A.vers[v].gone, .int .i64 A.vers[v].stamp, .int .i64 A.vers[v].prev, .int .i64 A.vers[v].kind] 80
 have X1 := qz0 X0 al (by omega)
 have H1 := qz0 H0 al (by omega)
 have G1 := qz3 G0 al (by omega)
 have F1 := qz3 F0 al (by omega)
 have K1 := K0.trans (al.mono (by omega))
 have I1 := I0.below (al.mono (by omega))
 have hz1 := Nat.lt_of_lt_of_le hz0 al.size
 have hl1 : w0.heap.size < (w0.alloc (.cells #[.int .i64 A.vers[v].next, .bool A.vers[v].gone, .int .i64 A.vers[v].stamp, .int .i64 A.vers[v].prev, .int .i64 A.vers[v].kind] 80)).heap.size := by simp
 generalize hw1 : w0.alloc (.cells #[.int .i64 A.vers[v].next, .bool A.vers[v].gone, .int .i64 A.vers[v].stamp, .int .i64 A.vers[v].prev, .int .i64 A.vers[v].kind] 80) = w1 at *
 show wpList _ _ _ _ _ w1
 clear hw1 al X0 H0 G0 F0 K0 I0
 clear v0 v1 v2 v3 v4 x4 q11
 have hvH : Hid (h.ver = v) := hv
 clear hv hvl' hvl0
 obtain ⟨x0, x1, x2, x3, x4⟩ := row5 X1
 have q0 : w1.cell? ⟨w.heap.size + 1, 0, none⟩ = some (.int .i64 h.at_) := by simpa using H1 0 (.int .i64 h.at_) rfl
 have q1 : w1.cell? ⟨w.heap.size + 1, 1, none⟩ = some (.int .i64 h.then_) := by simpa using H1 1 (.int .i64 h.then_) rfl
 have q3 : w1.cell? ⟨w.heap.size + 1, 3, none⟩ = some (.int .i64 h.key) := by simpa using H1 3 (.int .i64 h.key) rfl
 have q9 : w1.cell? ⟨w.heap.size + 1, 9, none⟩ = some (.int .i64 h.held) := by simpa using H1 9 (.int .i64 h.held) rfl
 have q10 : w1.cell? ⟨w.heap.size + 1, 10, none⟩ = some (.int .i64 h.x_) := by simpa using H1 10 (.int .i64 h.x_) rfl
 have q11 : w1.cell? ⟨w.heap.size + 1, 11, none⟩ = some (.int .i64 h.ver) := by simpa using H1 11 (.int .i64 h.ver) rfl
 have q14 : w1.cell? ⟨w.heap.size + 1, 14, none⟩ = some (.int .i64 h.pred) := by simpa using H1 14 (.int .i64 h.pred) rfl
 have q15 : w1.cell? ⟨w.heap.size + 1, 15, none⟩ = some (.int .i64 h.predVer) := by simpa using H1 15 (.int .i64 h.predVer) rfl
 have q16 : w1.cell? ⟨w.heap.size + 1, 16, none⟩ = some (.int .i64 h.curr) := by simpa using H1 16 (.int .i64 h.curr) rfl
 have q17 : w1.cell? ⟨w.heap.size + 1, 17, none⟩ = some (.int .i64 h.currVer) := by simpa using H1 17 (.int .i64 h.currVer) rfl
 have q19 : w1.cell? ⟨w.heap.size + 1, 19, none⟩ = some (.int .i64 h.least) := by simpa using H1 19 (.int .i64 h.least) rfl
 have f0 : w1.frozen? ⟨w.heap.size + 1, 0, none⟩ = false := by simpa using (G1 0 (by decide)).2
 have f10 : w1.frozen? ⟨w.heap.size + 1, 10, none⟩ = false := by simpa using (G1 10 (by decide)).2
 have f14 : w1.frozen? ⟨w.heap.size + 1, 14, none⟩ = false := by simpa using (G1 14 (by decide)).2
 have f15 : w1.frozen? ⟨w.heap.size + 1, 15, none⟩ = false := by simpa using (G1 15 (by decide)).2
 have f17 : w1.frozen? ⟨w.heap.size + 1, 17, none⟩ = false := by simpa using (G1 17 (by decide)).2
 have v0 : w1.cell? ⟨w0.heap.size, 0, none⟩ = some (.int .i64 A.vers[v].next) := by simpa using VB1 0 _ rfl
 have v1 : w1.cell? ⟨w0.heap.size, 1, none⟩ = some (.bool A.vers[v].gone) := by simpa using VB1 1 _ rfl
 have v2 : w1.cell? ⟨w0.heap.size, 2, none⟩ = some (.int .i64 A.vers[v].stamp) := by simpa using VB1 2 _ rfl
 have e1 : ¬ (w.heap.size + 1 = w0.heap.size) := by omega
 have e2 : ¬ (w.heap.size + 1 = w.heap.size) := by omega
 by_cases t1 : h.then_ = 1
 case pos =>
  cases kg : A.vers[v].gone
  ·obtain ⟨H', hH⟩ : ∃ H' : Hd, Hid (H' = { h with pred := h.x_, predVer := h.ver }) := by exact ⟨_, rfl⟩
   have hv : Hid (onH A h = qz2f A H' A.vers[v].next) := by show _ = _; rw [hH.out]; simp [onH, t1, hvr, kg]
   go_upto_region 11 with (first | (go_at_call 76; refine (qz10 _ _ _).mono ?_; rintro e w' ⟨rfl, hw⟩; obtain rfl := hw.symm))
   go_wp2_with (first | (refine wpList_load_mid rfl 36 (.tmp 3) rfl (w.heap.size + 1) 0 ?hxln42 (hdC H') _ ?hcn42 Tryz.underlying36 rfl (qz1 H') ?_))
   try (case hxln42 => rfl)
   case hcn42 => rw [hH.out]; exact (qz6 (qz6 H1 14 (by simp [hdC]) _) 15 (by simp [hdC]) _)
   refine (qz41 B A H' A.vers[v].next _ _ _ _ _ _ _ _ _ (by first | omega | (simp; omega)) hA' (I1.below (Below.setCell (Below.setCell (Below.refl B w1) (p := ⟨w.heap.size + 1, 14, none⟩) (by show B <= w.heap.size + 1; omega) _) (p := ⟨w.heap.size + 1, 15, none⟩) (by show B <= w.heap.size + 1; omega) _))).mono ?_
   rintro e w9 ⟨rfl, b9⟩
   have F9 := qz3 (qz2 (qz2 F1 _ _) _ _) b9 (by first | omega | (simp; omega))
   have K9 := (Below.setCell (Below.setCell K1 (p := ⟨w.heap.size + 1, 14, none⟩) (by show w.heap.size <= w.heap.size + 1; omega) _) (p := ⟨w.heap.size + 1, 15, none⟩) (by show w.heap.size <= w.heap.size + 1; omega) _).trans (b9.mono (by first | omega | (simp; omega)))
   go_wp2_with (refine wpList_store_mid rfl 36 (.tmp 4) _ rfl (w.heap.size + 1 + 1) 0 (hdC (qz2f A H' A.vers[v].next)).toArray ?hxn42 ?hyn42 ?htn42 (qz8 _) (qzc _) ?_)
   try (case hxn42 => rfl)
   try (case hyn42 => rfl)
   case htn42 => exact F9
   refine bodyPost_ret (v := .agg (hdC (qz2f A H' A.vers[v].next)).toArray) ?_ rfl ⟨by rw [hv.out], ?_⟩
   ·exact qz4 Tryz.results42 _ _ (w.heap.size + 1 + 1) 0 rfl (hdC (qz2f A H' A.vers[v].next)) _ (World.rangeAt_setCells_same _ _ _ _ F9) Tryz.underlying36 rfl (qz1 _)
   ·exact Below.setCells (by omega) _ _ _ K9
  ·obtain ⟨H', hH⟩ : ∃ H' : Hd, Hid (H' = { h with x_ := 0, at_ := 2 }) := by exact ⟨_, rfl⟩
   have hv : Hid (onH A h = H') := by show _ = _; rw [hH.out]; simp [onH, t1, hvr, kg]
   go_upto_region 8 with (first | (go_at_call 76; refine (qz10 _ _ _).mono ?_; rintro e w' ⟨rfl, hw⟩; obtain rfl := hw.symm))
   go_wp2_with (first | (refine wpList_load_mid rfl 36 (.tmp 3) rfl (w.heap.size + 1) 0 ?hxln43 (hdC H') _ ?hcn43 Tryz.underlying36 rfl (qz1 H') ?_) | (refine wpList_store_mid rfl 36 (.tmp 4) _ rfl (w.heap.size + 1 + 1) 0 (hdC H').toArray ?hxn43 ?hyn43 ?htn43 (qz8 _) (qzc _) ?_))
   try (case hxln43 => rfl)
   case hcn43 => rw [hH.out]; exact (qz6 (qz6 H1 10 (by simp [hdC]) _) 0 (by simp [hdC]) _)
   try (case hxn43 => rfl)
   try (case hyn43 => rfl)
   case htn43 => exact (qz2 (qz2 F1 _ _) _ _)
   refine bodyPost_ret (v := .agg (hdC H').toArray) ?_ rfl ⟨by rw [hv.out], ?_⟩
   ·exact qz4 Tryz.results42 _ _ (w.heap.size + 1 + 1) 0 rfl (hdC H') _ (World.rangeAt_setCells_same _ _ _ _ (qz2 (qz2 F1 _ _) _ _)) Tryz.underlying36 rfl (qz1 _)
   ·exact Below.setCells (by omega) _ _ _ (Below.setCell (Below.setCell K1 (p := ⟨w.heap.size + 1, 10, none⟩) (by show w.heap.size <= w.heap.size + 1; omega) _) (p := ⟨w.heap.size + 1, 0, none⟩) (by show w.heap.size <= w.heap.size + 1; omega) _)
 have b1 : (h.then_ == 1) = false := by simp [t1]
 by_cases t2 : h.then_ = 2
 case pos =>
  cases kg : A.vers[v].gone
  case true =>
   obtain ⟨H', hH⟩ : ∃ H' : Hd, Hid (H' = { h with currVer := h.ver, at_ := 6 }) := by exact ⟨_, rfl⟩
   have hv : Hid (onH A h = H') := by show _ = _; rw [hH.out]; simp [onH, t2, hvr, kg]
   go_upto_region 16 with (first | (go_at_call 76; refine (qz10 _ _ _).mono ?_; rintro e w' ⟨rfl, hw⟩; obtain rfl := hw.symm))
   go_wp2_with (first | (refine wpList_load_mid rfl 36 (.tmp 3) rfl (w.heap.size + 1) 0 ?hxln44 (hdC H') _ ?hcn44 Tryz.underlying36 rfl (qz1 H') ?_) | (refine wpList_store_mid rfl 36 (.tmp 4) _ rfl (w.heap.size + 1 + 1) 0 (hdC H').toArray ?hxn44 ?hyn44 ?htn44 (qz8 _) (qzc _) ?_))
   try (case hxln44 => rfl)
   case hcn44 => rw [hH.out]; exact (qz6 (qz6 H1 17 (by simp [hdC]) _) 0 (by simp [hdC]) _)
   try (case hxn44 => rfl)
   try (case hyn44 => rfl)
   case htn44 => exact (qz2 (qz2 F1 _ _) _ _)
   refine bodyPost_ret (v := .agg (hdC H').toArray) ?_ rfl ⟨by rw [hv.out], ?_⟩
   ·exact qz4 Tryz.results42 _ _ (w.heap.size + 1 + 1) 0 rfl (hdC H') _ (World.rangeAt_setCells_same _ _ _ _ (qz2 (qz2 F1 _ _) _ _)) Tryz.underlying36 rfl (qz1 _)
   ·exact Below.setCells (by omega) _ _ _ (Below.setCell (Below.setCell K1 (p := ⟨w.heap.size + 1, 17, none⟩) (by show w.heap.size <= w.heap.size + 1; omega) _) (p := ⟨w.heap.size + 1, 0, none⟩) (by show w.heap.size <= w.heap.size + 1; omega) _)
  go_upto_region 17 with fail
  by_cases kc : 0 <= h.curr
  case neg =>
   go_quiet (fail)
   have X2 : ((w1.setCell ⟨w.heap.size + 1, 17, none⟩ (.int .i64 h.ver)).drewN nq).rangeAt w.heap.size 0 [.int .i64 A.camera, .slice a0 A.slots.length c0, .slice a1 A.guides.length c1, .slice a2 A.nodes.length c2, .slice (some ⟨bb, off, none⟩) A.vers.length c3] := qzp X1 (a := ⟨w.heap.size + 1, 17, none⟩) (by show w.heap.size + 1 ≠ w.heap.size; omega) _
   have H2 : ((w1.setCell ⟨w.heap.size + 1, 17, none⟩ (.int .i64 h.ver)).drewN nq).rangeAt (w.heap.size + 1) 0 (hdC { h with currVer := h.ver }) := qz6 H1 17 (by simp [hdC]) _
   have G2 : ((w1.setCell ⟨w.heap.size + 1, 17, none⟩ (.int .i64 h.ver)).drewN nq).there (w.heap.size + 1) 0 22 := qz2 G1 _ _
   have F2 : ((w1.setCell ⟨w.heap.size + 1, 17, none⟩ (.int .i64 h.ver)).drewN nq).there (w.heap.size + 1 + 1) 0 22 := qz2 F1 _ _
   have KS := Below.setCell K1 (p := ⟨w.heap.size + 1, 17, none⟩) (by show w.heap.size <= w.heap.size + 1; omega) (.int .i64 h.ver)
   have K2 : Below w.heap.size w ((w1.setCell ⟨w.heap.size + 1, 17, none⟩ (.int .i64 h.ver)).drewN nq) := ⟨KS.os, KS.tape, KS.output, KS.size, KS.block⟩
   have KT := Below.setCell (Below.refl B w1) (p := ⟨w.heap.size + 1, 17, none⟩) (by show B <= w.heap.size + 1; omega) (.int .i64 h.ver)
   have I2 := I1.below (w' := ((w1.setCell ⟨w.heap.size + 1, 17, none⟩ (.int .i64 h.ver)).drewN nq)) ⟨KT.os, KT.tape, KT.output, KT.size, KT.block⟩
   have V2 : ((w1.setCell ⟨w.heap.size + 1, 17, none⟩ (.int .i64 h.ver)).drewN nq).cell? ⟨w0.heap.size, 0, none⟩ = some (.int .i64 A.vers[v].next) := (World.cell?_setCell_other _ _ _ _ (by simp)).trans v0
   have hz2 : w.heap.size + 1 + 1 < ((w1.setCell ⟨w.heap.size + 1, 17, none⟩ (.int .i64 h.ver)).drewN nq).heap.size := by show _ < (w1.setCell _ _).heap.size; rw [World.size_setCell]; exact hz1
   generalize hw2 : ((w1.setCell ⟨w.heap.size + 1, 17, none⟩ (.int .i64 h.ver)).drewN nq) = w2 at *
   clear hw2 KS KT x0 x1 x2 x3 x4 q0 q1 q3 q9 q10 q11 q14 q15 q16 q17 q19 f0 f10 f14 f15 f17 v0 v1 v2 X1 H1 G1 F1 K1 I1
   obtain ⟨x0, x1, x2, x3, x4⟩ := row5 X2
   have q14 : w2.cell? ⟨w.heap.size + 1, 14, none⟩ = some (.int .i64 h.pred) := by simpa using H2 14 _ rfl
   have q15 : w2.cell? ⟨w.heap.size + 1, 15, none⟩ = some (.int .i64 h.predVer) := by simpa using H2 15 _ rfl
   have q16 : w2.cell? ⟨w.heap.size + 1, 16, none⟩ = some (.int .i64 h.curr) := by simpa using H2 16 _ rfl
   have q17 : w2.cell? ⟨w.heap.size + 1, 17, none⟩ = some (.int .i64 h.ver) := by simpa using H2 17 _ rfl
   have f14 : w2.frozen? ⟨w.heap.size + 1, 14, none⟩ = false := by simpa using (G2 14 (by decide)).2
   have f15 : w2.frozen? ⟨w.heap.size + 1, 15, none⟩ = false := by simpa using (G2 15 (by decide)).2
   obtain ⟨H', hH⟩ : ∃ H' : Hd, Hid (H' = { h with currVer := h.ver, pred := max h.curr 0, predVer := h.ver }) := by exact ⟨_, rfl⟩
   have hv : Hid (onH A h = qz2f A H' A.vers[v].next) := by show _ = _; rw [hH.out]; simp [onH, t2, hvr, kg, kc]
   go_upto_region 21 with (first | (go_at_call 76; refine (qz10 _ _ _).mono ?_; rintro e w' ⟨rfl, hw⟩; obtain rfl := hw.symm))
   go_wp2_with (first | (refine wpList_load_mid rfl 36 (.tmp 3) rfl (w.heap.size + 1) 0 ?hxln45 (hdC H') _ ?hcn45 Tryz.underlying36 rfl (qz1 H') ?_))
   try (case hxln45 => rfl)
   case hcn45 => rw [hH.out]; exact (qz6 (qz6 H2 14 (by simp [hdC]) _) 15 (by simp [hdC]) _)
   refine (qz41 B A H' A.vers[v].next _ _ _ _ _ _ _ _ _ (by first | omega | (simp; omega)) hA' (I2.below (Below.setCell (Below.setCell (Below.refl B w2) (p := ⟨w.heap.size + 1, 14, none⟩) (by show B <= w.heap.size + 1; omega) _) (p := ⟨w.heap.size + 1, 15, none⟩) (by show B <= w.heap.size + 1; omega) _))).mono ?_
   rintro e w9 ⟨rfl, b9⟩
   have F9 := qz3 (qz2 (qz2 F2 _ _) _ _) b9 (by first | omega | (simp; omega))
   have K9 := (Below.setCell (Below.setCell K2 (p := ⟨w.heap.size + 1, 14, none⟩) (by show w.heap.size <= w.heap.size + 1; omega) _) (p := ⟨w.heap.size + 1, 15, none⟩) (by show w.heap.size <= w.heap.size + 1; omega) _).trans (b9.mono (by first | omega | (simp; omega)))
   go_wp2_with (refine wpList_store_mid rfl 36 (.tmp 4) _ rfl (w.heap.size + 1 + 1) 0 (hdC (qz2f A H' A.vers[v].next)).toArray ?hxn45 ?hyn45 ?htn45 (qz8 _) (qzc _) ?_)
   try (case hxn45 => rfl)
   try (case hyn45 => rfl)
   case htn45 => exact F9
   refine bodyPost_ret (v := .agg (hdC (qz2f A H' A.vers[v].next)).toArray) ?_ rfl ⟨by rw [hv.out], ?_⟩
   ·exact qz4 Tryz.results42 _ _ (w.heap.size + 1 + 1) 0 rfl (hdC (qz2f A H' A.vers[v].next)) _ (World.rangeAt_setCells_same _ _ _ _ F9) Tryz.underlying36 rfl (qz1 _)
   ·exact Below.setCells (by omega) _ _ _ K9
  obtain ⟨n, hn⟩ : ∃ n : Nat, h.curr = n := ⟨h.curr.toNat, by omega⟩
  have hnl : n < A.nodes.length := by omega
  have hnl' : (n : Int) < (A.nodes.length : Int) := by omega
  have hnl0 : (0 : Int) <= (n : Int) := by omega
  have hnd : ndOf A h.curr = A.nodes[n] := by rw [hn, qzs A n hnl]
  obtain ⟨bn, on, rfl, hbn, RN⟩ := qzh.at I1.n (by omega)
  have e3 : ¬ (w.heap.size + 1 = bn) := by omega
  have m0 : w1.cell? ⟨bn, on + n * 3, none⟩ = some (.int .i64 A.nodes[n].key) := by simpa using (qza (sz := 3) (fun _ => rfl) RN n hnl) 0 _ rfl
  rw [hn] at q16
  have hnH : Hid (h.curr = n) := hn
  clear RN hn
  by_cases kk : h.key <= A.nodes[n].key
  case neg =>
   go_quiet (fail)
   have X2 : ((w1.setCell ⟨w.heap.size + 1, 17, none⟩ (.int .i64 h.ver)).drewN nq).rangeAt w.heap.size 0 [.int .i64 A.camera, .slice a0 A.slots.length c0, .slice a1 A.guides.length c1, .slice (some ⟨bn, on, none⟩) A.nodes.length c2, .slice (some ⟨bb, off, none⟩) A.vers.length c3] := qzp X1 (a := ⟨w.heap.size + 1, 17, none⟩) (by show w.heap.size + 1 ≠ w.heap.size; omega) _
   have H2 : ((w1.setCell ⟨w.heap.size + 1, 17, none⟩ (.int .i64 h.ver)).drewN nq).rangeAt (w.heap.size + 1) 0 (hdC { h with currVer := h.ver }) := qz6 H1 17 (by simp [hdC]) _
   have G2 : ((w1.setCell ⟨w.heap.size + 1, 17, none⟩ (.int .i64 h.ver)).drewN nq).there (w.heap.size + 1) 0 22 := qz2 G1 _ _
   have F2 : ((w1.setCell ⟨w.heap.size + 1, 17, none⟩ (.int .i64 h.ver)).drewN nq).there (w.heap.size + 1 + 1) 0 22 := qz2 F1 _ _
   have KS := Below.setCell K1 (p := ⟨w.heap.size + 1, 17, none⟩) (by show w.heap.size <= w.heap.size + 1; omega) (.int .i64 h.ver)
   have K2 : Below w.heap.size w ((w1.setCell ⟨w.heap.size + 1, 17, none⟩ (.int .i64 h.ver)).drewN nq) := ⟨KS.os, KS.tape, KS.output, KS.size, KS.block⟩
   have KT := Below.setCell (Below.refl B w1) (p := ⟨w.heap.size + 1, 17, none⟩) (by show B <= w.heap.size + 1; omega) (.int .i64 h.ver)
   have I2 := I1.below (w' := ((w1.setCell ⟨w.heap.size + 1, 17, none⟩ (.int .i64 h.ver)).drewN nq)) ⟨KT.os, KT.tape, KT.output, KT.size, KT.block⟩
   have V2 : ((w1.setCell ⟨w.heap.size + 1, 17, none⟩ (.int .i64 h.ver)).drewN nq).cell? ⟨w0.heap.size, 0, none⟩ = some (.int .i64 A.vers[v].next) := (World.cell?_setCell_other _ _ _ _ (by simp)).trans v0
   have hz2 : w.heap.size + 1 + 1 < ((w1.setCell ⟨w.heap.size + 1, 17, none⟩ (.int .i64 h.ver)).drewN nq).heap.size := by show _ < (w1.setCell _ _).heap.size; rw [World.size_setCell]; exact hz1
   generalize hw2 : ((w1.setCell ⟨w.heap.size + 1, 17, none⟩ (.int .i64 h.ver)).drewN nq) = w2 at *
   clear hw2 KS KT m0 x0 x1 x2 x3 x4 q0 q1 q3 q9 q10 q11 q14 q15 q16 q17 q19 f0 f10 f14 f15 f17 v0 v1 v2 X1 H1 G1 F1 K1 I1
   obtain ⟨x0, x1, x2, x3, x4⟩ := row5 X2
   have q14 : w2.cell? ⟨w.heap.size + 1, 14, none⟩ = some (.int .i64 h.pred) := by simpa using H2 14 _ rfl
   have q15 : w2.cell? ⟨w.heap.size + 1, 15, none⟩ = some (.int .i64 h.predVer) := by simpa using H2 15 _ rfl
   have q16 : w2.cell? ⟨w.heap.size + 1, 16, none⟩ = some (.int .i64 h.curr) := by simpa using H2 16 _ rfl
   have q17 : w2.cell? ⟨w.heap.size + 1, 17, none⟩ = some (.int .i64 h.ver) := by simpa using H2 17 _ rfl
   have f14 : w2.frozen? ⟨w.heap.size + 1, 14, none⟩ = false := by simpa using (G2 14 (by decide)).2
   have f15 : w2.frozen? ⟨w.heap.size + 1, 15, none⟩ = false := by simpa using (G2 15 (by decide)).2
   obtain ⟨H', hH⟩ : ∃ H' : Hd, Hid (H' = { h with currVer := h.ver, pred := max h.curr 0, predVer := h.ver }) := by exact ⟨_, rfl⟩
   have hv : Hid (onH A h = qz2f A H' A.vers[v].next) := by show _ = _; rw [hH.out]; simp [onH, t2, hvr, kg, hnd, kk]
   go_upto_region 21 with (first | (go_at_call 76; refine (qz10 _ _ _).mono ?_; rintro e w' ⟨rfl, hw⟩; obtain rfl := hw.symm))
   go_wp2_with (first | (refine wpList_load_mid rfl 36 (.tmp 3) rfl (w.heap.size + 1) 0 ?hxln46 (hdC H') _ ?hcn46 Tryz.underlying36 rfl (qz1 H') ?_))
   try (case hxln46 => rfl)
   case hcn46 => rw [hH.out]; exact (qz6 (qz6 H2 14 (by simp [hdC]) _) 15 (by simp [hdC]) _)
   refine (qz41 B A H' A.vers[v].next _ _ _ _ _ _ _ _ _ (by first | omega | (simp; omega)) hA' (I2.below (Below.setCell (Below.setCell (Below.refl B w2) (p := ⟨w.heap.size + 1, 14, none⟩) (by show B <= w.heap.size + 1; omega) _) (p := ⟨w.heap.size + 1, 15, none⟩) (by show B <= w.heap.size + 1; omega) _))).mono ?_
   rintro e w9 ⟨rfl, b9⟩
   have F9 := qz3 (qz2 (qz2 F2 _ _) _ _) b9 (by first | omega | (simp; omega))
   have K9 := (Below.setCell (Below.setCell K2 (p := ⟨w.heap.size + 1, 14, none⟩) (by show w.heap.size <= w.heap.size + 1; omega) _) (p := ⟨w.heap.size + 1, 15, none⟩) (by show w.heap.size <= w.heap.size + 1; omega) _).trans (b9.mono (by first | omega | (simp; omega)))
   go_wp2_with (refine wpList_store_mid rfl 36 (.tmp 4) _ rfl (w.heap.size + 1 + 1) 0 (hdC (qz2f A H' A.vers[v].next)).toArray ?hxn46 ?hyn46 ?htn46 (qz8 _) (qzc _) ?_)
   try (case hxn46 => rfl)
   try (case hyn46 => rfl)
   case htn46 => exact F9
   refine bodyPost_ret (v := .agg (hdC (qz2f A H' A.vers[v].next)).toArray) ?_ rfl ⟨by rw [hv.out], ?_⟩
   ·exact qz4 Tryz.results42 _ _ (w.heap.size + 1 + 1) 0 rfl (hdC (qz2f A H' A.vers[v].next)) _ (World.rangeAt_setCells_same _ _ _ _ F9) Tryz.underlying36 rfl (qz1 _)
   ·exact Below.setCells (by omega) _ _ _ K9
  go_quiet (fail)
  have X2 : ((w1.setCell ⟨w.heap.size + 1, 17, none⟩ (.int .i64 h.ver)).drewN nq).rangeAt w.heap.size 0 [.int .i64 A.camera, .slice a0 A.slots.length c0, .slice a1 A.guides.length c1, .slice (some ⟨bn, on, none⟩) A.nodes.length c2, .slice (some ⟨bb, off, none⟩) A.vers.length c3] := qzp X1 (a := ⟨w.heap.size + 1, 17, none⟩) (by show w.heap.size + 1 ≠ w.heap.size; omega) _
  have H2 : ((w1.setCell ⟨w.heap.size + 1, 17, none⟩ (.int .i64 h.ver)).drewN nq).rangeAt (w.heap.size + 1) 0 (hdC { h with currVer := h.ver }) := qz6 H1 17 (by simp [hdC]) _
  have G2 : ((w1.setCell ⟨w.heap.size + 1, 17, none⟩ (.int .i64 h.ver)).drewN nq).there (w.heap.size + 1) 0 22 := qz2 G1 _ _
  have F2 : ((w1.setCell ⟨w.heap.size + 1, 17, none⟩ (.int .i64 h.ver)).drewN nq).there (w.heap.size + 1 + 1) 0 22 := qz2 F1 _ _
  have KS := Below.setCell K1 (p := ⟨w.heap.size + 1, 17, none⟩) (by show w.heap.size <= w.heap.size + 1; omega) (.int .i64 h.ver)
  have K2 : Below w.heap.size w ((w1.setCell ⟨w.heap.size + 1, 17, none⟩ (.int .i64 h.ver)).drewN nq) := ⟨KS.os, KS.tape, KS.output, KS.size, KS.block⟩
  have KT := Below.setCell (Below.refl B w1) (p := ⟨w.heap.size + 1, 17, none⟩) (by show B <= w.heap.size + 1; omega) (.int .i64 h.ver)
  have I2 := I1.below (w' := ((w1.setCell ⟨w.heap.size + 1, 17, none⟩ (.int .i64 h.ver)).drewN nq)) ⟨KT.os, KT.tape, KT.output, KT.size, KT.block⟩
  have V2 : ((w1.setCell ⟨w.heap.size + 1, 17, none⟩ (.int .i64 h.ver)).drewN nq).cell? ⟨w0.heap.size, 0, none⟩ = some (.int .i64 A.vers[v].next) := (World.cell?_setCell_other _ _ _ _ (by simp)).trans v0
  have hz2 : w.heap.size + 1 + 1 < ((w1.setCell ⟨w.heap.size + 1, 17, none⟩ (.int .i64 h.ver)).drewN nq).heap.size := by show _ < (w1.setCell _ _).heap.size; rw [World.size_setCell]; exact hz1
  generalize hw2 : ((w1.setCell ⟨w.heap.size + 1, 17, none⟩ (.int .i64 h.ver)).drewN nq) = w2 at *
  clear hw2 KS KT m0 x0 x1 x2 x3 x4 q0 q1 q3 q9 q10 q11 q14 q15 q16 q17 q19 f0 f10 f14 f15 f17 v0 v1 v2 X1 H1 G1 F1 K1 I1
  obtain ⟨x0, x1, x2, x3, x4⟩ := row5 X2
  obtain ⟨H', hH⟩ : ∃ H' : Hd, Hid (H' = { h with currVer := h.ver }) := by exact ⟨_, rfl⟩
  have hv : Hid (onH A h = qzo A H') := by show _ = _; rw [hH.out]; simp [onH, t2, hvr, kg, kc, hnd, kk]
  go_upto_region 18 with (first | (go_at_call 76; refine (qz10 _ _ _).mono ?_; rintro e w' ⟨rfl, hw⟩; obtain rfl := hw.symm))
  go_wp2_with (first | (refine wpList_load_mid rfl 36 (.tmp 3) rfl (w.heap.size + 1) 0 ?hxln47 (hdC H') _ ?hcn47 Tryz.underlying36 rfl (qz1 H') ?_))
  try (case hxln47 => rfl)
  case hcn47 => rw [hH.out]; exact H2
  refine (qz5r B A H' _ _ _ _ _ _ _ _ _ (by first | omega | (simp; omega)) hA' (I2.below (Below.refl B w2)) (by rw [hH.out]; exact hcu)).mono ?_
  rintro e w9 ⟨rfl, b9⟩
  have F9 := qz3 F2 b9 (by first | omega | (simp; omega))
  have K9 := K2.trans (b9.mono (by first | omega | (simp; omega)))
  go_wp2_with (refine wpList_store_mid rfl 36 (.tmp 4) _ rfl (w.heap.size + 1 + 1) 0 (hdC (qzo A H')).toArray ?hxn47 ?hyn47 ?htn47 (qz8 _) (qzc _) ?_)
  try (case hxn47 => rfl)
  try (case hyn47 => rfl)
  case htn47 => exact F9
  refine bodyPost_ret (v := .agg (hdC (qzo A H')).toArray) ?_ rfl ⟨by rw [hv.out], ?_⟩
  ·exact qz4 Tryz.results42 _ _ (w.heap.size + 1 + 1) 0 rfl (hdC (qzo A H')) _ (World.rangeAt_setCells_same _ _ _ _ F9) Tryz.underlying36 rfl (qz1 _)
  ·exact Below.setCells (by omega) _ _ _ K9
 have b2 : (h.then_ == 2) = false := by simp [t2]
 by_cases t3 : h.then_ = 3
 case pos =>
  obtain ⟨H', hH⟩ : ∃ H' : Hd, Hid (H' = { h with predVer := h.ver }) := by exact ⟨_, rfl⟩
  have hv : Hid (onH A h = qz2f A H' A.vers[v].next) := by show _ = _; rw [hH.out]; simp [onH, t3, hvr]
  go_upto_region 24 with (first | (go_at_call 76; refine (qz10 _ _ _).mono ?_; rintro e w' ⟨rfl, hw⟩; obtain rfl := hw.symm))
  go_wp2_with (first | (refine wpList_load_mid rfl 36 (.tmp 3) rfl (w.heap.size + 1) 0 ?hxln48 (hdC H') _ ?hcn48 Tryz.underlying36 rfl (qz1 H') ?_))
  try (case hxln48 => rfl)
  case hcn48 => rw [hH.out]; exact (qz6 H1 15 (by simp [hdC]) _)
  refine (qz41 B A H' A.vers[v].next _ _ _ _ _ _ _ _ _ (by first | omega | (simp; omega)) hA' (I1.below (Below.setCell (Below.refl B w1) (p := ⟨w.heap.size + 1, 15, none⟩) (by show B <= w.heap.size + 1; omega) _))).mono ?_
  rintro e w9 ⟨rfl, b9⟩
  have F9 := qz3 (qz2 F1 _ _) b9 (by first | omega | (simp; omega))
  have K9 := (Below.setCell K1 (p := ⟨w.heap.size + 1, 15, none⟩) (by show w.heap.size <= w.heap.size + 1; omega) _).trans (b9.mono (by first | omega | (simp; omega)))
  go_wp2_with (refine wpList_store_mid rfl 36 (.tmp 4) _ rfl (w.heap.size + 1 + 1) 0 (hdC (qz2f A H' A.vers[v].next)).toArray ?hxn48 ?hyn48 ?htn48 (qz8 _) (qzc _) ?_)
  try (case hxn48 => rfl)
  try (case hyn48 => rfl)
  case htn48 => exact F9
  refine bodyPost_ret (v := .agg (hdC (qz2f A H' A.vers[v].next)).toArray) ?_ rfl ⟨by rw [hv.out], ?_⟩
  ·exact qz4 Tryz.results42 _ _ (w.heap.size + 1 + 1) 0 rfl (hdC (qz2f A H' A.vers[v].next)) _ (World.rangeAt_setCells_same _ _ _ _ F9) Tryz.underlying36 rfl (qz1 _)
  ·exact Below.setCells (by omega) _ _ _ K9
 have b3 : (h.then_ == 3) = false := by simp [t3]
 by_cases t4 : h.then_ = 4
 case pos =>
  obtain ⟨H', hH⟩ : ∃ H' : Hd, Hid (H' = { h with at_ := 10 }) := by exact ⟨_, rfl⟩
  have hv : Hid (onH A h = H') := by show _ = _; rw [hH.out]; simp [onH, t4]
  go_upto_region 37 with (first | (go_at_call 76; refine (qz10 _ _ _).mono ?_; rintro e w' ⟨rfl, hw⟩; obtain rfl := hw.symm))
  go_wp2_with (first | (refine wpList_load_mid rfl 36 (.tmp 3) rfl (w.heap.size + 1) 0 ?hxln49 (hdC H') _ ?hcn49 Tryz.underlying36 rfl (qz1 H') ?_) | (refine wpList_store_mid rfl 36 (.tmp 4) _ rfl (w.heap.size + 1 + 1) 0 (hdC H').toArray ?hxn49 ?hyn49 ?htn49 (qz8 _) (qzc _) ?_))
  try (case hxln49 => rfl)
  case hcn49 => rw [hH.out]; exact (qz6 H1 0 (by simp [hdC]) _)
  try (case hxn49 => rfl)
  try (case hyn49 => rfl)
  case htn49 => exact (qz2 F1 _ _)
  refine bodyPost_ret (v := .agg (hdC H').toArray) ?_ rfl ⟨by rw [hv.out], ?_⟩
  ·exact qz4 Tryz.results42 _ _ (w.heap.size + 1 + 1) 0 rfl (hdC H') _ (World.rangeAt_setCells_same _ _ _ _ (qz2 F1 _ _)) Tryz.underlying36 rfl (qz1 _)
  ·exact Below.setCells (by omega) _ _ _ (Below.setCell K1 (p := ⟨w.heap.size + 1, 0, none⟩) (by show w.heap.size <= w.heap.size + 1; omega) _)
 have b4 : (h.then_ == 4) = false := by simp [t4]
 by_cases t5 : h.then_ = 5
 case pos =>
  obtain ⟨H', hH⟩ : ∃ H' : Hd, Hid (H' = { h with at_ := 12 }) := by exact ⟨_, rfl⟩
  have hv : Hid (onH A h = H') := by show _ = _; rw [hH.out]; simp [onH, t5]
  go_upto_region 37 with (first | (go_at_call 76; refine (qz10 _ _ _).mono ?_; rintro e w' ⟨rfl, hw⟩; obtain rfl := hw.symm))
  go_wp2_with (first | (refine wpList_load_mid rfl 36 (.tmp 3) rfl (w.heap.size + 1) 0 ?hxln50 (hdC H') _ ?hcn50 Tryz.underlying36 rfl (qz1 H') ?_) | (refine wpList_store_mid rfl 36 (.tmp 4) _ rfl (w.heap.size + 1 + 1) 0 (hdC H').toArray ?hxn50 ?hyn50 ?htn50 (qz8 _) (qzc _) ?_))
  try (case hxln50 => rfl)
  case hcn50 => rw [hH.out]; exact (qz6 H1 0 (by simp [hdC]) _)
  try (case hxn50 => rfl)
  try (case hyn50 => rfl)
  case htn50 => exact (qz2 F1 _ _)
  refine bodyPost_ret (v := .agg (hdC H').toArray) ?_ rfl ⟨by rw [hv.out], ?_⟩
  ·exact qz4 Tryz.results42 _ _ (w.heap.size + 1 + 1) 0 rfl (hdC H') _ (World.rangeAt_setCells_same _ _ _ _ (qz2 F1 _ _)) Tryz.underlying36 rfl (qz1 _)
  ·exact Below.setCells (by omega) _ _ _ (Below.setCell K1 (p := ⟨w.heap.size + 1, 0, none⟩) (by show w.heap.size <= w.heap.size + 1; omega) _)
 have b5 : (h.then_ == 5) = false := by simp [t5]
 by_cases t6 : h.then_ = 6
 case pos =>
  by_cases ks : A.vers[v].stamp <= h.held
  ·obtain ⟨H', hH⟩ : ∃ H' : Hd, Hid (H' = h) := by exact ⟨_, rfl⟩
   have hv : Hid (onH A h = useH A H') := by show _ = _; rw [hH.out]; simp [onH, t6, hvr, ks]
   go_upto_region 31 with (first | (go_at_call 76; refine (qz10 _ _ _).mono ?_; rintro e w' ⟨rfl, hw⟩; obtain rfl := hw.symm))
   go_wp2_with (first | (refine wpList_load_mid rfl 36 (.tmp 3) rfl (w.heap.size + 1) 0 ?hxln51 (hdC H') _ ?hcn51 Tryz.underlying36 rfl (qz1 H') ?_))
   try (case hxln51 => rfl)
   case hcn51 => rw [hH.out]; exact H1
   refine (qz9i B A H' _ _ _ _ _ _ _ _ _ (by first | omega | (simp; omega)) hA' (I1.below (Below.refl B w1)) x y z u hOk (by rw [hH.out]; exact hv0) (by rw [hH.out]; exact hv1) (by rw [hH.out]; exact hx0) (by rw [hH.out]; exact hx1) (by rw [hH.out]; exact ho0) (by rw [hH.out]; exact ho1) (by rw [hH.out]; exact hs0) (by rw [hH.out]; exact hs1)).mono ?_
   rintro e w9 ⟨rfl, b9⟩
   have F9 := qz3 F1 b9 (by first | omega | (simp; omega))
   have K9 := K1.trans (b9.mono (by first | omega | (simp; omega)))
   go_wp2_with (refine wpList_store_mid rfl 36 (.tmp 4) _ rfl (w.heap.size + 1 + 1) 0 (hdC (useH A H')).toArray ?hxn51 ?hyn51 ?htn51 (qz8 _) (qzc _) ?_)
   try (case hxn51 => rfl)
   try (case hyn51 => rfl)
   case htn51 => exact F9
   refine bodyPost_ret (v := .agg (hdC (useH A H')).toArray) ?_ rfl ⟨by rw [hv.out], ?_⟩
   ·exact qz4 Tryz.results42 _ _ (w.heap.size + 1 + 1) 0 rfl (hdC (useH A H')) _ (World.rangeAt_setCells_same _ _ _ _ F9) Tryz.underlying36 rfl (qz1 _)
   ·exact Below.setCells (by omega) _ _ _ K9
  obtain ⟨H', hH⟩ : ∃ H' : Hd, Hid (H' = { h with at_ := 19 }) := by exact ⟨_, rfl⟩
  have hv : Hid (onH A h = H') := by show _ = _; rw [hH.out]; simp [onH, t6, hvr, ks]
  go_upto_region 37 with (first | (go_at_call 76; refine (qz10 _ _ _).mono ?_; rintro e w' ⟨rfl, hw⟩; obtain rfl := hw.symm))
  go_wp2_with (first | (refine wpList_load_mid rfl 36 (.tmp 3) rfl (w.heap.size + 1) 0 ?hxln52 (hdC H') _ ?hcn52 Tryz.underlying36 rfl (qz1 H') ?_) | (refine wpList_store_mid rfl 36 (.tmp 4) _ rfl (w.heap.size + 1 + 1) 0 (hdC H').toArray ?hxn52 ?hyn52 ?htn52 (qz8 _) (qzc _) ?_))
  try (case hxln52 => rfl)
  case hcn52 => rw [hH.out]; exact (qz6 H1 0 (by simp [hdC]) _)
  try (case hxn52 => rfl)
  try (case hyn52 => rfl)
  case htn52 => exact (qz2 F1 _ _)
  refine bodyPost_ret (v := .agg (hdC H').toArray) ?_ rfl ⟨by rw [hv.out], ?_⟩
  ·exact qz4 Tryz.results42 _ _ (w.heap.size + 1 + 1) 0 rfl (hdC H') _ (World.rangeAt_setCells_same _ _ _ _ (qz2 F1 _ _)) Tryz.underlying36 rfl (qz1 _)
  ·exact Below.setCells (by omega) _ _ _ (Below.setCell K1 (p := ⟨w.heap.size + 1, 0, none⟩) (by show w.heap.size <= w.heap.size + 1; omega) _)
 have b6 : (h.then_ == 6) = false := by simp [t6]
 by_cases t7 : h.then_ = 7
 case pos =>
  by_cases ks : A.vers[v].stamp <= h.least
  ·obtain ⟨H', hH⟩ : ∃ H' : Hd, Hid (H' = { h with at_ := 23 }) := by exact ⟨_, rfl⟩
   have hv : Hid (onH A h = H') := by show _ = _; rw [hH.out]; simp [onH, t7, hvr, ks]
   go_upto_region 37 with (first | (go_at_call 76; refine (qz10 _ _ _).mono ?_; rintro e w' ⟨rfl, hw⟩; obtain rfl := hw.symm))
   go_wp2_with (first | (refine wpList_load_mid rfl 36 (.tmp 3) rfl (w.heap.size + 1) 0 ?hxln53 (hdC H') _ ?hcn53 Tryz.underlying36 rfl (qz1 H') ?_) | (refine wpList_store_mid rfl 36 (.tmp 4) _ rfl (w.heap.size + 1 + 1) 0 (hdC H').toArray ?hxn53 ?hyn53 ?htn53 (qz8 _) (qzc _) ?_))
   try (case hxln53 => rfl)
   case hcn53 => rw [hH.out]; exact (qz6 (qz6 H1 0 (by simp [hdC]) _) 0 (by simp [hdC]) _)
   try (case hxn53 => rfl)
   try (case hyn53 => rfl)
   case htn53 => exact (qz2 (qz2 F1 _ _) _ _)
   refine bodyPost_ret (v := .agg (hdC H').toArray) ?_ rfl ⟨by rw [hv.out], ?_⟩
   ·exact qz4 Tryz.results42 _ _ (w.heap.size + 1 + 1) 0 rfl (hdC H') _ (World.rangeAt_setCells_same _ _ _ _ (qz2 (qz2 F1 _ _) _ _)) Tryz.underlying36 rfl (qz1 _)
   ·exact Below.setCells (by omega) _ _ _ (Below.setCell (Below.setCell K1 (p := ⟨w.heap.size + 1, 0, none⟩) (by show w.heap.size <= w.heap.size + 1; omega) _) (p := ⟨w.heap.size + 1, 0, none⟩) (by show w.heap.size <= w.heap.size + 1; omega) _)
  obtain ⟨H', hH⟩ : ∃ H' : Hd, Hid (H' = { h with at_ := 22 }) := by exact ⟨_, rfl⟩
  have hv : Hid (onH A h = H') := by show _ = _; rw [hH.out]; simp [onH, t7, hvr, ks]
  go_upto_region 37 with (first | (go_at_call 76; refine (qz10 _ _ _).mono ?_; rintro e w' ⟨rfl, hw⟩; obtain rfl := hw.symm))
  go_wp2_with (first | (refine wpList_load_mid rfl 36 (.tmp 3) rfl (w.heap.size + 1) 0 ?hxln54 (hdC H') _ ?hcn54 Tryz.underlying36 rfl (qz1 H') ?_) | (refine wpList_store_mid rfl 36 (.tmp 4) _ rfl (w.heap.size + 1 + 1) 0 (hdC H').toArray ?hxn54 ?hyn54 ?htn54 (qz8 _) (qzc _) ?_))
  try (case hxln54 => rfl)
  case hcn54 => rw [hH.out]; exact (qz6 H1 0 (by simp [hdC]) _)
  try (case hxn54 => rfl)
  try (case hyn54 => rfl)
  case htn54 => exact (qz2 F1 _ _)
  refine bodyPost_ret (v := .agg (hdC H').toArray) ?_ rfl ⟨by rw [hv.out], ?_⟩
  ·exact qz4 Tryz.results42 _ _ (w.heap.size + 1 + 1) 0 rfl (hdC H') _ (World.rangeAt_setCells_same _ _ _ _ (qz2 F1 _ _)) Tryz.underlying36 rfl (qz1 _)
  ·exact Below.setCells (by omega) _ _ _ (Below.setCell K1 (p := ⟨w.heap.size + 1, 0, none⟩) (by show w.heap.size <= w.heap.size + 1; omega) _)
 have b7 : (h.then_ == 7) = false := by simp [t7]
 obtain ⟨H', hH⟩ : ∃ H' : Hd, Hid (H' = { h with at_ := 0 }) := by exact ⟨_, rfl⟩
 have hv : Hid (onH A h = H') := by show _ = _; rw [hH.out]; simp [onH, t1, t2, t3, t4, t5, t6, t7]
 go_upto_region 37 with (first | (go_at_call 76; refine (qz10 _ _ _).mono ?_; rintro e w' ⟨rfl, hw⟩; obtain rfl := hw.symm))
 go_wp2_with (first | (refine wpList_load_mid rfl 36 (.tmp 3) rfl (w.heap.size + 1) 0 ?hxln55 (hdC H') _ ?hcn55 Tryz.underlying36 rfl (qz1 H') ?_) | (refine wpList_store_mid rfl 36 (.tmp 4) _ rfl (w.heap.size + 1 + 1) 0 (hdC H').toArray ?hxn55 ?hyn55 ?htn55 (qz8 _) (qzc _) ?_))
 try (case hxln55 => rfl)
 case hcn55 => rw [hH.out]; exact (qz6 H1 0 (by simp [hdC]) _)
 try (case hxn55 => rfl)
 try (case hyn55 => rfl)
 case htn55 => exact (qz2 F1 _ _)
 refine bodyPost_ret (v := .agg (hdC H').toArray) ?_ rfl ⟨by rw [hv.out], ?_⟩
 ·exact qz4 Tryz.results42 _ _ (w.heap.size + 1 + 1) 0 rfl (hdC H') _ (World.rangeAt_setCells_same _ _ _ _ (qz2 F1 _ _)) Tryz.underlying36 rfl (qz1 _)
 ·exact Below.setCells (by omega) _ _ _ (Below.setCell K1 (p := ⟨w.heap.size + 1, 0, none⟩) (by show w.heap.size <= w.heap.size + 1; omega) _)
end
section
attribute [local go_sem ↓] Go.wp_at_zero Go.wp_at_succ
theorem qzac (n : Int) (w : World) : Calls Tryz.prog 91 #[.int .i64 n] w fun e w' => e = .returned (.func (.func 108) #[] #[.pointer (some ⟨w.heap.size, 0, none⟩)]) /\ w' = w.alloc (.cells #[.int .i64 n] 2) := by
 go_enter Tryz.func91, Tryz.ntmps91
 go_wp2
 go_ret
 exact ⟨rfl, rfl⟩
def qzb3 (b : Nat) : Value := .agg #[.func (.func 108) #[] #[.pointer (some ⟨b, 0, none⟩)], .func (.func 92) #[] #[], .func (.func 93) #[] #[], .func (.func 94) #[] #[], .func (.func 108) #[] #[.pointer (some ⟨b + 1, 0, none⟩)], .func (.func 108) #[] #[.pointer (some ⟨b + 2, 0, none⟩)], .func (.func 95) #[] #[], .func (.func 96) #[] #[]]
def wayV (b : Nat) (k : Int) : Value :=
 if k = 0 then .func (.func 108) #[] #[.pointer (some ⟨b, 0, none⟩)] else if k = 1 then .func (.func 92) #[] #[] else if k = 2 then .func (.func 93) #[] #[] else if k = 3 then .func (.func 94) #[] #[] else if k = 4 then .func (.func 108) #[] #[.pointer (some ⟨b + 1, 0, none⟩)] else if k = 5 then .func (.func 108) #[] #[.pointer (some ⟨b + 2, 0, none⟩)] else if k = 6 then .func (.func 95) #[] #[] else .func (.func 96) #[] #[]
structure qz6i (lo : Nat) (w : World) (b : Nat) : Prop where
 lo : lo <= b
 hi : b + 2 < w.heap.size
 c0 : w.cell? ⟨b, 0, none⟩ = some (.int .i64 0)
 c1 : w.cell? ⟨b + 1, 0, none⟩ = some (.int .i64 10)
 c2 : w.cell? ⟨b + 2, 0, none⟩ = some (.int .i64 12)
theorem qz6i.below {lo : Nat} {w w' : World} {b : Nat} (h : qz6i lo w b) (hb : Below w.heap.size w w') : qz6i lo w' b :=
 ⟨h.lo, Nat.lt_of_lt_of_le h.hi hb.size, (hb.cell (p := ⟨b, 0, none⟩) (by show b < w.heap.size; have := h.hi; omega)).trans h.c0, (hb.cell (p := ⟨b + 1, 0, none⟩) (by show b + 1 < w.heap.size; have := h.hi; omega)).trans h.c1, (hb.cell (p := ⟨b + 2, 0, none⟩) (by show b + 2 < w.heap.size; have := h.hi; omega)).trans h.c2⟩
theorem qz8l (w : World) : Calls Tryz.prog 61 #[] w fun e w' => ∃ b, e = .returned (qzb3 b) /\ qz6i w.heap.size w' b /\ Below w.heap.size w w' := by
 go_enter Tryz.func61, Tryz.ntmps61
 go_wp2_with (go_at_call 91; refine (qzac _ _).mono ?_; rintro e w' ⟨rfl, hw⟩; obtain rfl := hw.symm)
 have C0 := fun O => World.rangeAt_alloc (World.rangeAt_alloc (qz5 (w.alloc O) [.int .i64 0] 2) (.cells #[.int .i64 10] 2)) (.cells #[.int .i64 12] 2)
 have C1 := fun O => World.rangeAt_alloc (qz5 ((w.alloc O).alloc (.cells #[.int .i64 0] 2)) [.int .i64 10] 2) (.cells #[.int .i64 12] 2)
 have C2 := fun O => qz5 (((w.alloc O).alloc (.cells #[.int .i64 0] 2)).alloc (.cells #[.int .i64 10] 2)) [.int .i64 12] 2
 simp only [World.size_alloc] at C0 C1 C2
 refine bodyPost_ret (v := qzb3 (w.heap.size + 1)) ?_ rfl ⟨w.heap.size + 1, rfl, ⟨by omega, by simp, by simpa using C0 _ 0 _ rfl, by simpa using C1 _ 0 _ rfl, by simpa using C2 _ 0 _ rfl⟩, (((Below.refl _ _).alloc (Nat.le_refl _) _).alloc (by simp) _ |>.alloc (by simp; omega) _).alloc (by simp; omega) _⟩
 exact qz4 Tryz.results61 _ _ w.heap.size 0 rfl [.func (.func 108) #[] #[.pointer (some ⟨w.heap.size + 1, 0, none⟩)], .func (.func 92) #[] #[], .func (.func 93) #[] #[], .func (.func 94) #[] #[], .func (.func 108) #[] #[.pointer (some ⟨w.heap.size + 1 + 1, 0, none⟩)], .func (.func 108) #[] #[.pointer (some ⟨w.heap.size + 1 + 2, 0, none⟩)], .func (.func 95) #[] #[], .func (.func 96) #[] #[]] _ (World.rangeAt_alloc (World.rangeAt_alloc (World.rangeAt_alloc (qz5 w [.func (.func 108) #[] #[.pointer (some ⟨w.heap.size + 1, 0, none⟩)], .func (.func 92) #[] #[], .func (.func 93) #[] #[], .func (.func 94) #[] #[], .func (.func 108) #[] #[.pointer (some ⟨w.heap.size + 1 + 1, 0, none⟩)], .func (.func 108) #[] #[.pointer (some ⟨w.heap.size + 1 + 2, 0, none⟩)], .func (.func 95) #[] #[], .func (.func 96) #[] #[]] 108) _) _) _) Tryz.underlying108 rfl (by show _ = some 8; kernel_rfl)
theorem qzc9 (b : Nat) (w : World) : (Instr.index 108 (.agg #[.func (.func 108) #[] #[.pointer (some ⟨b, 0, none⟩)], .func (.func 92) #[] #[], .func (.func 93) #[] #[], .func (.func 94) #[] #[], .func (.func 108) #[] #[.pointer (some ⟨b + 1, 0, none⟩)], .func (.func 108) #[] #[.pointer (some ⟨b + 2, 0, none⟩)], .func (.func 95) #[] #[], .func (.func 96) #[] #[]]) (.int .i64 0)).run Tryz.prog w = .ok (.func (.func 108) #[] #[.pointer (some ⟨b, 0, none⟩)]) w := by kernel_rfl
theorem qzc2 (b : Nat) (w : World) : (Instr.index 108 (.agg #[.func (.func 108) #[] #[.pointer (some ⟨b, 0, none⟩)], .func (.func 92) #[] #[], .func (.func 93) #[] #[], .func (.func 94) #[] #[], .func (.func 108) #[] #[.pointer (some ⟨b + 1, 0, none⟩)], .func (.func 108) #[] #[.pointer (some ⟨b + 2, 0, none⟩)], .func (.func 95) #[] #[], .func (.func 96) #[] #[]]) (.int .i64 1)).run Tryz.prog w = .ok (.func (.func 92) #[] #[]) w := by kernel_rfl
theorem qzbx (b : Nat) (w : World) : (Instr.index 108 (.agg #[.func (.func 108) #[] #[.pointer (some ⟨b, 0, none⟩)], .func (.func 92) #[] #[], .func (.func 93) #[] #[], .func (.func 94) #[] #[], .func (.func 108) #[] #[.pointer (some ⟨b + 1, 0, none⟩)], .func (.func 108) #[] #[.pointer (some ⟨b + 2, 0, none⟩)], .func (.func 95) #[] #[], .func (.func 96) #[] #[]]) (.int .i64 2)).run Tryz.prog w = .ok (.func (.func 93) #[] #[]) w := by kernel_rfl
theorem qzc1 (b : Nat) (w : World) : (Instr.index 108 (.agg #[.func (.func 108) #[] #[.pointer (some ⟨b, 0, none⟩)], .func (.func 92) #[] #[], .func (.func 93) #[] #[], .func (.func 94) #[] #[], .func (.func 108) #[] #[.pointer (some ⟨b + 1, 0, none⟩)], .func (.func 108) #[] #[.pointer (some ⟨b + 2, 0, none⟩)], .func (.func 95) #[] #[], .func (.func 96) #[] #[]]) (.int .i64 3)).run Tryz.prog w = .ok (.func (.func 94) #[] #[]) w := by kernel_rfl
theorem qzc3 (b : Nat) (w : World) : (Instr.index 108 (.agg #[.func (.func 108) #[] #[.pointer (some ⟨b, 0, none⟩)], .func (.func 92) #[] #[], .func (.func 93) #[] #[], .func (.func 94) #[] #[], .func (.func 108) #[] #[.pointer (some ⟨b + 1, 0, none⟩)], .func (.func 108) #[] #[.pointer (some ⟨b + 2, 0, none⟩)], .func (.func 95) #[] #[], .func (.func 96) #[] #[]]) (.int .i64 4)).run Tryz.prog w = .ok (.func (.func 108) #[] #[.pointer (some ⟨b + 1, 0, none⟩)]) w := by kernel_rfl
theorem qzby (b : Nat) (w : World) : (Instr.index 108 (.agg #[.func (.func 108) #[] #[.pointer (some ⟨b, 0, none⟩)], .func (.func 92) #[] #[], .func (.func 93) #[] #[], .func (.func 94) #[] #[], .func (.func 108) #[] #[.pointer (some ⟨b + 1, 0, none⟩)], .func (.func 108) #[] #[.pointer (some ⟨b + 2, 0, none⟩)], .func (.func 95) #[] #[], .func (.func 96) #[] #[]]) (.int .i64 5)).run Tryz.prog w = .ok (.func (.func 108) #[] #[.pointer (some ⟨b + 2, 0, none⟩)]) w := by kernel_rfl
theorem qzbw (b : Nat) (w : World) : (Instr.index 108 (.agg #[.func (.func 108) #[] #[.pointer (some ⟨b, 0, none⟩)], .func (.func 92) #[] #[], .func (.func 93) #[] #[], .func (.func 94) #[] #[], .func (.func 108) #[] #[.pointer (some ⟨b + 1, 0, none⟩)], .func (.func 108) #[] #[.pointer (some ⟨b + 2, 0, none⟩)], .func (.func 95) #[] #[], .func (.func 96) #[] #[]]) (.int .i64 6)).run Tryz.prog w = .ok (.func (.func 95) #[] #[]) w := by kernel_rfl
theorem qzbz (b : Nat) (w : World) : (Instr.index 108 (.agg #[.func (.func 108) #[] #[.pointer (some ⟨b, 0, none⟩)], .func (.func 92) #[] #[], .func (.func 93) #[] #[], .func (.func 94) #[] #[], .func (.func 108) #[] #[.pointer (some ⟨b + 1, 0, none⟩)], .func (.func 108) #[] #[.pointer (some ⟨b + 2, 0, none⟩)], .func (.func 95) #[] #[], .func (.func 96) #[] #[]]) (.int .i64 7)).run Tryz.prog w = .ok (.func (.func 96) #[] #[]) w := by kernel_rfl
def qzc8 (lo b0 : Nat) (A : Ar) (a0 a1 a2 : Option Addr) (c0 c1 c2 c3 : Nat) (bb off v : Nat) (h : Hd) (m : Vr) : Nat -> Value -> World -> Prop
 | 0, x, w => ∃ b, x = qzb3 b /\ qz6i lo w b
 | 1, x, _ => x = .pointer (some ⟨b0 + 1, 1, none⟩)
 | 2, x, _ => x = .int .i64 h.then_
 | 3, x, w => ∃ b, x = wayV b h.then_ /\ qz6i lo w b
 | 4, x, _ => x = .agg #[.int .i64 A.camera, .slice a0 A.slots.length c0, .slice a1 A.guides.length c1, .slice a2 A.nodes.length c2, .slice (some ⟨bb, off, none⟩) A.vers.length c3]
 | 5, x, _ => x = .agg (hdC h).toArray
 | 6, x, _ => x = .pointer (some ⟨b0, 4, none⟩)
 | 7, x, _ => x = .slice (some ⟨bb, off, none⟩) A.vers.length c3
 | 8, x, _ => x = .pointer (some ⟨b0 + 1, 11, none⟩)
 | 9, x, _ => x = .int .i64 (v : Int)
 | 10, x, _ => x = .pointer (some ⟨bb, off + v * 5, none⟩)
 | 11, x, _ => x = .agg #[.int .i64 m.next, .bool m.gone, .int .i64 m.stamp, .int .i64 m.prev, .int .i64 m.kind]
 | _, _, _ => True
theorem qz9c {lo b0 : Nat} {A : Ar} {a0 a1 a2 : Option Addr} {c0 c1 c2 c3 : Nat} {bb off v : Nat} {h : Hd} {m : Vr} (i : Nat) (x : Value) (w w' : World) (hq : qzc8 lo b0 A a0 a1 a2 c0 c1 c2 c3 bb off v h m i x w) (hb : Below w.heap.size w w') : qzc8 lo b0 A a0 a1 a2 c0 c1 c2 c3 bb off v h m i x w' := by
 match i, hq with
 | 0, hq => obtain ⟨b, e, W⟩ := hq; exact ⟨b, e, W.below hb⟩
 | 1, h | 2, h | 4, h | 5, h | 6, h | 7, h | 8, h | 9, h | 10, h | 11, h => exact h
 | 3, hq => obtain ⟨b, e, W⟩ := hq; exact ⟨b, e, W.below hb⟩
 | n + 12, h => exact trivial
theorem qz6x (B : Nat) (A : Ar) (h : Hd) (a0 a1 a2 a3 : Option Addr) (c0 c1 c2 c3 : Nat) (w : World) (hB : B <= w.heap.size) (hA : A.size <= 1048576) (I : qzi B w (.slice a0 A.slots.length c0) (.slice a1 A.guides.length c1) (.slice a2 A.nodes.length c2) (.slice a3 A.vers.length c3) A) (x y z u : Int) (hOk : qz14 x y z u A = true) (hv0 : 0 <= h.ver) (hv1 : h.ver < (A.vers.length : Int)) (hx0 : 0 <= h.x_) (hx1 : h.x_ < (A.nodes.length : Int)) (hc0 : -1 <= h.curr) (hcu : h.curr < (A.nodes.length : Int)) (hn0 : -1 <= h.new_) (ho0 : 0 <= h.out) (ho1 : h.out <= 1000000) (hs0 : 0 <= h.sum) (hs1 : h.sum <= 1000000) (ht0 : 0 <= h.then_) (ht1 : h.then_ <= 7) :
  Calls Tryz.prog 28 #[.agg #[.int .i64 A.camera, .slice a0 A.slots.length c0, .slice a1 A.guides.length c1, .slice a2 A.nodes.length c2, .slice a3 A.vers.length c3], .agg (hdC h).toArray] w fun e w' => e = .returned (.agg (hdC (onH A h)).toArray) /\ Below w.heap.size w w' := by
 have hA' := hA
 unfold Ar.size at hA
 have X0 := World.rangeAt_alloc (World.rangeAt_alloc (qz5 w [.int .i64 A.camera, .slice a0 A.slots.length c0, .slice a1 A.guides.length c1, .slice a2 A.nodes.length c2, .slice a3 A.vers.length c3] 35) (.cells (hdC h).toArray 36)) (.cells #[.int .i64 0, .int .i64 0, .int .i64 0, .int .i64 0, .int .i64 0, .int .i64 0, .int .i64 0, .int .i64 0, .int .i64 0, .int .i64 0, .int .i64 0, .int .i64 0, .int .i64 0, .int .i64 0, .int .i64 0, .int .i64 0, .int .i64 0, .int .i64 0, .int .i64 0, .int .i64 0, .int .i64 0, .int .i64 0] 36)
 have H0 := World.rangeAt_alloc (qz5 (w.alloc (.cells #[.int .i64 A.camera, .slice a0 A.slots.length c0, .slice a1 A.guides.length c1, .slice a2 A.nodes.length c2, .slice a3 A.vers.length c3] 35)) (hdC h) 36) (.cells #[.int .i64 0, .int .i64 0, .int .i64 0, .int .i64 0, .int .i64 0, .int .i64 0, .int .i64 0, .int .i64 0, .int .i64 0, .int .i64 0, .int .i64 0, .int .i64 0, .int .i64 0, .int .i64 0, .int .i64 0, .int .i64 0, .int .i64 0, .int .i64 0, .int .i64 0, .int .i64 0, .int .i64 0, .int .i64 0] 36)
 have G0 := World.there_alloc (qzf (w.alloc (.cells #[.int .i64 A.camera, .slice a0 A.slots.length c0, .slice a1 A.guides.length c1, .slice a2 A.nodes.length c2, .slice a3 A.vers.length c3] 35)) (hdC h).toArray 36 22 (by simp [hdC])) (.cells #[.int .i64 0, .int .i64 0, .int .i64 0, .int .i64 0, .int .i64 0, .int .i64 0, .int .i64 0, .int .i64 0, .int .i64 0, .int .i64 0, .int .i64 0, .int .i64 0, .int .i64 0, .int .i64 0, .int .i64 0, .int .i64 0, .int .i64 0, .int .i64 0, .int .i64 0, .int .i64 0, .int .i64 0, .int .i64 0] 36)
 have F0 := qzf ((w.alloc (.cells #[.int .i64 A.camera, .slice a0 A.slots.length c0, .slice a1 A.guides.length c1, .slice a2 A.nodes.length c2, .slice a3 A.vers.length c3] 35)).alloc (.cells (hdC h).toArray 36)) #[.int .i64 0, .int .i64 0, .int .i64 0, .int .i64 0, .int .i64 0, .int .i64 0, .int .i64 0, .int .i64 0, .int .i64 0, .int .i64 0, .int .i64 0, .int .i64 0, .int .i64 0, .int .i64 0, .int .i64 0, .int .i64 0, .int .i64 0, .int .i64 0, .int .i64 0, .int .i64 0, .int .i64 0, .int .i64 0] 36 22 (by decide)
 have K0 := ((((Below.refl w.heap.size w).alloc (Nat.le_refl _) (.cells #[.int .i64 A.camera, .slice a0 A.slots.length c0, .slice a1 A.guides.length c1, .slice a2 A.nodes.length c2, .slice a3 A.vers.length c3] 35)).alloc (by simp) (.cells (hdC h).toArray 36)).alloc (by simp <;> omega) (.cells #[.int .i64 0, .int .i64 0, .int .i64 0, .int .i64 0, .int .i64 0, .int .i64 0, .int .i64 0, .int .i64 0, .int .i64 0, .int .i64 0, .int .i64 0, .int .i64 0, .int .i64 0, .int .i64 0, .int .i64 0, .int .i64 0, .int .i64 0, .int .i64 0, .int .i64 0, .int .i64 0, .int .i64 0, .int .i64 0] 36))
 have hz0 : w.heap.size + 1 + 1 < (((w.alloc (.cells #[.int .i64 A.camera, .slice a0 A.slots.length c0, .slice a1 A.guides.length c1, .slice a2 A.nodes.length c2, .slice a3 A.vers.length c3] 35)).alloc (.cells (hdC h).toArray 36)).alloc (.cells #[.int .i64 0, .int .i64 0, .int .i64 0, .int .i64 0, .int .i64 0, .int .i64 0, .int .i64 0, .int .i64 0, .int .i64 0, .int .i64 0, .int .i64 0, .int .i64 0, .int .i64 0, .int .i64 0, .int .i64 0, .int .i64 0, .int .i64 0, .int .i64 0, .int .i64 0, .int .i64 0, .int .i64 0, .int .i64 0] 36)).heap.size := by simp
 simp only [World.size_alloc] at H0 G0 F0
 have I0 := I.below (K0.mono hB)
 go_enter Tryz.func28, Tryz.ntmps28
 go_wp2_with fail
 generalize hw0 : ((w.alloc (.cells #[.int .i64 A.camera, .slice a0 A.slots.length c0, .slice a1 A.guides.length c1, .slice a2 A.nodes.length c2, .slice a3 A.vers.length c3] 35)).alloc (.cells (hdC h).toArray 36)).alloc (.cells #[.int .i64 0, .int .i64 0, .int .i64 0, .int .i64 0, .int .i64 0, .int .i64 0, .int .i64 0, .int .i64 0, .int .i64 0, .int .i64 0, .int .i64 0, .int .i64 0, .int .i64 0, .int .i64 0, .int .i64 0, .int .i64 0, .int .i64 0, .int .i64 0, .int .i64 0, .int .i64 0, .int .i64 0, .int .i64 0] 36) = w0 at *
 clear hw0 I
 obtain ⟨v, hv⟩ : ∃ v : Nat, h.ver = v := ⟨h.ver.toNat, by omega⟩
 have hvl : v < A.vers.length := by omega
 have hvl' : (v : Int) < (A.vers.length : Int) := by omega
 have hvl0 : (0 : Int) <= (v : Int) := by omega
 have hvr : vrOf A h.ver = A.vers[v] := by rw [hv, qz2z A v hvl]
 have hver := qz44 hOk v hvl
 have hval := fun n hn => qz4q hOk n hn
 have ht : h.then_ = 0 ∨ h.then_ = 1 ∨ h.then_ = 2 ∨ h.then_ = 3 ∨ h.then_ = 4 ∨ h.then_ = 5 ∨ h.then_ = 6 ∨ h.then_ = 7 := by omega
 obtain ⟨bb, off, rfl, hbb, R⟩ := qzh.at I0.r (by omega)
 clear R
 have hvH : Hid (h.ver = v) := hv
 refine qz20 12 (by kernel_rfl) (qzc8 w0.heap.size w.heap.size A a0 a1 a2 c0 c1 c2 c3 bb off v h A.vers[v]) (fun _ => false) (by kernel_rfl) (by kernel_rfl) (by kernel_rfl) (by kernel_rfl) (by rfl) (fun i v w w' _ h hb => qz9c i v w w' h hb) (fun i v w q hf h hq => by cases hf) ?step ?final
 case step =>
  intro i o hik ho a W hb hnn hd K hK
  have XW := qz0 X0 hb (by omega)
  have HW := qz0 H0 hb (by omega)
  have IW := I0.below (hb.mono (Nat.le_trans hB K0.size))
  obtain ⟨x0, x1, x2, x3, x4⟩ := row5 XW
  obtain ⟨_, _, e0, hb9, R⟩ := qzh.at IW.r (by omega)
  cases e0
  have V5 := qza (sz := 5) (fun _ => rfl) R v hvl
  have v0 : W.cell? ⟨bb, off + v * 5, none⟩ = some (.int .i64 A.vers[v].next) := by simpa using V5 0 _ rfl
  have v1 : W.cell? ⟨bb, off + v * 5 + 1, none⟩ = some (.bool A.vers[v].gone) := V5 1 _ rfl
  have v2 : W.cell? ⟨bb, off + v * 5 + 2, none⟩ = some (.int .i64 A.vers[v].stamp) := V5 2 _ rfl
  have v3 : W.cell? ⟨bb, off + v * 5 + 3, none⟩ = some (.int .i64 A.vers[v].prev) := V5 3 _ rfl
  have v4 : W.cell? ⟨bb, off + v * 5 + 4, none⟩ = some (.int .i64 A.vers[v].kind) := V5 4 _ rfl
  have q1 : W.cell? ⟨w.heap.size + 1, 1, none⟩ = some (.int .i64 h.then_) := by simpa using HW 1 (.int .i64 h.then_) rfl
  have q11 : W.cell? ⟨w.heap.size + 1, 11, none⟩ = some (.int .i64 h.ver) := by simpa using HW 11 (.int .i64 h.ver) rfl
  rw [hv] at q11
  clear R V5 hv
  match i, ho with
  | 0, ho =>
   obtain rfl := Option.some.inj ho
   have ef : a.eval (.func 61) = .func (.func 61) #[] #[] := rfl
   refine qz12 (f := 61) (args := #[]) (R := fun v w' => (∃ b, v = qzb3 b /\ qz6i w0.heap.size w' b) /\ Below W.heap.size W w') ?_ ((qz8l W).mono (fun e w' h => by obtain ⟨b, e1, WA, hb'⟩ := h; exact ⟨_, e1, ⟨b, rfl, Nat.le_trans hb.size WA.lo, WA.hi, WA.c0, WA.c1, WA.c2⟩, hb'⟩)) (fun v w' h => hK v w' h.1 h.2 (fun h => by cases h))
   generalize a.eval = ev at *
   go_simp
  | 1, ho =>
   obtain rfl := Option.some.inj ho
   have e1 : a.eval (.tmp 3) = .pointer (some ⟨w.heap.size + 1, 0, none⟩) := hnn 3 rfl
   refine qz7 (v := .pointer (some ⟨w.heap.size + 1, 1, none⟩)) (w' := W) ?_ (hK _ _ rfl (Below.refl _ _) (fun h => by cases h))
   generalize a.eval = ev at *
   go_simp
  | 2, ho =>
   obtain rfl := Option.some.inj ho
   have e1 : a.eval (.tmp 6) = .pointer (some ⟨w.heap.size + 1, 1, none⟩) := hd ⟨1, .data⟩ (by simp) rfl 6 rfl
   refine qz7 (v := .int .i64 h.then_) (w' := W) ?_ (hK _ _ rfl (Below.refl _ _) (fun h => by cases h))
   generalize a.eval = ev at *
   go_simp
  | 3, ho =>
   obtain rfl := Option.some.inj ho
   obtain ⟨b, e1, WA⟩ := (show ∃ b, a.eval (.tmp 5) = qzb3 b /\ qz6i w0.heap.size W b from hd ⟨0, .data⟩ (by simp) rfl 5 rfl)
   have e2 : a.eval (.tmp 7) = .int .i64 h.then_ := hd ⟨2, .data⟩ (by simp) rfl 7 rfl
   unfold qzb3 at e1
   rcases ht with ek | ek | ek | ek | ek | ek | ek | ek
   ·rw [ek] at e2
    refine qz7 (v := .func (.func 108) #[] #[.pointer (some ⟨b, 0, none⟩)]) (w' := W) ?_ (hK _ _ ⟨b, by rw [ek]; rfl, WA⟩ (Below.refl _ _) (fun h => by cases h))
    clear ek
    have hix := qzc9 b
    generalize a.eval = ev at *
    go_simp
   ·rw [ek] at e2
    refine qz7 (v := .func (.func 92) #[] #[]) (w' := W) ?_ (hK _ _ ⟨b, by rw [ek]; rfl, WA⟩ (Below.refl _ _) (fun h => by cases h))
    clear ek
    have hix := qzc2 b
    generalize a.eval = ev at *
    go_simp
   ·rw [ek] at e2
    refine qz7 (v := .func (.func 93) #[] #[]) (w' := W) ?_ (hK _ _ ⟨b, by rw [ek]; rfl, WA⟩ (Below.refl _ _) (fun h => by cases h))
    clear ek
    have hix := qzbx b
    generalize a.eval = ev at *
    go_simp
   ·rw [ek] at e2
    refine qz7 (v := .func (.func 94) #[] #[]) (w' := W) ?_ (hK _ _ ⟨b, by rw [ek]; rfl, WA⟩ (Below.refl _ _) (fun h => by cases h))
    clear ek
    have hix := qzc1 b
    generalize a.eval = ev at *
    go_simp
   ·rw [ek] at e2
    refine qz7 (v := .func (.func 108) #[] #[.pointer (some ⟨b + 1, 0, none⟩)]) (w' := W) ?_ (hK _ _ ⟨b, by rw [ek]; rfl, WA⟩ (Below.refl _ _) (fun h => by cases h))
    clear ek
    have hix := qzc3 b
    generalize a.eval = ev at *
    go_simp
   ·rw [ek] at e2
    refine qz7 (v := .func (.func 108) #[] #[.pointer (some ⟨b + 2, 0, none⟩)]) (w' := W) ?_ (hK _ _ ⟨b, by rw [ek]; rfl, WA⟩ (Below.refl _ _) (fun h => by cases h))
    clear ek
    have hix := qzby b
    generalize a.eval = ev at *
    go_simp
   ·rw [ek] at e2
    refine qz7 (v := .func (.func 95) #[] #[]) (w' := W) ?_ (hK _ _ ⟨b, by rw [ek]; rfl, WA⟩ (Below.refl _ _) (fun h => by cases h))
    clear ek
    have hix := qzbw b
    generalize a.eval = ev at *
    go_simp
   ·rw [ek] at e2
    refine qz7 (v := .func (.func 96) #[] #[]) (w' := W) ?_ (hK _ _ ⟨b, by rw [ek]; rfl, WA⟩ (Below.refl _ _) (fun h => by cases h))
    clear ek
    have hix := qzbz b
    generalize a.eval = ev at *
    go_simp
  | 4, ho =>
   obtain rfl := Option.some.inj ho
   have e1 : a.eval (.tmp 2) = .pointer (some ⟨w.heap.size, 0, none⟩) := hnn 2 rfl
   refine qz7 (v := .agg #[.int .i64 A.camera, .slice a0 A.slots.length c0, .slice a1 A.guides.length c1, .slice a2 A.nodes.length c2, .slice (some ⟨bb, off, none⟩) A.vers.length c3]) (w' := W) ?_ (hK _ _ rfl (Below.refl _ _) (fun h => by cases h))
   generalize a.eval = ev at *
   go_simp
  | 5, ho =>
   obtain rfl := Option.some.inj ho
   exact qz1z 36 (.tmp 3) rfl (w.heap.size + 1) 0 (hnn 3 rfl) (hdC h) _ HW Tryz.underlying36 rfl (qz1 h) (hK _ _ rfl (Below.refl _ _) (fun h => by cases h))
  | 6, ho =>
   obtain rfl := Option.some.inj ho
   have e1 : a.eval (.tmp 2) = .pointer (some ⟨w.heap.size, 0, none⟩) := hnn 2 rfl
   refine qz7 (v := .pointer (some ⟨w.heap.size, 4, none⟩)) (w' := W) ?_ (hK _ _ rfl (Below.refl _ _) (fun h => by cases h))
   generalize a.eval = ev at *
   go_simp
  | 7, ho =>
   obtain rfl := Option.some.inj ho
   have e1 : a.eval (.tmp 11) = .pointer (some ⟨w.heap.size, 4, none⟩) := hd ⟨6, .data⟩ (by simp) rfl 11 rfl
   refine qz7 (v := .slice (some ⟨bb, off, none⟩) A.vers.length c3) (w' := W) ?_ (hK _ _ rfl (Below.refl _ _) (fun h => by cases h))
   generalize a.eval = ev at *
   go_simp
  | 8, ho =>
   obtain rfl := Option.some.inj ho
   have e1 : a.eval (.tmp 3) = .pointer (some ⟨w.heap.size + 1, 0, none⟩) := hnn 3 rfl
   refine qz7 (v := .pointer (some ⟨w.heap.size + 1, 11, none⟩)) (w' := W) ?_ (hK _ _ rfl (Below.refl _ _) (fun h => by cases h))
   generalize a.eval = ev at *
   go_simp
  | 9, ho =>
   obtain rfl := Option.some.inj ho
   have e1 : a.eval (.tmp 13) = .pointer (some ⟨w.heap.size + 1, 11, none⟩) := hd ⟨8, .data⟩ (by simp) rfl 13 rfl
   refine qz7 (v := .int .i64 (v : Int)) (w' := W) ?_ (hK _ _ rfl (Below.refl _ _) (fun h => by cases h))
   generalize a.eval = ev at *
   go_simp
  | 10, ho =>
   obtain rfl := Option.some.inj ho
   have e1 : a.eval (.tmp 12) = .slice (some ⟨bb, off, none⟩) A.vers.length c3 := hd ⟨7, .data⟩ (by simp) rfl 12 rfl
   have e2 : a.eval (.tmp 14) = .int .i64 (v : Int) := hd ⟨9, .data⟩ (by simp) rfl 14 rfl
   refine qz7 (v := .pointer (some ⟨bb, off + v * 5, none⟩)) (w' := W) ?_ (hK _ _ rfl (Below.refl _ _) (fun h => by cases h))
   generalize a.eval = ev at *
   go_simp
  | 11, ho =>
   obtain rfl := Option.some.inj ho
   have e1 : a.eval (.tmp 15) = .pointer (some ⟨bb, off + v * 5, none⟩) := hd ⟨10, .data⟩ (by simp) rfl 15 rfl
   refine qz7 (v := .agg #[.int .i64 A.vers[v].next, .bool A.vers[v].gone, .int .i64 A.vers[v].stamp, .int .i64 A.vers[v].prev, .int .i64 A.vers[v].kind]) (w' := W) ?_ (hK _ _ rfl (Below.refl _ _) (fun h => by cases h))
   generalize a.eval = ev at *
   go_simp
  | n + 12, ho => omega
 case final =>
  intro vs W hb hG _
  obtain ⟨b, g3, WA⟩ := (show ∃ b, vs 3 = wayV b h.then_ /\ qz6i w0.heap.size W b from hG 3 (by decide))
  have g4 : vs 4 = .agg #[.int .i64 A.camera, .slice a0 A.slots.length c0, .slice a1 A.guides.length c1, .slice a2 A.nodes.length c2, .slice (some ⟨bb, off, none⟩) A.vers.length c3] := hG 4 (by decide)
  have g5 : vs 5 = .agg (hdC h).toArray := hG 5 (by decide)
  have g11 : vs 11 = .agg #[.int .i64 A.vers[v].next, .bool A.vers[v].gone, .int .i64 A.vers[v].stamp, .int .i64 A.vers[v].prev, .int .i64 A.vers[v].kind] := hG 11 (by decide)
  have F1 := qz3 F0 hb (by omega)
  have K1 := K0.trans (hb.mono (by omega))
  have I1 := I0.below (hb.mono (Nat.le_trans hB K0.size))
  have hz1 := Nat.lt_of_lt_of_le hz0 hb.size
  generalize hl : laid _ vs _ _ _ = A'
  have hA'' : A' = { tmps := #[.agg #[.int .i64 A.camera, .slice a0 A.slots.length c0, .slice a1 A.guides.length c1, .slice a2 A.nodes.length c2, .slice (some ⟨bb, off, none⟩) A.vers.length c3], .agg (hdC h).toArray, .pointer (some ⟨w.heap.size, 0, none⟩), .pointer (some ⟨w.heap.size + 1, 0, none⟩), .pointer (some ⟨w.heap.size + 1 + 1, 0, none⟩), vs 0, vs 1, vs 2, vs 3, vs 4, vs 5, vs 6, vs 7, vs 8, vs 9, vs 10, vs 11, undef], defers := [] } := by
   rw [<- hl]
   kernel_rfl
  subst hA''
  rw [g4, g5, g11]
  clear hl hG g4 g5 g11 hb X0 H0 G0 F0 K0 I0 hz0
  simp only [List.drop_succ_cons, List.drop_zero]
  have wlo := WA.lo
  have whi := WA.hi
  rcases ht with ek | ek | ek | ek | ek | ek | ek | ek
  ·have hvv : Hid (onH A h = qzw h 0) := by show _ = _; simp [onH, ek, qzw]
   have g3' : vs 3 = .func (.func 108) #[] #[.pointer (some ⟨b, 0, none⟩)] := by rw [g3, ek]; rfl
   rw [g3']
   clear g3 g3' ek hv
   go_wp2_with fail
   refine (qz46 B A h A.vers[v] b 0 _ _ _ _ _ _ _ _ _ (by omega) hA' I1 (by omega) WA.c0).mono ?_
   rintro e w2 ⟨rfl, b2⟩
   have F2 := qz3 F1 b2 (by omega)
   have K2 := K1.trans (b2.mono (by omega))
   go_wp2_with (refine wpList_store_mid rfl 36 (.tmp 4) _ rfl (w.heap.size + 1 + 1) 0 (hdC (qzw h 0)).toArray ?hxn91 ?hyn91 ?htn91 (qz8 _) (qzc _) ?_)
   try (case hxn91 => rfl)
   try (case hyn91 => rfl)
   case htn91 => exact F2
   refine bodyPost_ret (v := .agg (hdC (qzw h 0)).toArray) ?_ rfl ⟨by rw [hvv.out], ?_⟩
   ·exact qz4 Tryz.results28 _ _ (w.heap.size + 1 + 1) 0 rfl (hdC (qzw h 0)) _ (World.rangeAt_setCells_same _ _ _ _ F2) Tryz.underlying36 rfl (qz1 _)
   ·exact Below.setCells (by omega) _ _ _ K2
  ·have hvv : Hid (onH A h = qz5f A h A.vers[v]) := by show _ = _; simp [onH, ek, hvr, qz5f]
   have g3' : vs 3 = .func (.func 92) #[] #[] := by rw [g3, ek]; rfl
   rw [g3']
   clear g3 g3' ek hv
   go_wp2_with fail
   refine (qz8o B A h A.vers[v] _ _ _ _ _ _ _ _ _ (by omega) hA' I1 hn0).mono ?_
   rintro e w2 ⟨rfl, b2⟩
   have F2 := qz3 F1 b2 (by omega)
   have K2 := K1.trans (b2.mono (by omega))
   go_wp2_with (refine wpList_store_mid rfl 36 (.tmp 4) _ rfl (w.heap.size + 1 + 1) 0 (hdC (qz5f A h A.vers[v])).toArray ?hxn92 ?hyn92 ?htn92 (qz8 _) (qzc _) ?_)
   try (case hxn92 => rfl)
   try (case hyn92 => rfl)
   case htn92 => exact F2
   refine bodyPost_ret (v := .agg (hdC (qz5f A h A.vers[v])).toArray) ?_ rfl ⟨by rw [hvv.out], ?_⟩
   ·exact qz4 Tryz.results28 _ _ (w.heap.size + 1 + 1) 0 rfl (hdC (qz5f A h A.vers[v])) _ (World.rangeAt_setCells_same _ _ _ _ F2) Tryz.underlying36 rfl (qz1 _)
   ·exact Below.setCells (by omega) _ _ _ K2
  ·have hvv : Hid (onH A h = goH A h A.vers[v]) := by show _ = _; simp [onH, ek, hvr, goH]
   have g3' : vs 3 = .func (.func 93) #[] #[] := by rw [g3, ek]; rfl
   rw [g3']
   clear g3 g3' ek hv
   go_wp2_with fail
   refine (qz7l B A h A.vers[v] _ _ _ _ _ _ _ _ _ (by omega) hA' I1 hc0 hcu hn0).mono ?_
   rintro e w2 ⟨rfl, b2⟩
   have F2 := qz3 F1 b2 (by omega)
   have K2 := K1.trans (b2.mono (by omega))
   go_wp2_with (refine wpList_store_mid rfl 36 (.tmp 4) _ rfl (w.heap.size + 1 + 1) 0 (hdC (goH A h A.vers[v])).toArray ?hxn93 ?hyn93 ?htn93 (qz8 _) (qzc _) ?_)
   try (case hxn93 => rfl)
   try (case hyn93 => rfl)
   case htn93 => exact F2
   refine bodyPost_ret (v := .agg (hdC (goH A h A.vers[v])).toArray) ?_ rfl ⟨by rw [hvv.out], ?_⟩
   ·exact qz4 Tryz.results28 _ _ (w.heap.size + 1 + 1) 0 rfl (hdC (goH A h A.vers[v])) _ (World.rangeAt_setCells_same _ _ _ _ F2) Tryz.underlying36 rfl (qz1 _)
   ·exact Below.setCells (by omega) _ _ _ K2
  ·have hvv : Hid (onH A h = qz2f A { h with predVer := h.ver } A.vers[v].next) := by show _ = _; simp [onH, ek, hvr]
   have g3' : vs 3 = .func (.func 94) #[] #[] := by rw [g3, ek]; rfl
   rw [g3']
   clear g3 g3' ek hv
   go_wp2_with fail
   refine (qz7s B A h A.vers[v] _ _ _ _ _ _ _ _ _ (by omega) hA' I1 hn0).mono ?_
   rintro e w2 ⟨rfl, b2⟩
   have F2 := qz3 F1 b2 (by omega)
   have K2 := K1.trans (b2.mono (by omega))
   go_wp2_with (refine wpList_store_mid rfl 36 (.tmp 4) _ rfl (w.heap.size + 1 + 1) 0 (hdC (qz2f A { h with predVer := h.ver } A.vers[v].next)).toArray ?hxn94 ?hyn94 ?htn94 (qz8 _) (qzc _) ?_)
   try (case hxn94 => rfl)
   try (case hyn94 => rfl)
   case htn94 => exact F2
   refine bodyPost_ret (v := .agg (hdC (qz2f A { h with predVer := h.ver } A.vers[v].next)).toArray) ?_ rfl ⟨by rw [hvv.out], ?_⟩
   ·exact qz4 Tryz.results28 _ _ (w.heap.size + 1 + 1) 0 rfl (hdC (qz2f A { h with predVer := h.ver } A.vers[v].next)) _ (World.rangeAt_setCells_same _ _ _ _ F2) Tryz.underlying36 rfl (qz1 _)
   ·exact Below.setCells (by omega) _ _ _ K2
  ·have hvv : Hid (onH A h = qzw h 10) := by show _ = _; simp [onH, ek, qzw]
   have g3' : vs 3 = .func (.func 108) #[] #[.pointer (some ⟨b + 1, 0, none⟩)] := by rw [g3, ek]; rfl
   rw [g3']
   clear g3 g3' ek hv
   go_wp2_with fail
   refine (qz46 B A h A.vers[v] (b + 1) 10 _ _ _ _ _ _ _ _ _ (by omega) hA' I1 (by omega) WA.c1).mono ?_
   rintro e w2 ⟨rfl, b2⟩
   have F2 := qz3 F1 b2 (by omega)
   have K2 := K1.trans (b2.mono (by omega))
   go_wp2_with (refine wpList_store_mid rfl 36 (.tmp 4) _ rfl (w.heap.size + 1 + 1) 0 (hdC (qzw h 10)).toArray ?hxn95 ?hyn95 ?htn95 (qz8 _) (qzc _) ?_)
   try (case hxn95 => rfl)
   try (case hyn95 => rfl)
   case htn95 => exact F2
   refine bodyPost_ret (v := .agg (hdC (qzw h 10)).toArray) ?_ rfl ⟨by rw [hvv.out], ?_⟩
   ·exact qz4 Tryz.results28 _ _ (w.heap.size + 1 + 1) 0 rfl (hdC (qzw h 10)) _ (World.rangeAt_setCells_same _ _ _ _ F2) Tryz.underlying36 rfl (qz1 _)
   ·exact Below.setCells (by omega) _ _ _ K2
  ·have hvv : Hid (onH A h = qzw h 12) := by show _ = _; simp [onH, ek, qzw]
   have g3' : vs 3 = .func (.func 108) #[] #[.pointer (some ⟨b + 2, 0, none⟩)] := by rw [g3, ek]; rfl
   rw [g3']
   clear g3 g3' ek hv
   go_wp2_with fail
   refine (qz46 B A h A.vers[v] (b + 2) 12 _ _ _ _ _ _ _ _ _ (by omega) hA' I1 (by omega) WA.c2).mono ?_
   rintro e w2 ⟨rfl, b2⟩
   have F2 := qz3 F1 b2 (by omega)
   have K2 := K1.trans (b2.mono (by omega))
   go_wp2_with (refine wpList_store_mid rfl 36 (.tmp 4) _ rfl (w.heap.size + 1 + 1) 0 (hdC (qzw h 12)).toArray ?hxn96 ?hyn96 ?htn96 (qz8 _) (qzc _) ?_)
   try (case hxn96 => rfl)
   try (case hyn96 => rfl)
   case htn96 => exact F2
   refine bodyPost_ret (v := .agg (hdC (qzw h 12)).toArray) ?_ rfl ⟨by rw [hvv.out], ?_⟩
   ·exact qz4 Tryz.results28 _ _ (w.heap.size + 1 + 1) 0 rfl (hdC (qzw h 12)) _ (World.rangeAt_setCells_same _ _ _ _ F2) Tryz.underlying36 rfl (qz1 _)
   ·exact Below.setCells (by omega) _ _ _ K2
  ·have hvv : Hid (onH A h = qz3k A h A.vers[v]) := by show _ = _; simp [onH, ek, hvr, qz3k]
   have g3' : vs 3 = .func (.func 95) #[] #[] := by rw [g3, ek]; rfl
   rw [g3']
   clear g3 g3' ek hv
   go_wp2_with fail
   refine (qz6a B A h A.vers[v] _ _ _ _ _ _ _ _ _ (by omega) hA' I1 hvr hx0 hx1 (by omega) (by omega) ho0 ho1 hs0 hs1 hval).mono ?_
   rintro e w2 ⟨rfl, b2⟩
   have F2 := qz3 F1 b2 (by omega)
   have K2 := K1.trans (b2.mono (by omega))
   go_wp2_with (refine wpList_store_mid rfl 36 (.tmp 4) _ rfl (w.heap.size + 1 + 1) 0 (hdC (qz3k A h A.vers[v])).toArray ?hxn97 ?hyn97 ?htn97 (qz8 _) (qzc _) ?_)
   try (case hxn97 => rfl)
   try (case hyn97 => rfl)
   case htn97 => exact F2
   refine bodyPost_ret (v := .agg (hdC (qz3k A h A.vers[v])).toArray) ?_ rfl ⟨by rw [hvv.out], ?_⟩
   ·exact qz4 Tryz.results28 _ _ (w.heap.size + 1 + 1) 0 rfl (hdC (qz3k A h A.vers[v])) _ (World.rangeAt_setCells_same _ _ _ _ F2) Tryz.underlying36 rfl (qz1 _)
   ·exact Below.setCells (by omega) _ _ _ K2
  ·have hvv : Hid (onH A h = qza1 h A.vers[v]) := by show _ = _; simp [onH, ek, hvr, qza1]
   have g3' : vs 3 = .func (.func 96) #[] #[] := by rw [g3, ek]; rfl
   rw [g3']
   clear g3 g3' ek hv
   go_wp2_with fail
   refine (qz90 B A h A.vers[v] _ _ _ _ _ _ _ _ _ (by omega) hA' I1).mono ?_
   rintro e w2 ⟨rfl, b2⟩
   have F2 := qz3 F1 b2 (by omega)
   have K2 := K1.trans (b2.mono (by omega))
   go_wp2_with (refine wpList_store_mid rfl 36 (.tmp 4) _ rfl (w.heap.size + 1 + 1) 0 (hdC (qza1 h A.vers[v])).toArray ?hxn98 ?hyn98 ?htn98 (qz8 _) (qzc _) ?_)
   try (case hxn98 => rfl)
   try (case hyn98 => rfl)
   case htn98 => exact F2
   refine bodyPost_ret (v := .agg (hdC (qza1 h A.vers[v])).toArray) ?_ rfl ⟨by rw [hvv.out], ?_⟩
   ·exact qz4 Tryz.results28 _ _ (w.heap.size + 1 + 1) 0 rfl (hdC (qza1 h A.vers[v])) _ (World.rangeAt_setCells_same _ _ _ _ F2) Tryz.underlying36 rfl (qz1 _)
   ·exact Below.setCells (by omega) _ _ _ K2
end
section
attribute [local go_sem ↓] Go.wp_at_zero Go.wp_at_succ
def qz3i (A : Ar) (n : Int) : Bool := inB n 0 ((A.nodes.length : Int) - 1)
def qz5n (A : Ar) (n : Int) : Bool := inB n 0 ((A.vers.length : Int) - 1)
def qz1b (A : Ar) (h : Hd) : Bool := qz3i A h.x_ && qz3i A h.pred && ((h.curr == -1) || qz3i A h.curr) && ((h.new_ == -1) || qz3i A h.new_) && qz5n A h.ver && qz5n A h.predVer && qz5n A h.currVer
theorem qz8m (A : Ar) (h : Hd) (a0 a1 a2 a3 : Option Addr) (c0 c1 c2 c3 : Nat) (w : World) (hA : A.size <= 1048576) :
  Calls Tryz.prog 72 #[.agg #[.int .i64 A.camera, .slice a0 A.slots.length c0, .slice a1 A.guides.length c1, .slice a2 A.nodes.length c2, .slice a3 A.vers.length c3], .agg (hdC h).toArray] w fun e w' => e = .returned (.bool (qz1b A h)) /\ Below w.heap.size w w' := by
 unfold Ar.size at hA
 have X0 := World.rangeAt_alloc (qz5 w [.int .i64 A.camera, .slice a0 A.slots.length c0, .slice a1 A.guides.length c1, .slice a2 A.nodes.length c2, .slice a3 A.vers.length c3] 35) (.cells (hdC h).toArray 36)
 have H0 := qz5 (w.alloc (.cells #[.int .i64 A.camera, .slice a0 A.slots.length c0, .slice a1 A.guides.length c1, .slice a2 A.nodes.length c2, .slice a3 A.vers.length c3] 35)) (hdC h) 36
 have K0 := ((Below.refl w.heap.size w).alloc (Nat.le_refl _) (.cells #[.int .i64 A.camera, .slice a0 A.slots.length c0, .slice a1 A.guides.length c1, .slice a2 A.nodes.length c2, .slice a3 A.vers.length c3] 35)).alloc (by simp) (.cells (hdC h).toArray 36)
 have hz0 : w.heap.size + 1 < ((w.alloc (.cells #[.int .i64 A.camera, .slice a0 A.slots.length c0, .slice a1 A.guides.length c1, .slice a2 A.nodes.length c2, .slice a3 A.vers.length c3] 35)).alloc (.cells (hdC h).toArray 36)).heap.size := by simp
 simp only [World.size_alloc] at H0
 go_enter Tryz.func72, Tryz.ntmps72
 have tok : True := trivial
 go_wp2_with (clear tok; refine qz24 ((w.alloc (.cells #[.int .i64 A.camera, .slice a0 A.slots.length c0, .slice a1 A.guides.length c1, .slice a2 A.nodes.length c2, .slice a3 A.vers.length c3] 35)).alloc (.cells (hdC h).toArray 36)) ?_)
 generalize hw0 : (w.alloc (.cells #[.int .i64 A.camera, .slice a0 A.slots.length c0, .slice a1 A.guides.length c1, .slice a2 A.nodes.length c2, .slice a3 A.vers.length c3] 35)).alloc (.cells (hdC h).toArray 36) = w0 at *
 show wpList _ _ _ _ _ w0
 clear hw0
 obtain ⟨x0, x1, x2, x3, x4⟩ := row5 X0
 have q10 : w0.cell? ⟨w.heap.size + 1, 10, none⟩ = some (.int .i64 h.x_) := by simpa using H0 10 (.int .i64 h.x_) rfl
 have q14 : w0.cell? ⟨w.heap.size + 1, 14, none⟩ = some (.int .i64 h.pred) := by simpa using H0 14 (.int .i64 h.pred) rfl
 have q16 : w0.cell? ⟨w.heap.size + 1, 16, none⟩ = some (.int .i64 h.curr) := by simpa using H0 16 (.int .i64 h.curr) rfl
 have q18 : w0.cell? ⟨w.heap.size + 1, 18, none⟩ = some (.int .i64 h.new_) := by simpa using H0 18 (.int .i64 h.new_) rfl
 have q11 : w0.cell? ⟨w.heap.size + 1, 11, none⟩ = some (.int .i64 h.ver) := by simpa using H0 11 (.int .i64 h.ver) rfl
 have q15 : w0.cell? ⟨w.heap.size + 1, 15, none⟩ = some (.int .i64 h.predVer) := by simpa using H0 15 (.int .i64 h.predVer) rfl
 have q17 : w0.cell? ⟨w.heap.size + 1, 17, none⟩ = some (.int .i64 h.currVer) := by simpa using H0 17 (.int .i64 h.currVer) rfl
 go_wp2_with fail
 clear x0 x1 x2 x3 x4 q10 q14 q16 q18 q11 q15 q17
 refine (qz2v _ _ _ _ _ _ _ _ _ (by omega)).mono ?_
 rintro e w1 ⟨rfl, b1⟩
 have X1 := qz0 X0 b1 (by omega)
 have H1 := qz0 H0 b1 (by omega)
 have K1 := K0.trans (b1.mono (by omega))
 have hz1 := Nat.lt_of_lt_of_le hz0 b1.size
 clear X0 H0 K0 b1
 obtain ⟨x0, x1, x2, x3, x4⟩ := row5 X1
 have q10 : w1.cell? ⟨w.heap.size + 1, 10, none⟩ = some (.int .i64 h.x_) := by simpa using H1 10 (.int .i64 h.x_) rfl
 have q14 : w1.cell? ⟨w.heap.size + 1, 14, none⟩ = some (.int .i64 h.pred) := by simpa using H1 14 (.int .i64 h.pred) rfl
 have q16 : w1.cell? ⟨w.heap.size + 1, 16, none⟩ = some (.int .i64 h.curr) := by simpa using H1 16 (.int .i64 h.curr) rfl
 have q18 : w1.cell? ⟨w.heap.size + 1, 18, none⟩ = some (.int .i64 h.new_) := by simpa using H1 18 (.int .i64 h.new_) rfl
 have q11 : w1.cell? ⟨w.heap.size + 1, 11, none⟩ = some (.int .i64 h.ver) := by simpa using H1 11 (.int .i64 h.ver) rfl
 have q15 : w1.cell? ⟨w.heap.size + 1, 15, none⟩ = some (.int .i64 h.predVer) := by simpa using H1 15 (.int .i64 h.predVer) rfl
 have q17 : w1.cell? ⟨w.heap.size + 1, 17, none⟩ = some (.int .i64 h.currVer) := by simpa using H1 17 (.int .i64 h.currVer) rfl
 cases ex_ : inB h.x_ 0 ((A.nodes.length : Int) - 1)
 ·have kx_ : qz3i A h.x_ = false := ex_
  have hv : qz1b A h = false := by simp [qz1b, kx_]
  go_wp2
  go_ret
  exact ⟨by first | rfl | (rw [hv]; rfl), K1⟩
 have kx_ : qz3i A h.x_ = true := ex_
 go_wp2_with fail
 clear x0 x1 x2 x3 x4 q10 q14 q16 q18 q11 q15 q17
 refine (qz2v _ _ _ _ _ _ _ _ _ (by omega)).mono ?_
 rintro e w2 ⟨rfl, b2⟩
 have X2 := qz0 X1 b2 (by omega)
 have H2 := qz0 H1 b2 (by omega)
 have K2 := K1.trans (b2.mono (by omega))
 have hz2 := Nat.lt_of_lt_of_le hz1 b2.size
 clear X1 H1 K1 b2
 obtain ⟨x0, x1, x2, x3, x4⟩ := row5 X2
 have q10 : w2.cell? ⟨w.heap.size + 1, 10, none⟩ = some (.int .i64 h.x_) := by simpa using H2 10 (.int .i64 h.x_) rfl
 have q14 : w2.cell? ⟨w.heap.size + 1, 14, none⟩ = some (.int .i64 h.pred) := by simpa using H2 14 (.int .i64 h.pred) rfl
 have q16 : w2.cell? ⟨w.heap.size + 1, 16, none⟩ = some (.int .i64 h.curr) := by simpa using H2 16 (.int .i64 h.curr) rfl
 have q18 : w2.cell? ⟨w.heap.size + 1, 18, none⟩ = some (.int .i64 h.new_) := by simpa using H2 18 (.int .i64 h.new_) rfl
 have q11 : w2.cell? ⟨w.heap.size + 1, 11, none⟩ = some (.int .i64 h.ver) := by simpa using H2 11 (.int .i64 h.ver) rfl
 have q15 : w2.cell? ⟨w.heap.size + 1, 15, none⟩ = some (.int .i64 h.predVer) := by simpa using H2 15 (.int .i64 h.predVer) rfl
 have q17 : w2.cell? ⟨w.heap.size + 1, 17, none⟩ = some (.int .i64 h.currVer) := by simpa using H2 17 (.int .i64 h.currVer) rfl
 cases epred : inB h.pred 0 ((A.nodes.length : Int) - 1)
 ·have kpred : qz3i A h.pred = false := epred
  have hv : qz1b A h = false := by simp [qz1b, kpred]
  go_wp2
  go_ret
  exact ⟨by first | rfl | (rw [hv]; rfl), K2⟩
 have kpred : qz3i A h.pred = true := epred
 by_cases mcurr : h.curr = -1
 case pos =>
  have bcurr : (h.curr == -1) = true := by simp [mcurr]
  have dcurr : (h.curr != -1) = false := by simp [mcurr]
  by_cases mnew_ : h.new_ = -1
  case pos =>
   have bnew_ : (h.new_ == -1) = true := by simp [mnew_]
   have dnew_ : (h.new_ != -1) = false := by simp [mnew_]
   go_wp2_with fail
   clear x0 x1 x2 x3 x4 q10 q14 q16 q18 q11 q15 q17
   refine (qz1d _ _ _ _ _ _ _ _ _ (by omega)).mono ?_
   rintro e w3 ⟨rfl, b3⟩
   have X3 := qz0 X2 b3 (by omega)
   have H3 := qz0 H2 b3 (by omega)
   have K3 := K2.trans (b3.mono (by omega))
   have hz3 := Nat.lt_of_lt_of_le hz2 b3.size
   clear X2 H2 K2 b3
   obtain ⟨x0, x1, x2, x3, x4⟩ := row5 X3
   have q10 : w3.cell? ⟨w.heap.size + 1, 10, none⟩ = some (.int .i64 h.x_) := by simpa using H3 10 (.int .i64 h.x_) rfl
   have q14 : w3.cell? ⟨w.heap.size + 1, 14, none⟩ = some (.int .i64 h.pred) := by simpa using H3 14 (.int .i64 h.pred) rfl
   have q16 : w3.cell? ⟨w.heap.size + 1, 16, none⟩ = some (.int .i64 h.curr) := by simpa using H3 16 (.int .i64 h.curr) rfl
   have q18 : w3.cell? ⟨w.heap.size + 1, 18, none⟩ = some (.int .i64 h.new_) := by simpa using H3 18 (.int .i64 h.new_) rfl
   have q11 : w3.cell? ⟨w.heap.size + 1, 11, none⟩ = some (.int .i64 h.ver) := by simpa using H3 11 (.int .i64 h.ver) rfl
   have q15 : w3.cell? ⟨w.heap.size + 1, 15, none⟩ = some (.int .i64 h.predVer) := by simpa using H3 15 (.int .i64 h.predVer) rfl
   have q17 : w3.cell? ⟨w.heap.size + 1, 17, none⟩ = some (.int .i64 h.currVer) := by simpa using H3 17 (.int .i64 h.currVer) rfl
   cases ever : inB h.ver 0 ((A.vers.length : Int) - 1)
   ·have kver : qz5n A h.ver = false := ever
    have hv : qz1b A h = false := by simp [qz1b, kver]
    go_wp2
    go_ret
    exact ⟨by first | rfl | (rw [hv]; rfl), K3⟩
   have kver : qz5n A h.ver = true := ever
   go_wp2_with fail
   clear x0 x1 x2 x3 x4 q10 q14 q16 q18 q11 q15 q17
   refine (qz1d _ _ _ _ _ _ _ _ _ (by omega)).mono ?_
   rintro e w4 ⟨rfl, b4⟩
   have X4 := qz0 X3 b4 (by omega)
   have H4 := qz0 H3 b4 (by omega)
   have K4 := K3.trans (b4.mono (by omega))
   have hz4 := Nat.lt_of_lt_of_le hz3 b4.size
   clear X3 H3 K3 b4
   obtain ⟨x0, x1, x2, x3, x4⟩ := row5 X4
   have q10 : w4.cell? ⟨w.heap.size + 1, 10, none⟩ = some (.int .i64 h.x_) := by simpa using H4 10 (.int .i64 h.x_) rfl
   have q14 : w4.cell? ⟨w.heap.size + 1, 14, none⟩ = some (.int .i64 h.pred) := by simpa using H4 14 (.int .i64 h.pred) rfl
   have q16 : w4.cell? ⟨w.heap.size + 1, 16, none⟩ = some (.int .i64 h.curr) := by simpa using H4 16 (.int .i64 h.curr) rfl
   have q18 : w4.cell? ⟨w.heap.size + 1, 18, none⟩ = some (.int .i64 h.new_) := by simpa using H4 18 (.int .i64 h.new_) rfl
   have q11 : w4.cell? ⟨w.heap.size + 1, 11, none⟩ = some (.int .i64 h.ver) := by simpa using H4 11 (.int .i64 h.ver) rfl
   have q15 : w4.cell? ⟨w.heap.size + 1, 15, none⟩ = some (.int .i64 h.predVer) := by simpa using H4 15 (.int .i64 h.predVer) rfl
   have q17 : w4.cell? ⟨w.heap.size + 1, 17, none⟩ = some (.int .i64 h.currVer) := by simpa using H4 17 (.int .i64 h.currVer) rfl
   cases epredVer : inB h.predVer 0 ((A.vers.length : Int) - 1)
   ·have kpredVer : qz5n A h.predVer = false := epredVer
    have hv : qz1b A h = false := by simp [qz1b, kpredVer]
    go_wp2
    go_ret
    exact ⟨by first | rfl | (rw [hv]; rfl), K4⟩
   have kpredVer : qz5n A h.predVer = true := epredVer
   go_wp2_with fail
   clear x0 x1 x2 x3 x4 q10 q14 q16 q18 q11 q15 q17
   refine (qz1d _ _ _ _ _ _ _ _ _ (by omega)).mono ?_
   rintro e w5 ⟨rfl, b5⟩
   have X5 := qz0 X4 b5 (by omega)
   have H5 := qz0 H4 b5 (by omega)
   have K5 := K4.trans (b5.mono (by omega))
   have hz5 := Nat.lt_of_lt_of_le hz4 b5.size
   clear X4 H4 K4 b5
   obtain ⟨x0, x1, x2, x3, x4⟩ := row5 X5
   have q10 : w5.cell? ⟨w.heap.size + 1, 10, none⟩ = some (.int .i64 h.x_) := by simpa using H5 10 (.int .i64 h.x_) rfl
   have q14 : w5.cell? ⟨w.heap.size + 1, 14, none⟩ = some (.int .i64 h.pred) := by simpa using H5 14 (.int .i64 h.pred) rfl
   have q16 : w5.cell? ⟨w.heap.size + 1, 16, none⟩ = some (.int .i64 h.curr) := by simpa using H5 16 (.int .i64 h.curr) rfl
   have q18 : w5.cell? ⟨w.heap.size + 1, 18, none⟩ = some (.int .i64 h.new_) := by simpa using H5 18 (.int .i64 h.new_) rfl
   have q11 : w5.cell? ⟨w.heap.size + 1, 11, none⟩ = some (.int .i64 h.ver) := by simpa using H5 11 (.int .i64 h.ver) rfl
   have q15 : w5.cell? ⟨w.heap.size + 1, 15, none⟩ = some (.int .i64 h.predVer) := by simpa using H5 15 (.int .i64 h.predVer) rfl
   have q17 : w5.cell? ⟨w.heap.size + 1, 17, none⟩ = some (.int .i64 h.currVer) := by simpa using H5 17 (.int .i64 h.currVer) rfl
   have hv : qz1b A h = inB h.currVer 0 ((A.vers.length : Int) - 1) := by unfold qz1b; rw [kx_, kpred, bcurr, bnew_, kver, kpredVer]; rfl
   go_wp2
   go_ret
   exact ⟨by first | rfl | (rw [hv]; rfl), K5⟩
  have bnew_ : (h.new_ == -1) = false := by simp [mnew_]
  have dnew_ : (h.new_ != -1) = true := by simp [mnew_]
  go_wp2_with fail
  clear x0 x1 x2 x3 x4 q10 q14 q16 q18 q11 q15 q17
  refine (qz2v _ _ _ _ _ _ _ _ _ (by omega)).mono ?_
  rintro e w3 ⟨rfl, b3⟩
  have X3 := qz0 X2 b3 (by omega)
  have H3 := qz0 H2 b3 (by omega)
  have K3 := K2.trans (b3.mono (by omega))
  have hz3 := Nat.lt_of_lt_of_le hz2 b3.size
  clear X2 H2 K2 b3
  obtain ⟨x0, x1, x2, x3, x4⟩ := row5 X3
  have q10 : w3.cell? ⟨w.heap.size + 1, 10, none⟩ = some (.int .i64 h.x_) := by simpa using H3 10 (.int .i64 h.x_) rfl
  have q14 : w3.cell? ⟨w.heap.size + 1, 14, none⟩ = some (.int .i64 h.pred) := by simpa using H3 14 (.int .i64 h.pred) rfl
  have q16 : w3.cell? ⟨w.heap.size + 1, 16, none⟩ = some (.int .i64 h.curr) := by simpa using H3 16 (.int .i64 h.curr) rfl
  have q18 : w3.cell? ⟨w.heap.size + 1, 18, none⟩ = some (.int .i64 h.new_) := by simpa using H3 18 (.int .i64 h.new_) rfl
  have q11 : w3.cell? ⟨w.heap.size + 1, 11, none⟩ = some (.int .i64 h.ver) := by simpa using H3 11 (.int .i64 h.ver) rfl
  have q15 : w3.cell? ⟨w.heap.size + 1, 15, none⟩ = some (.int .i64 h.predVer) := by simpa using H3 15 (.int .i64 h.predVer) rfl
  have q17 : w3.cell? ⟨w.heap.size + 1, 17, none⟩ = some (.int .i64 h.currVer) := by simpa using H3 17 (.int .i64 h.currVer) rfl
  cases enew_ : inB h.new_ 0 ((A.nodes.length : Int) - 1)
  ·have knew_ : qz3i A h.new_ = false := enew_
   have hv : qz1b A h = false := by simp [qz1b, knew_, mnew_]
   go_wp2
   go_ret
   exact ⟨by first | rfl | (rw [hv]; rfl), K3⟩
  have knew_ : qz3i A h.new_ = true := enew_
  go_wp2_with fail
  clear x0 x1 x2 x3 x4 q10 q14 q16 q18 q11 q15 q17
  refine (qz1d _ _ _ _ _ _ _ _ _ (by omega)).mono ?_
  rintro e w4 ⟨rfl, b4⟩
  have X4 := qz0 X3 b4 (by omega)
  have H4 := qz0 H3 b4 (by omega)
  have K4 := K3.trans (b4.mono (by omega))
  have hz4 := Nat.lt_of_lt_of_le hz3 b4.size
  clear X3 H3 K3 b4
  obtain ⟨x0, x1, x2, x3, x4⟩ := row5 X4
  have q10 : w4.cell? ⟨w.heap.size + 1, 10, none⟩ = some (.int .i64 h.x_) := by simpa using H4 10 (.int .i64 h.x_) rfl
  have q14 : w4.cell? ⟨w.heap.size + 1, 14, none⟩ = some (.int .i64 h.pred) := by simpa using H4 14 (.int .i64 h.pred) rfl
  have q16 : w4.cell? ⟨w.heap.size + 1, 16, none⟩ = some (.int .i64 h.curr) := by simpa using H4 16 (.int .i64 h.curr) rfl
  have q18 : w4.cell? ⟨w.heap.size + 1, 18, none⟩ = some (.int .i64 h.new_) := by simpa using H4 18 (.int .i64 h.new_) rfl
  have q11 : w4.cell? ⟨w.heap.size + 1, 11, none⟩ = some (.int .i64 h.ver) := by simpa using H4 11 (.int .i64 h.ver) rfl
  have q15 : w4.cell? ⟨w.heap.size + 1, 15, none⟩ = some (.int .i64 h.predVer) := by simpa using H4 15 (.int .i64 h.predVer) rfl
  have q17 : w4.cell? ⟨w.heap.size + 1, 17, none⟩ = some (.int .i64 h.currVer) := by simpa using H4 17 (.int .i64 h.currVer) rfl
  cases ever : inB h.ver 0 ((A.vers.length : Int) - 1)
  ·have kver : qz5n A h.ver = false := ever
   have hv : qz1b A h = false := by simp [qz1b, kver]
   go_wp2
   go_ret
   exact ⟨by first | rfl | (rw [hv]; rfl), K4⟩
  have kver : qz5n A h.ver = true := ever
  go_wp2_with fail
  clear x0 x1 x2 x3 x4 q10 q14 q16 q18 q11 q15 q17
  refine (qz1d _ _ _ _ _ _ _ _ _ (by omega)).mono ?_
  rintro e w5 ⟨rfl, b5⟩
  have X5 := qz0 X4 b5 (by omega)
  have H5 := qz0 H4 b5 (by omega)
  have K5 := K4.trans (b5.mono (by omega))
  have hz5 := Nat.lt_of_lt_of_le hz4 b5.size
  clear X4 H4 K4 b5
  obtain ⟨x0, x1, x2, x3, x4⟩ := row5 X5
  have q10 : w5.cell? ⟨w.heap.size + 1, 10, none⟩ = some (.int .i64 h.x_) := by simpa using H5 10 (.int .i64 h.x_) rfl
  have q14 : w5.cell? ⟨w.heap.size + 1, 14, none⟩ = some (.int .i64 h.pred) := by simpa using H5 14 (.int .i64 h.pred) rfl
  have q16 : w5.cell? ⟨w.heap.size + 1, 16, none⟩ = some (.int .i64 h.curr) := by simpa using H5 16 (.int .i64 h.curr) rfl
  have q18 : w5.cell? ⟨w.heap.size + 1, 18, none⟩ = some (.int .i64 h.new_) := by simpa using H5 18 (.int .i64 h.new_) rfl
  have q11 : w5.cell? ⟨w.heap.size + 1, 11, none⟩ = some (.int .i64 h.ver) := by simpa using H5 11 (.int .i64 h.ver) rfl
  have q15 : w5.cell? ⟨w.heap.size + 1, 15, none⟩ = some (.int .i64 h.predVer) := by simpa using H5 15 (.int .i64 h.predVer) rfl
  have q17 : w5.cell? ⟨w.heap.size + 1, 17, none⟩ = some (.int .i64 h.currVer) := by simpa using H5 17 (.int .i64 h.currVer) rfl
  cases epredVer : inB h.predVer 0 ((A.vers.length : Int) - 1)
  ·have kpredVer : qz5n A h.predVer = false := epredVer
   have hv : qz1b A h = false := by simp [qz1b, kpredVer]
   go_wp2
   go_ret
   exact ⟨by first | rfl | (rw [hv]; rfl), K5⟩
  have kpredVer : qz5n A h.predVer = true := epredVer
  go_wp2_with fail
  clear x0 x1 x2 x3 x4 q10 q14 q16 q18 q11 q15 q17
  refine (qz1d _ _ _ _ _ _ _ _ _ (by omega)).mono ?_
  rintro e w6 ⟨rfl, b6⟩
  have X6 := qz0 X5 b6 (by omega)
  have H6 := qz0 H5 b6 (by omega)
  have K6 := K5.trans (b6.mono (by omega))
  have hz6 := Nat.lt_of_lt_of_le hz5 b6.size
  clear X5 H5 K5 b6
  obtain ⟨x0, x1, x2, x3, x4⟩ := row5 X6
  have q10 : w6.cell? ⟨w.heap.size + 1, 10, none⟩ = some (.int .i64 h.x_) := by simpa using H6 10 (.int .i64 h.x_) rfl
  have q14 : w6.cell? ⟨w.heap.size + 1, 14, none⟩ = some (.int .i64 h.pred) := by simpa using H6 14 (.int .i64 h.pred) rfl
  have q16 : w6.cell? ⟨w.heap.size + 1, 16, none⟩ = some (.int .i64 h.curr) := by simpa using H6 16 (.int .i64 h.curr) rfl
  have q18 : w6.cell? ⟨w.heap.size + 1, 18, none⟩ = some (.int .i64 h.new_) := by simpa using H6 18 (.int .i64 h.new_) rfl
  have q11 : w6.cell? ⟨w.heap.size + 1, 11, none⟩ = some (.int .i64 h.ver) := by simpa using H6 11 (.int .i64 h.ver) rfl
  have q15 : w6.cell? ⟨w.heap.size + 1, 15, none⟩ = some (.int .i64 h.predVer) := by simpa using H6 15 (.int .i64 h.predVer) rfl
  have q17 : w6.cell? ⟨w.heap.size + 1, 17, none⟩ = some (.int .i64 h.currVer) := by simpa using H6 17 (.int .i64 h.currVer) rfl
  have hv : qz1b A h = inB h.currVer 0 ((A.vers.length : Int) - 1) := by unfold qz1b; rw [kx_, kpred, bcurr, bnew_, knew_, kver, kpredVer]; rfl
  go_wp2
  go_ret
  exact ⟨by first | rfl | (rw [hv]; rfl), K6⟩
 have bcurr : (h.curr == -1) = false := by simp [mcurr]
 have dcurr : (h.curr != -1) = true := by simp [mcurr]
 go_wp2_with fail
 clear x0 x1 x2 x3 x4 q10 q14 q16 q18 q11 q15 q17
 refine (qz2v _ _ _ _ _ _ _ _ _ (by omega)).mono ?_
 rintro e w3 ⟨rfl, b3⟩
 have X3 := qz0 X2 b3 (by omega)
 have H3 := qz0 H2 b3 (by omega)
 have K3 := K2.trans (b3.mono (by omega))
 have hz3 := Nat.lt_of_lt_of_le hz2 b3.size
 clear X2 H2 K2 b3
 obtain ⟨x0, x1, x2, x3, x4⟩ := row5 X3
 have q10 : w3.cell? ⟨w.heap.size + 1, 10, none⟩ = some (.int .i64 h.x_) := by simpa using H3 10 (.int .i64 h.x_) rfl
 have q14 : w3.cell? ⟨w.heap.size + 1, 14, none⟩ = some (.int .i64 h.pred) := by simpa using H3 14 (.int .i64 h.pred) rfl
 have q16 : w3.cell? ⟨w.heap.size + 1, 16, none⟩ = some (.int .i64 h.curr) := by simpa using H3 16 (.int .i64 h.curr) rfl
 have q18 : w3.cell? ⟨w.heap.size + 1, 18, none⟩ = some (.int .i64 h.new_) := by simpa using H3 18 (.int .i64 h.new_) rfl
 have q11 : w3.cell? ⟨w.heap.size + 1, 11, none⟩ = some (.int .i64 h.ver) := by simpa using H3 11 (.int .i64 h.ver) rfl
 have q15 : w3.cell? ⟨w.heap.size + 1, 15, none⟩ = some (.int .i64 h.predVer) := by simpa using H3 15 (.int .i64 h.predVer) rfl
 have q17 : w3.cell? ⟨w.heap.size + 1, 17, none⟩ = some (.int .i64 h.currVer) := by simpa using H3 17 (.int .i64 h.currVer) rfl
 cases ecurr : inB h.curr 0 ((A.nodes.length : Int) - 1)
 ·have kcurr : qz3i A h.curr = false := ecurr
  have hv : qz1b A h = false := by simp [qz1b, kcurr, mcurr]
  go_wp2
  go_ret
  exact ⟨by first | rfl | (rw [hv]; rfl), K3⟩
 have kcurr : qz3i A h.curr = true := ecurr
 by_cases mnew_ : h.new_ = -1
 case pos =>
  have bnew_ : (h.new_ == -1) = true := by simp [mnew_]
  have dnew_ : (h.new_ != -1) = false := by simp [mnew_]
  go_wp2_with fail
  clear x0 x1 x2 x3 x4 q10 q14 q16 q18 q11 q15 q17
  refine (qz1d _ _ _ _ _ _ _ _ _ (by omega)).mono ?_
  rintro e w4 ⟨rfl, b4⟩
  have X4 := qz0 X3 b4 (by omega)
  have H4 := qz0 H3 b4 (by omega)
  have K4 := K3.trans (b4.mono (by omega))
  have hz4 := Nat.lt_of_lt_of_le hz3 b4.size
  clear X3 H3 K3 b4
  obtain ⟨x0, x1, x2, x3, x4⟩ := row5 X4
  have q10 : w4.cell? ⟨w.heap.size + 1, 10, none⟩ = some (.int .i64 h.x_) := by simpa using H4 10 (.int .i64 h.x_) rfl
  have q14 : w4.cell? ⟨w.heap.size + 1, 14, none⟩ = some (.int .i64 h.pred) := by simpa using H4 14 (.int .i64 h.pred) rfl
  have q16 : w4.cell? ⟨w.heap.size + 1, 16, none⟩ = some (.int .i64 h.curr) := by simpa using H4 16 (.int .i64 h.curr) rfl
  have q18 : w4.cell? ⟨w.heap.size + 1, 18, none⟩ = some (.int .i64 h.new_) := by simpa using H4 18 (.int .i64 h.new_) rfl
  have q11 : w4.cell? ⟨w.heap.size + 1, 11, none⟩ = some (.int .i64 h.ver) := by simpa using H4 11 (.int .i64 h.ver) rfl
  have q15 : w4.cell? ⟨w.heap.size + 1, 15, none⟩ = some (.int .i64 h.predVer) := by simpa using H4 15 (.int .i64 h.predVer) rfl
  have q17 : w4.cell? ⟨w.heap.size + 1, 17, none⟩ = some (.int .i64 h.currVer) := by simpa using H4 17 (.int .i64 h.currVer) rfl
  cases ever : inB h.ver 0 ((A.vers.length : Int) - 1)
  ·have kver : qz5n A h.ver = false := ever
   have hv : qz1b A h = false := by simp [qz1b, kver]
   go_wp2
   go_ret
   exact ⟨by first | rfl | (rw [hv]; rfl), K4⟩
  have kver : qz5n A h.ver = true := ever
  go_wp2_with fail
  clear x0 x1 x2 x3 x4 q10 q14 q16 q18 q11 q15 q17
  refine (qz1d _ _ _ _ _ _ _ _ _ (by omega)).mono ?_
  rintro e w5 ⟨rfl, b5⟩
  have X5 := qz0 X4 b5 (by omega)
  have H5 := qz0 H4 b5 (by omega)
  have K5 := K4.trans (b5.mono (by omega))
  have hz5 := Nat.lt_of_lt_of_le hz4 b5.size
  clear X4 H4 K4 b5
  obtain ⟨x0, x1, x2, x3, x4⟩ := row5 X5
  have q10 : w5.cell? ⟨w.heap.size + 1, 10, none⟩ = some (.int .i64 h.x_) := by simpa using H5 10 (.int .i64 h.x_) rfl
  have q14 : w5.cell? ⟨w.heap.size + 1, 14, none⟩ = some (.int .i64 h.pred) := by simpa using H5 14 (.int .i64 h.pred) rfl
  have q16 : w5.cell? ⟨w.heap.size + 1, 16, none⟩ = some (.int .i64 h.curr) := by simpa using H5 16 (.int .i64 h.curr) rfl
  have q18 : w5.cell? ⟨w.heap.size + 1, 18, none⟩ = some (.int .i64 h.new_) := by simpa using H5 18 (.int .i64 h.new_) rfl
  have q11 : w5.cell? ⟨w.heap.size + 1, 11, none⟩ = some (.int .i64 h.ver) := by simpa using H5 11 (.int .i64 h.ver) rfl
  have q15 : w5.cell? ⟨w.heap.size + 1, 15, none⟩ = some (.int .i64 h.predVer) := by simpa using H5 15 (.int .i64 h.predVer) rfl
  have q17 : w5.cell? ⟨w.heap.size + 1, 17, none⟩ = some (.int .i64 h.currVer) := by simpa using H5 17 (.int .i64 h.currVer) rfl
  cases epredVer : inB h.predVer 0 ((A.vers.length : Int) - 1)
  ·have kpredVer : qz5n A h.predVer = false := epredVer
   have hv : qz1b A h = false := by simp [qz1b, kpredVer]
   go_wp2
   go_ret
   exact ⟨by first | rfl | (rw [hv]; rfl), K5⟩
  have kpredVer : qz5n A h.predVer = true := epredVer
  go_wp2_with fail
  clear x0 x1 x2 x3 x4 q10 q14 q16 q18 q11 q15 q17
  refine (qz1d _ _ _ _ _ _ _ _ _ (by omega)).mono ?_
  rintro e w6 ⟨rfl, b6⟩
  have X6 := qz0 X5 b6 (by omega)
  have H6 := qz0 H5 b6 (by omega)
  have K6 := K5.trans (b6.mono (by omega))
  have hz6 := Nat.lt_of_lt_of_le hz5 b6.size
  clear X5 H5 K5 b6
  obtain ⟨x0, x1, x2, x3, x4⟩ := row5 X6
  have q10 : w6.cell? ⟨w.heap.size + 1, 10, none⟩ = some (.int .i64 h.x_) := by simpa using H6 10 (.int .i64 h.x_) rfl
  have q14 : w6.cell? ⟨w.heap.size + 1, 14, none⟩ = some (.int .i64 h.pred) := by simpa using H6 14 (.int .i64 h.pred) rfl
  have q16 : w6.cell? ⟨w.heap.size + 1, 16, none⟩ = some (.int .i64 h.curr) := by simpa using H6 16 (.int .i64 h.curr) rfl
  have q18 : w6.cell? ⟨w.heap.size + 1, 18, none⟩ = some (.int .i64 h.new_) := by simpa using H6 18 (.int .i64 h.new_) rfl
  have q11 : w6.cell? ⟨w.heap.size + 1, 11, none⟩ = some (.int .i64 h.ver) := by simpa using H6 11 (.int .i64 h.ver) rfl
  have q15 : w6.cell? ⟨w.heap.size + 1, 15, none⟩ = some (.int .i64 h.predVer) := by simpa using H6 15 (.int .i64 h.predVer) rfl
  have q17 : w6.cell? ⟨w.heap.size + 1, 17, none⟩ = some (.int .i64 h.currVer) := by simpa using H6 17 (.int .i64 h.currVer) rfl
  have hv : qz1b A h = inB h.currVer 0 ((A.vers.length : Int) - 1) := by unfold qz1b; rw [kx_, kpred, bcurr, kcurr, bnew_, kver, kpredVer]; rfl
  go_wp2
  go_ret
  exact ⟨by first | rfl | (rw [hv]; rfl), K6⟩
 have bnew_ : (h.new_ == -1) = false := by simp [mnew_]
 have dnew_ : (h.new_ != -1) = true := by simp [mnew_]
 go_wp2_with fail
 clear x0 x1 x2 x3 x4 q10 q14 q16 q18 q11 q15 q17
 refine (qz2v _ _ _ _ _ _ _ _ _ (by omega)).mono ?_
 rintro e w4 ⟨rfl, b4⟩
 have X4 := qz0 X3 b4 (by omega)
 have H4 := qz0 H3 b4 (by omega)
 have K4 := K3.trans (b4.mono (by omega))
 have hz4 := Nat.lt_of_lt_of_le hz3 b4.size
 clear X3 H3 K3 b4
 obtain ⟨x0, x1, x2, x3, x4⟩ := row5 X4
 have q10 : w4.cell? ⟨w.heap.size + 1, 10, none⟩ = some (.int .i64 h.x_) := by simpa using H4 10 (.int .i64 h.x_) rfl
 have q14 : w4.cell? ⟨w.heap.size + 1, 14, none⟩ = some (.int .i64 h.pred) := by simpa using H4 14 (.int .i64 h.pred) rfl
 have q16 : w4.cell? ⟨w.heap.size + 1, 16, none⟩ = some (.int .i64 h.curr) := by simpa using H4 16 (.int .i64 h.curr) rfl
 have q18 : w4.cell? ⟨w.heap.size + 1, 18, none⟩ = some (.int .i64 h.new_) := by simpa using H4 18 (.int .i64 h.new_) rfl
 have q11 : w4.cell? ⟨w.heap.size + 1, 11, none⟩ = some (.int .i64 h.ver) := by simpa using H4 11 (.int .i64 h.ver) rfl
 have q15 : w4.cell? ⟨w.heap.size + 1, 15, none⟩ = some (.int .i64 h.predVer) := by simpa using H4 15 (.int .i64 h.predVer) rfl
 have q17 : w4.cell? ⟨w.heap.size + 1, 17, none⟩ = some (.int .i64 h.currVer) := by simpa using H4 17 (.int .i64 h.currVer) rfl
 cases enew_ : inB h.new_ 0 ((A.nodes.length : Int) - 1)
 ·have knew_ : qz3i A h.new_ = false := enew_
  have hv : qz1b A h = false := by simp [qz1b, knew_, mnew_]
  go_wp2
  go_ret
  exact ⟨by first | rfl | (rw [hv]; rfl), K4⟩
 have knew_ : qz3i A h.new_ = true := enew_
 go_wp2_with fail
 clear x0 x1 x2 x3 x4 q10 q14 q16 q18 q11 q15 q17
 refine (qz1d _ _ _ _ _ _ _ _ _ (by omega)).mono ?_
 rintro e w5 ⟨rfl, b5⟩
 have X5 := qz0 X4 b5 (by omega)
 have H5 := qz0 H4 b5 (by omega)
 have K5 := K4.trans (b5.mono (by omega))
 have hz5 := Nat.lt_of_lt_of_le hz4 b5.size
 clear X4 H4 K4 b5
 obtain ⟨x0, x1, x2, x3, x4⟩ := row5 X5
 have q10 : w5.cell? ⟨w.heap.size + 1, 10, none⟩ = some (.int .i64 h.x_) := by simpa using H5 10 (.int .i64 h.x_) rfl
 have q14 : w5.cell? ⟨w.heap.size + 1, 14, none⟩ = some (.int .i64 h.pred) := by simpa using H5 14 (.int .i64 h.pred) rfl
 have q16 : w5.cell? ⟨w.heap.size + 1, 16, none⟩ = some (.int .i64 h.curr) := by simpa using H5 16 (.int .i64 h.curr) rfl
 have q18 : w5.cell? ⟨w.heap.size + 1, 18, none⟩ = some (.int .i64 h.new_) := by simpa using H5 18 (.int .i64 h.new_) rfl
 have q11 : w5.cell? ⟨w.heap.size + 1, 11, none⟩ = some (.int .i64 h.ver) := by simpa using H5 11 (.int .i64 h.ver) rfl
 have q15 : w5.cell? ⟨w.heap.size + 1, 15, none⟩ = some (.int .i64 h.predVer) := by simpa using H5 15 (.int .i64 h.predVer) rfl
 have q17 : w5.cell? ⟨w.heap.size + 1, 17, none⟩ = some (.int .i64 h.currVer) := by simpa using H5 17 (.int .i64 h.currVer) rfl
 cases ever : inB h.ver 0 ((A.vers.length : Int) - 1)
 ·have kver : qz5n A h.ver = false := ever
  have hv : qz1b A h = false := by simp [qz1b, kver]
  go_wp2
  go_ret
  exact ⟨by first | rfl | (rw [hv]; rfl), K5⟩
 have kver : qz5n A h.ver = true := ever
 go_wp2_with fail
 clear x0 x1 x2 x3 x4 q10 q14 q16 q18 q11 q15 q17
 refine (qz1d _ _ _ _ _ _ _ _ _ (by omega)).mono ?_
 rintro e w6 ⟨rfl, b6⟩
 have X6 := qz0 X5 b6 (by omega)
 have H6 := qz0 H5 b6 (by omega)
 have K6 := K5.trans (b6.mono (by omega))
 have hz6 := Nat.lt_of_lt_of_le hz5 b6.size
 clear X5 H5 K5 b6
 obtain ⟨x0, x1, x2, x3, x4⟩ := row5 X6
 have q10 : w6.cell? ⟨w.heap.size + 1, 10, none⟩ = some (.int .i64 h.x_) := by simpa using H6 10 (.int .i64 h.x_) rfl
 have q14 : w6.cell? ⟨w.heap.size + 1, 14, none⟩ = some (.int .i64 h.pred) := by simpa using H6 14 (.int .i64 h.pred) rfl
 have q16 : w6.cell? ⟨w.heap.size + 1, 16, none⟩ = some (.int .i64 h.curr) := by simpa using H6 16 (.int .i64 h.curr) rfl
 have q18 : w6.cell? ⟨w.heap.size + 1, 18, none⟩ = some (.int .i64 h.new_) := by simpa using H6 18 (.int .i64 h.new_) rfl
 have q11 : w6.cell? ⟨w.heap.size + 1, 11, none⟩ = some (.int .i64 h.ver) := by simpa using H6 11 (.int .i64 h.ver) rfl
 have q15 : w6.cell? ⟨w.heap.size + 1, 15, none⟩ = some (.int .i64 h.predVer) := by simpa using H6 15 (.int .i64 h.predVer) rfl
 have q17 : w6.cell? ⟨w.heap.size + 1, 17, none⟩ = some (.int .i64 h.currVer) := by simpa using H6 17 (.int .i64 h.currVer) rfl
 cases epredVer : inB h.predVer 0 ((A.vers.length : Int) - 1)
 ·have kpredVer : qz5n A h.predVer = false := epredVer
  have hv : qz1b A h = false := by simp [qz1b, kpredVer]
  go_wp2
  go_ret
  exact ⟨by first | rfl | (rw [hv]; rfl), K6⟩
 have kpredVer : qz5n A h.predVer = true := epredVer
 go_wp2_with fail
 clear x0 x1 x2 x3 x4 q10 q14 q16 q18 q11 q15 q17
 refine (qz1d _ _ _ _ _ _ _ _ _ (by omega)).mono ?_
 rintro e w7 ⟨rfl, b7⟩
 have X7 := qz0 X6 b7 (by omega)
 have H7 := qz0 H6 b7 (by omega)
 have K7 := K6.trans (b7.mono (by omega))
 have hz7 := Nat.lt_of_lt_of_le hz6 b7.size
 clear X6 H6 K6 b7
 obtain ⟨x0, x1, x2, x3, x4⟩ := row5 X7
 have q10 : w7.cell? ⟨w.heap.size + 1, 10, none⟩ = some (.int .i64 h.x_) := by simpa using H7 10 (.int .i64 h.x_) rfl
 have q14 : w7.cell? ⟨w.heap.size + 1, 14, none⟩ = some (.int .i64 h.pred) := by simpa using H7 14 (.int .i64 h.pred) rfl
 have q16 : w7.cell? ⟨w.heap.size + 1, 16, none⟩ = some (.int .i64 h.curr) := by simpa using H7 16 (.int .i64 h.curr) rfl
 have q18 : w7.cell? ⟨w.heap.size + 1, 18, none⟩ = some (.int .i64 h.new_) := by simpa using H7 18 (.int .i64 h.new_) rfl
 have q11 : w7.cell? ⟨w.heap.size + 1, 11, none⟩ = some (.int .i64 h.ver) := by simpa using H7 11 (.int .i64 h.ver) rfl
 have q15 : w7.cell? ⟨w.heap.size + 1, 15, none⟩ = some (.int .i64 h.predVer) := by simpa using H7 15 (.int .i64 h.predVer) rfl
 have q17 : w7.cell? ⟨w.heap.size + 1, 17, none⟩ = some (.int .i64 h.currVer) := by simpa using H7 17 (.int .i64 h.currVer) rfl
 have hv : qz1b A h = inB h.currVer 0 ((A.vers.length : Int) - 1) := by unfold qz1b; rw [kx_, kpred, bcurr, kcurr, bnew_, knew_, kver, kpredVer]; rfl
 go_wp2
 go_ret
 exact ⟨by first | rfl | (rw [hv]; rfl), K7⟩
end
end Go.Proofs.YtknncnaikeinbaaGreat
