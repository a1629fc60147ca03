/-
  What the law's proof goes by, part 7.
-/
import Derived.Test.YtclkglkhhnapiaaFnCallF
namespace Go.Proofs.Ytclkglkhhnapiaa
open Go.ChangeShapes Go.WideShapes Go.ChangeAt Go.RowKit
set_option maxRecDepth 100000
set_option maxHeartbeats 16000000
set_option linter.unusedVariables false
set_option linter.unusedSimpArgs false
set_option linter.unnecessarySimpa false
set_option linter.unusedSectionVars false
section
attribute [local go_sem ↓] Go.wp_at_zero Go.wp_at_succ
def onH (A : Ar) (h : Hd) : Hd :=
 if h.then_ = 1 then (if (vrOf A h.ver).gone then { h with x_ := 0, at_ := 2 } else qz53 A { h with pred := h.x_, predVer := h.ver } (vrOf A h.ver).next)
 else if h.then_ = 2 then (if (vrOf A h.ver).gone then { h with currVer := h.ver, at_ := 6 } else if 0 <= h.curr /\ h.key <= (ndOf A h.curr).key then qz27 A { h with currVer := h.ver } else qz53 A { h with currVer := h.ver, pred := max h.curr 0, predVer := h.ver } (vrOf A h.ver).next)
 else if h.then_ = 3 then qz53 A { h with predVer := h.ver } (vrOf A h.ver).next
 else if h.then_ = 4 then { h with at_ := 10 } else if h.then_ = 5 then { h with at_ := 12 }
 else if h.then_ = 6 then (if (vrOf A h.ver).stamp <= h.held then useH A h else { h with at_ := 19 })
 else if h.then_ = 7 then { h with at_ := if (vrOf A h.ver).stamp <= h.least then 23 else 22 }
 else { h with at_ := 0 }
theorem qz85 (B : Nat) (A : Ar) (h : Hd) (a0 a1 a2 a3 : Option Addr) (c0 c1 c2 c3 : Nat) (w : World) (hB : B <= w.heap.size) (hA : A.size <= 1048576) (I : qz25 B w (.slice a0 A.slots.length c0) (.slice a1 A.guides.length c1) (.slice a2 A.nodes.length c2) (.slice a3 A.vers.length c3) A) (x y z u : Int) (hOk : qz1o x y z u A = true) (hv0 : 0 <= h.ver) (hv1 : h.ver < (A.vers.length : Int)) (hx0 : 0 <= h.x_) (hx1 : h.x_ < (A.nodes.length : Int)) (hcu : h.curr < (A.nodes.length : Int)) (ho0 : 0 <= h.out) (ho1 : h.out <= 1000000) (hs0 : 0 <= h.sum) (hs1 : h.sum <= 1000000) :
  Calls Try.prog 121 #[.agg #[.int .i64 A.camera, .slice a0 A.slots.length c0, .slice a1 A.guides.length c1, .slice a2 A.nodes.length c2, .slice a3 A.vers.length c3], .agg (hdC h).toArray] w fun e w' => e = .returned (.agg (hdC (onH A h)).toArray) /\ Below w.heap.size w w' := by
 have hA' := hA
 unfold Ar.size at hA
 have X0 := World.rangeAt_alloc (World.rangeAt_alloc (qzd w [.int .i64 A.camera, .slice a0 A.slots.length c0, .slice a1 A.guides.length c1, .slice a2 A.nodes.length c2, .slice a3 A.vers.length c3] 38) (.cells (hdC h).toArray 27)) (.cells #[.int .i64 0, .int .i64 0, .int .i64 0, .int .i64 0, .int .i64 0, .int .i64 0, .int .i64 0, .int .i64 0, .int .i64 0, .int .i64 0, .int .i64 0, .int .i64 0, .int .i64 0, .int .i64 0, .int .i64 0, .int .i64 0, .int .i64 0, .int .i64 0, .int .i64 0, .int .i64 0, .int .i64 0, .int .i64 0] 27)
 have H0 := World.rangeAt_alloc (qzd (w.alloc (.cells #[.int .i64 A.camera, .slice a0 A.slots.length c0, .slice a1 A.guides.length c1, .slice a2 A.nodes.length c2, .slice a3 A.vers.length c3] 38)) (hdC h) 27) (.cells #[.int .i64 0, .int .i64 0, .int .i64 0, .int .i64 0, .int .i64 0, .int .i64 0, .int .i64 0, .int .i64 0, .int .i64 0, .int .i64 0, .int .i64 0, .int .i64 0, .int .i64 0, .int .i64 0, .int .i64 0, .int .i64 0, .int .i64 0, .int .i64 0, .int .i64 0, .int .i64 0, .int .i64 0, .int .i64 0] 27)
 have G0 := World.there_alloc (qzh (w.alloc (.cells #[.int .i64 A.camera, .slice a0 A.slots.length c0, .slice a1 A.guides.length c1, .slice a2 A.nodes.length c2, .slice a3 A.vers.length c3] 38)) (hdC h).toArray 27 22 (by simp [hdC])) (.cells #[.int .i64 0, .int .i64 0, .int .i64 0, .int .i64 0, .int .i64 0, .int .i64 0, .int .i64 0, .int .i64 0, .int .i64 0, .int .i64 0, .int .i64 0, .int .i64 0, .int .i64 0, .int .i64 0, .int .i64 0, .int .i64 0, .int .i64 0, .int .i64 0, .int .i64 0, .int .i64 0, .int .i64 0, .int .i64 0] 27)
 have F0 := qzh ((w.alloc (.cells #[.int .i64 A.camera, .slice a0 A.slots.length c0, .slice a1 A.guides.length c1, .slice a2 A.nodes.length c2, .slice a3 A.vers.length c3] 38)).alloc (.cells (hdC h).toArray 27)) #[.int .i64 0, .int .i64 0, .int .i64 0, .int .i64 0, .int .i64 0, .int .i64 0, .int .i64 0, .int .i64 0, .int .i64 0, .int .i64 0, .int .i64 0, .int .i64 0, .int .i64 0, .int .i64 0, .int .i64 0, .int .i64 0, .int .i64 0, .int .i64 0, .int .i64 0, .int .i64 0, .int .i64 0, .int .i64 0] 27 22 (by decide)
 have K0 := (((Below.refl w.heap.size w).alloc (Nat.le_refl _) (.cells #[.int .i64 A.camera, .slice a0 A.slots.length c0, .slice a1 A.guides.length c1, .slice a2 A.nodes.length c2, .slice a3 A.vers.length c3] 38)).alloc (by simp) (.cells (hdC h).toArray 27)).alloc (by simp; omega) (.cells #[.int .i64 0, .int .i64 0, .int .i64 0, .int .i64 0, .int .i64 0, .int .i64 0, .int .i64 0, .int .i64 0, .int .i64 0, .int .i64 0, .int .i64 0, .int .i64 0, .int .i64 0, .int .i64 0, .int .i64 0, .int .i64 0, .int .i64 0, .int .i64 0, .int .i64 0, .int .i64 0, .int .i64 0, .int .i64 0] 27)
 have hz0 : w.heap.size + 1 + 1 < (((w.alloc (.cells #[.int .i64 A.camera, .slice a0 A.slots.length c0, .slice a1 A.guides.length c1, .slice a2 A.nodes.length c2, .slice a3 A.vers.length c3] 38)).alloc (.cells (hdC h).toArray 27)).alloc (.cells #[.int .i64 0, .int .i64 0, .int .i64 0, .int .i64 0, .int .i64 0, .int .i64 0, .int .i64 0, .int .i64 0, .int .i64 0, .int .i64 0, .int .i64 0, .int .i64 0, .int .i64 0, .int .i64 0, .int .i64 0, .int .i64 0, .int .i64 0, .int .i64 0, .int .i64 0, .int .i64 0, .int .i64 0, .int .i64 0] 27)).heap.size := by simp
 simp only [World.size_alloc] at H0 G0 F0
 have I0 := I.below (K0.mono hB)
 go_enter Try.func121, Try.ntmps121
 have tok : True := trivial
 go_wp2_with (clear tok; refine qz2e (((w.alloc (.cells #[.int .i64 A.camera, .slice a0 A.slots.length c0, .slice a1 A.guides.length c1, .slice a2 A.nodes.length c2, .slice a3 A.vers.length c3] 38)).alloc (.cells (hdC h).toArray 27)).alloc (.cells #[.int .i64 0, .int .i64 0, .int .i64 0, .int .i64 0, .int .i64 0, .int .i64 0, .int .i64 0, .int .i64 0, .int .i64 0, .int .i64 0, .int .i64 0, .int .i64 0, .int .i64 0, .int .i64 0, .int .i64 0, .int .i64 0, .int .i64 0, .int .i64 0, .int .i64 0, .int .i64 0, .int .i64 0, .int .i64 0] 27)) ?_)
 generalize hw0 : ((w.alloc (.cells #[.int .i64 A.camera, .slice a0 A.slots.length c0, .slice a1 A.guides.length c1, .slice a2 A.nodes.length c2, .slice a3 A.vers.length c3] 38)).alloc (.cells (hdC h).toArray 27)).alloc (.cells #[.int .i64 0, .int .i64 0, .int .i64 0, .int .i64 0, .int .i64 0, .int .i64 0, .int .i64 0, .int .i64 0, .int .i64 0, .int .i64 0, .int .i64 0, .int .i64 0, .int .i64 0, .int .i64 0, .int .i64 0, .int .i64 0, .int .i64 0, .int .i64 0, .int .i64 0, .int .i64 0, .int .i64 0, .int .i64 0] 27) = w0 at *
 clear hw0 I
 show wpList _ _ _ _ _ w0
 obtain ⟨v, hv⟩ : ∃ v : Nat, h.ver = v := ⟨h.ver.toNat, by omega⟩
 have hvl : v < A.vers.length := by omega
 have hvl' : (v : Int) < (A.vers.length : Int) := by omega
 have hvl0 : (0 : Int) <= (v : Int) := by omega
 have hvr : vrOf A h.ver = A.vers[v] := by rw [hv, qz32 A v hvl]
 obtain ⟨bb, off, rfl, hbb, R⟩ := qz14.at I0.r (by omega)
 have V5 := qzu (sz := 5) (fun _ => rfl) R v hvl
 have v0 : w0.cell? ⟨bb, off + v * 5, none⟩ = some (.int .i64 A.vers[v].next) := by simpa using V5 0 _ rfl
 have v1 : w0.cell? ⟨bb, off + v * 5 + 1, none⟩ = some (.bool A.vers[v].gone) := V5 1 _ rfl
 have v2 : w0.cell? ⟨bb, off + v * 5 + 2, none⟩ = some (.int .i64 A.vers[v].stamp) := V5 2 _ rfl
 have v3 : w0.cell? ⟨bb, off + v * 5 + 3, none⟩ = some (.int .i64 A.vers[v].prev) := V5 3 _ rfl
 have v4 : w0.cell? ⟨bb, off + v * 5 + 4, none⟩ = some (.int .i64 A.vers[v].kind) := V5 4 _ rfl
 have x4 : w0.cell? ⟨w.heap.size, 4, none⟩ = some (.slice (some ⟨bb, off, none⟩) A.vers.length c3) := by simpa using X0 4 _ rfl
 have q11 : w0.cell? ⟨w.heap.size + 1, 11, none⟩ = some (.int .i64 h.ver) := by simpa using H0 11 (.int .i64 h.ver) rfl
 rw [hv] at q11
 clear R V5
 have tok : True := trivial
 go_wp2_with (clear tok; refine qz2e (w0.alloc (.cells #[.int .i64 A.vers[v].next, .bool A.vers[v].gone, .int .i64 A.vers[v].stamp, .int .i64 A.vers[v].prev, .int .i64 A.vers[v].kind] 62)) ?_)
 have al := (Below.refl w0.heap.size w0).alloc (Nat.le_refl _) (.cells #[.int .i64 A.vers[v].next, .bool A.vers[v].gone, .int .i64 A.vers[v].stamp, .int .i64 A.vers[v].prev, .int .i64 A.vers[v].kind] 62)
 have VB1 := qzd w0 [.int .i64 A.vers[v].next, .bool A.vers[v].gone, .int .i64 A.vers[v].stamp, .int .i64 A.vers[v].prev, .int .i64 A.vers[v].kind] 62
 have X1 := qz0 X0 al (by omega)
 have H1 := qz0 H0 al (by omega)
 have G1 := qz6 G0 al (by omega)
 have F1 := qz6 F0 al (by omega)
 have K1 := K0.trans (al.mono (by omega))
 have I1 := I0.below (al.mono (by omega))
 have hz1 := Nat.lt_of_lt_of_le hz0 al.size
 have hl1 : w0.heap.size < (w0.alloc (.cells #[.int .i64 A.vers[v].next, .bool A.vers[v].gone, .int .i64 A.vers[v].stamp, .int .i64 A.vers[v].prev, .int .i64 A.vers[v].kind] 62)).heap.size := by simp
 generalize hw1 : w0.alloc (.cells #[.int .i64 A.vers[v].next, .bool A.vers[v].gone, .int .i64 A.vers[v].stamp, .int .i64 A.vers[v].prev, .int .i64 A.vers[v].kind] 62) = w1 at *
 show wpList _ _ _ _ _ w1
 clear hw1 al X0 H0 G0 F0 K0 I0
 clear v0 v1 v2 v3 v4 x4 q11
 have hvH : Hid (h.ver = v) := hv
 clear hv hvl' hvl0
 obtain ⟨x0, x1, x2, x3, x4⟩ := row5 X1
 have q0 : w1.cell? ⟨w.heap.size + 1, 0, none⟩ = some (.int .i64 h.at_) := by simpa using H1 0 (.int .i64 h.at_) rfl
 have q1 : w1.cell? ⟨w.heap.size + 1, 1, none⟩ = some (.int .i64 h.then_) := by simpa using H1 1 (.int .i64 h.then_) rfl
 have q3 : w1.cell? ⟨w.heap.size + 1, 3, none⟩ = some (.int .i64 h.key) := by simpa using H1 3 (.int .i64 h.key) rfl
 have q9 : w1.cell? ⟨w.heap.size + 1, 9, none⟩ = some (.int .i64 h.held) := by simpa using H1 9 (.int .i64 h.held) rfl
 have q10 : w1.cell? ⟨w.heap.size + 1, 10, none⟩ = some (.int .i64 h.x_) := by simpa using H1 10 (.int .i64 h.x_) rfl
 have q11 : w1.cell? ⟨w.heap.size + 1, 11, none⟩ = some (.int .i64 h.ver) := by simpa using H1 11 (.int .i64 h.ver) rfl
 have q14 : w1.cell? ⟨w.heap.size + 1, 14, none⟩ = some (.int .i64 h.pred) := by simpa using H1 14 (.int .i64 h.pred) rfl
 have q15 : w1.cell? ⟨w.heap.size + 1, 15, none⟩ = some (.int .i64 h.predVer) := by simpa using H1 15 (.int .i64 h.predVer) rfl
 have q16 : w1.cell? ⟨w.heap.size + 1, 16, none⟩ = some (.int .i64 h.curr) := by simpa using H1 16 (.int .i64 h.curr) rfl
 have q17 : w1.cell? ⟨w.heap.size + 1, 17, none⟩ = some (.int .i64 h.currVer) := by simpa using H1 17 (.int .i64 h.currVer) rfl
 have q19 : w1.cell? ⟨w.heap.size + 1, 19, none⟩ = some (.int .i64 h.least) := by simpa using H1 19 (.int .i64 h.least) rfl
 have f0 : w1.frozen? ⟨w.heap.size + 1, 0, none⟩ = false := by simpa using (G1 0 (by decide)).2
 have f10 : w1.frozen? ⟨w.heap.size + 1, 10, none⟩ = false := by simpa using (G1 10 (by decide)).2
 have f14 : w1.frozen? ⟨w.heap.size + 1, 14, none⟩ = false := by simpa using (G1 14 (by decide)).2
 have f15 : w1.frozen? ⟨w.heap.size + 1, 15, none⟩ = false := by simpa using (G1 15 (by decide)).2
 have f17 : w1.frozen? ⟨w.heap.size + 1, 17, none⟩ = false := by simpa using (G1 17 (by decide)).2
 have v0 : w1.cell? ⟨w0.heap.size, 0, none⟩ = some (.int .i64 A.vers[v].next) := by simpa using VB1 0 _ rfl
 have v1 : w1.cell? ⟨w0.heap.size, 1, none⟩ = some (.bool A.vers[v].gone) := by simpa using VB1 1 _ rfl
 have v2 : w1.cell? ⟨w0.heap.size, 2, none⟩ = some (.int .i64 A.vers[v].stamp) := by simpa using VB1 2 _ rfl
 have e1 : ¬ (w.heap.size + 1 = w0.heap.size) := by omega
 have e2 : ¬ (w.heap.size + 1 = w.heap.size) := by omega
 by_cases t1 : h.then_ = 1
 case pos =>
  cases kg : A.vers[v].gone
  ·obtain ⟨H', hH⟩ : ∃ H' : Hd, Hid (H' = { h with pred := h.x_, predVer := h.ver }) := by exact ⟨_, rfl⟩
   have hv : Hid (onH A h = qz53 A H' A.vers[v].next) := by show _ = _; rw [hH.out]; simp [onH, t1, hvr, kg]
   go_upto_region 11 with (first | (go_at_call 110; refine (qz1a _ _ _).mono ?_; rintro e w' ⟨rfl, hw⟩; obtain rfl := hw.symm))
   go_wp2_with (first | (refine wpList_load_mid rfl 27 (.tmp 3) rfl (w.heap.size + 1) 0 ?hxln42 (hdC H') _ ?hcn42 Try.underlying27 rfl (qz1 H') ?_))
   try (case hxln42 => rfl)
   case hcn42 => rw [hH.out]; exact (qzc (qzc H1 14 (by simp [hdC]) _) 15 (by simp [hdC]) _)
   refine (qz56 B A H' A.vers[v].next _ _ _ _ _ _ _ _ _ (by first | omega | (simp; omega)) hA' (I1.below (Below.setCell (Below.setCell (Below.refl B w1) (p := ⟨w.heap.size + 1, 14, none⟩) (by show B <= w.heap.size + 1; omega) _) (p := ⟨w.heap.size + 1, 15, none⟩) (by show B <= w.heap.size + 1; omega) _))).mono ?_
   rintro e w9 ⟨rfl, b9⟩
   have F9 := qz6 (qz4 (qz4 F1 _ _) _ _) b9 (by first | omega | (simp; omega))
   have K9 := (Below.setCell (Below.setCell K1 (p := ⟨w.heap.size + 1, 14, none⟩) (by show w.heap.size <= w.heap.size + 1; omega) _) (p := ⟨w.heap.size + 1, 15, none⟩) (by show w.heap.size <= w.heap.size + 1; omega) _).trans (b9.mono (by first | omega | (simp; omega)))
   go_wp2_with (refine wpList_store_mid rfl 27 (.tmp 4) _ rfl (w.heap.size + 1 + 1) 0 (hdC (qz53 A H' A.vers[v].next)).toArray ?hxn42 ?hyn42 ?htn42 (qza _) (qzf _) ?_)
   try (case hxn42 => rfl)
   try (case hyn42 => rfl)
   case htn42 => exact F9
   refine bodyPost_ret (v := .agg (hdC (qz53 A H' A.vers[v].next)).toArray) ?_ rfl ⟨by rw [hv.out], ?_⟩
   ·exact qz5 Try.results121 _ _ (w.heap.size + 1 + 1) 0 rfl (hdC (qz53 A H' A.vers[v].next)) _ (World.rangeAt_setCells_same _ _ _ _ F9) Try.underlying27 rfl (qz1 _)
   ·exact Below.setCells (by omega) _ _ _ K9
  ·obtain ⟨H', hH⟩ : ∃ H' : Hd, Hid (H' = { h with x_ := 0, at_ := 2 }) := by exact ⟨_, rfl⟩
   have hv : Hid (onH A h = H') := by show _ = _; rw [hH.out]; simp [onH, t1, hvr, kg]
   go_upto_region 8 with (first | (go_at_call 110; refine (qz1a _ _ _).mono ?_; rintro e w' ⟨rfl, hw⟩; obtain rfl := hw.symm))
   go_wp2_with (first | (refine wpList_load_mid rfl 27 (.tmp 3) rfl (w.heap.size + 1) 0 ?hxln43 (hdC H') _ ?hcn43 Try.underlying27 rfl (qz1 H') ?_) | (refine wpList_store_mid rfl 27 (.tmp 4) _ rfl (w.heap.size + 1 + 1) 0 (hdC H').toArray ?hxn43 ?hyn43 ?htn43 (qza _) (qzf _) ?_))
   try (case hxln43 => rfl)
   case hcn43 => rw [hH.out]; exact (qzc (qzc H1 10 (by simp [hdC]) _) 0 (by simp [hdC]) _)
   try (case hxn43 => rfl)
   try (case hyn43 => rfl)
   case htn43 => exact (qz4 (qz4 F1 _ _) _ _)
   refine bodyPost_ret (v := .agg (hdC H').toArray) ?_ rfl ⟨by rw [hv.out], ?_⟩
   ·exact qz5 Try.results121 _ _ (w.heap.size + 1 + 1) 0 rfl (hdC H') _ (World.rangeAt_setCells_same _ _ _ _ (qz4 (qz4 F1 _ _) _ _)) Try.underlying27 rfl (qz1 _)
   ·exact Below.setCells (by omega) _ _ _ (Below.setCell (Below.setCell K1 (p := ⟨w.heap.size + 1, 10, none⟩) (by show w.heap.size <= w.heap.size + 1; omega) _) (p := ⟨w.heap.size + 1, 0, none⟩) (by show w.heap.size <= w.heap.size + 1; omega) _)
 have b1 : (h.then_ == 1) = false := by simp [t1]
 by_cases t2 : h.then_ = 2
 case pos =>
  cases kg : A.vers[v].gone
  case true =>
   obtain ⟨H', hH⟩ : ∃ H' : Hd, Hid (H' = { h with currVer := h.ver, at_ := 6 }) := by exact ⟨_, rfl⟩
   have hv : Hid (onH A h = H') := by show _ = _; rw [hH.out]; simp [onH, t2, hvr, kg]
   go_upto_region 16 with (first | (go_at_call 110; refine (qz1a _ _ _).mono ?_; rintro e w' ⟨rfl, hw⟩; obtain rfl := hw.symm))
   go_wp2_with (first | (refine wpList_load_mid rfl 27 (.tmp 3) rfl (w.heap.size + 1) 0 ?hxln44 (hdC H') _ ?hcn44 Try.underlying27 rfl (qz1 H') ?_) | (refine wpList_store_mid rfl 27 (.tmp 4) _ rfl (w.heap.size + 1 + 1) 0 (hdC H').toArray ?hxn44 ?hyn44 ?htn44 (qza _) (qzf _) ?_))
   try (case hxln44 => rfl)
   case hcn44 => rw [hH.out]; exact (qzc (qzc H1 17 (by simp [hdC]) _) 0 (by simp [hdC]) _)
   try (case hxn44 => rfl)
   try (case hyn44 => rfl)
   case htn44 => exact (qz4 (qz4 F1 _ _) _ _)
   refine bodyPost_ret (v := .agg (hdC H').toArray) ?_ rfl ⟨by rw [hv.out], ?_⟩
   ·exact qz5 Try.results121 _ _ (w.heap.size + 1 + 1) 0 rfl (hdC H') _ (World.rangeAt_setCells_same _ _ _ _ (qz4 (qz4 F1 _ _) _ _)) Try.underlying27 rfl (qz1 _)
   ·exact Below.setCells (by omega) _ _ _ (Below.setCell (Below.setCell K1 (p := ⟨w.heap.size + 1, 17, none⟩) (by show w.heap.size <= w.heap.size + 1; omega) _) (p := ⟨w.heap.size + 1, 0, none⟩) (by show w.heap.size <= w.heap.size + 1; omega) _)
  go_upto_region 17 with fail
  by_cases kc : 0 <= h.curr
  case neg =>
   go_quiet (fail)
   have X2 : ((w1.setCell ⟨w.heap.size + 1, 17, none⟩ (.int .i64 h.ver)).drewN nq).rangeAt w.heap.size 0 [.int .i64 A.camera, .slice a0 A.slots.length c0, .slice a1 A.guides.length c1, .slice a2 A.nodes.length c2, .slice (some ⟨bb, off, none⟩) A.vers.length c3] := qz3g X1 (a := ⟨w.heap.size + 1, 17, none⟩) (by show w.heap.size + 1 ≠ w.heap.size; omega) _
   have H2 : ((w1.setCell ⟨w.heap.size + 1, 17, none⟩ (.int .i64 h.ver)).drewN nq).rangeAt (w.heap.size + 1) 0 (hdC { h with currVer := h.ver }) := qzc H1 17 (by simp [hdC]) _
   have G2 : ((w1.setCell ⟨w.heap.size + 1, 17, none⟩ (.int .i64 h.ver)).drewN nq).there (w.heap.size + 1) 0 22 := qz4 G1 _ _
   have F2 : ((w1.setCell ⟨w.heap.size + 1, 17, none⟩ (.int .i64 h.ver)).drewN nq).there (w.heap.size + 1 + 1) 0 22 := qz4 F1 _ _
   have KS := Below.setCell K1 (p := ⟨w.heap.size + 1, 17, none⟩) (by show w.heap.size <= w.heap.size + 1; omega) (.int .i64 h.ver)
   have K2 : Below w.heap.size w ((w1.setCell ⟨w.heap.size + 1, 17, none⟩ (.int .i64 h.ver)).drewN nq) := ⟨KS.os, KS.tape, KS.output, KS.size, KS.block⟩
   have KT := Below.setCell (Below.refl B w1) (p := ⟨w.heap.size + 1, 17, none⟩) (by show B <= w.heap.size + 1; omega) (.int .i64 h.ver)
   have I2 := I1.below (w' := ((w1.setCell ⟨w.heap.size + 1, 17, none⟩ (.int .i64 h.ver)).drewN nq)) ⟨KT.os, KT.tape, KT.output, KT.size, KT.block⟩
   have V2 : ((w1.setCell ⟨w.heap.size + 1, 17, none⟩ (.int .i64 h.ver)).drewN nq).cell? ⟨w0.heap.size, 0, none⟩ = some (.int .i64 A.vers[v].next) := (World.cell?_setCell_other _ _ _ _ (by simp)).trans v0
   have hz2 : w.heap.size + 1 + 1 < ((w1.setCell ⟨w.heap.size + 1, 17, none⟩ (.int .i64 h.ver)).drewN nq).heap.size := by show _ < (w1.setCell _ _).heap.size; rw [World.size_setCell]; exact hz1
   generalize hw2 : ((w1.setCell ⟨w.heap.size + 1, 17, none⟩ (.int .i64 h.ver)).drewN nq) = w2 at *
   clear hw2 KS KT x0 x1 x2 x3 x4 q0 q1 q3 q9 q10 q11 q14 q15 q16 q17 q19 f0 f10 f14 f15 f17 v0 v1 v2 X1 H1 G1 F1 K1 I1
   obtain ⟨x0, x1, x2, x3, x4⟩ := row5 X2
   have q14 : w2.cell? ⟨w.heap.size + 1, 14, none⟩ = some (.int .i64 h.pred) := by simpa using H2 14 _ rfl
   have q15 : w2.cell? ⟨w.heap.size + 1, 15, none⟩ = some (.int .i64 h.predVer) := by simpa using H2 15 _ rfl
   have q16 : w2.cell? ⟨w.heap.size + 1, 16, none⟩ = some (.int .i64 h.curr) := by simpa using H2 16 _ rfl
   have q17 : w2.cell? ⟨w.heap.size + 1, 17, none⟩ = some (.int .i64 h.ver) := by simpa using H2 17 _ rfl
   have f14 : w2.frozen? ⟨w.heap.size + 1, 14, none⟩ = false := by simpa using (G2 14 (by decide)).2
   have f15 : w2.frozen? ⟨w.heap.size + 1, 15, none⟩ = false := by simpa using (G2 15 (by decide)).2
   obtain ⟨H', hH⟩ : ∃ H' : Hd, Hid (H' = { h with currVer := h.ver, pred := max h.curr 0, predVer := h.ver }) := by exact ⟨_, rfl⟩
   have hv : Hid (onH A h = qz53 A H' A.vers[v].next) := by show _ = _; rw [hH.out]; simp [onH, t2, hvr, kg, kc]
   go_upto_region 21 with (first | (go_at_call 110; refine (qz1a _ _ _).mono ?_; rintro e w' ⟨rfl, hw⟩; obtain rfl := hw.symm))
   go_wp2_with (first | (refine wpList_load_mid rfl 27 (.tmp 3) rfl (w.heap.size + 1) 0 ?hxln45 (hdC H') _ ?hcn45 Try.underlying27 rfl (qz1 H') ?_))
   try (case hxln45 => rfl)
   case hcn45 => rw [hH.out]; exact (qzc (qzc H2 14 (by simp [hdC]) _) 15 (by simp [hdC]) _)
   refine (qz56 B A H' A.vers[v].next _ _ _ _ _ _ _ _ _ (by first | omega | (simp; omega)) hA' (I2.below (Below.setCell (Below.setCell (Below.refl B w2) (p := ⟨w.heap.size + 1, 14, none⟩) (by show B <= w.heap.size + 1; omega) _) (p := ⟨w.heap.size + 1, 15, none⟩) (by show B <= w.heap.size + 1; omega) _))).mono ?_
   rintro e w9 ⟨rfl, b9⟩
   have F9 := qz6 (qz4 (qz4 F2 _ _) _ _) b9 (by first | omega | (simp; omega))
   have K9 := (Below.setCell (Below.setCell K2 (p := ⟨w.heap.size + 1, 14, none⟩) (by show w.heap.size <= w.heap.size + 1; omega) _) (p := ⟨w.heap.size + 1, 15, none⟩) (by show w.heap.size <= w.heap.size + 1; omega) _).trans (b9.mono (by first | omega | (simp; omega)))
   go_wp2_with (refine wpList_store_mid rfl 27 (.tmp 4) _ rfl (w.heap.size + 1 + 1) 0 (hdC (qz53 A H' A.vers[v].next)).toArray ?hxn45 ?hyn45 ?htn45 (qza _) (qzf _) ?_)
   try (case hxn45 => rfl)
   try (case hyn45 => rfl)
   case htn45 => exact F9
   refine bodyPost_ret (v := .agg (hdC (qz53 A H' A.vers[v].next)).toArray) ?_ rfl ⟨by rw [hv.out], ?_⟩
   ·exact qz5 Try.results121 _ _ (w.heap.size + 1 + 1) 0 rfl (hdC (qz53 A H' A.vers[v].next)) _ (World.rangeAt_setCells_same _ _ _ _ F9) Try.underlying27 rfl (qz1 _)
   ·exact Below.setCells (by omega) _ _ _ K9
  obtain ⟨n, hn⟩ : ∃ n : Nat, h.curr = n := ⟨h.curr.toNat, by omega⟩
  have hnl : n < A.nodes.length := by omega
  have hnl' : (n : Int) < (A.nodes.length : Int) := by omega
  have hnl0 : (0 : Int) <= (n : Int) := by omega
  have hnd : ndOf A h.curr = A.nodes[n] := by rw [hn, qz24 A n hnl]
  obtain ⟨bn, on, rfl, hbn, RN⟩ := qz14.at I1.n (by omega)
  have e3 : ¬ (w.heap.size + 1 = bn) := by omega
  have m0 : w1.cell? ⟨bn, on + n * 3, none⟩ = some (.int .i64 A.nodes[n].key) := by simpa using (qzu (sz := 3) (fun _ => rfl) RN n hnl) 0 _ rfl
  rw [hn] at q16
  have hnH : Hid (h.curr = n) := hn
  clear RN hn
  by_cases kk : h.key <= A.nodes[n].key
  case neg =>
   go_quiet (fail)
   have X2 : ((w1.setCell ⟨w.heap.size + 1, 17, none⟩ (.int .i64 h.ver)).drewN nq).rangeAt w.heap.size 0 [.int .i64 A.camera, .slice a0 A.slots.length c0, .slice a1 A.guides.length c1, .slice (some ⟨bn, on, none⟩) A.nodes.length c2, .slice (some ⟨bb, off, none⟩) A.vers.length c3] := qz3g X1 (a := ⟨w.heap.size + 1, 17, none⟩) (by show w.heap.size + 1 ≠ w.heap.size; omega) _
   have H2 : ((w1.setCell ⟨w.heap.size + 1, 17, none⟩ (.int .i64 h.ver)).drewN nq).rangeAt (w.heap.size + 1) 0 (hdC { h with currVer := h.ver }) := qzc H1 17 (by simp [hdC]) _
   have G2 : ((w1.setCell ⟨w.heap.size + 1, 17, none⟩ (.int .i64 h.ver)).drewN nq).there (w.heap.size + 1) 0 22 := qz4 G1 _ _
   have F2 : ((w1.setCell ⟨w.heap.size + 1, 17, none⟩ (.int .i64 h.ver)).drewN nq).there (w.heap.size + 1 + 1) 0 22 := qz4 F1 _ _
   have KS := Below.setCell K1 (p := ⟨w.heap.size + 1, 17, none⟩) (by show w.heap.size <= w.heap.size + 1; omega) (.int .i64 h.ver)
   have K2 : Below w.heap.size w ((w1.setCell ⟨w.heap.size + 1, 17, none⟩ (.int .i64 h.ver)).drewN nq) := ⟨KS.os, KS.tape, KS.output, KS.size, KS.block⟩
   have KT := Below.setCell (Below.refl B w1) (p := ⟨w.heap.size + 1, 17, none⟩) (by show B <= w.heap.size + 1; omega) (.int .i64 h.ver)
   have I2 := I1.below (w' := ((w1.setCell ⟨w.heap.size + 1, 17, none⟩ (.int .i64 h.ver)).drewN nq)) ⟨KT.os, KT.tape, KT.output, KT.size, KT.block⟩
   have V2 : ((w1.setCell ⟨w.heap.size + 1, 17, none⟩ (.int .i64 h.ver)).drewN nq).cell? ⟨w0.heap.size, 0, none⟩ = some (.int .i64 A.vers[v].next) := (World.cell?_setCell_other _ _ _ _ (by simp)).trans v0
   have hz2 : w.heap.size + 1 + 1 < ((w1.setCell ⟨w.heap.size + 1, 17, none⟩ (.int .i64 h.ver)).drewN nq).heap.size := by show _ < (w1.setCell _ _).heap.size; rw [World.size_setCell]; exact hz1
   generalize hw2 : ((w1.setCell ⟨w.heap.size + 1, 17, none⟩ (.int .i64 h.ver)).drewN nq) = w2 at *
   clear hw2 KS KT m0 x0 x1 x2 x3 x4 q0 q1 q3 q9 q10 q11 q14 q15 q16 q17 q19 f0 f10 f14 f15 f17 v0 v1 v2 X1 H1 G1 F1 K1 I1
   obtain ⟨x0, x1, x2, x3, x4⟩ := row5 X2
   have q14 : w2.cell? ⟨w.heap.size + 1, 14, none⟩ = some (.int .i64 h.pred) := by simpa using H2 14 _ rfl
   have q15 : w2.cell? ⟨w.heap.size + 1, 15, none⟩ = some (.int .i64 h.predVer) := by simpa using H2 15 _ rfl
   have q16 : w2.cell? ⟨w.heap.size + 1, 16, none⟩ = some (.int .i64 h.curr) := by simpa using H2 16 _ rfl
   have q17 : w2.cell? ⟨w.heap.size + 1, 17, none⟩ = some (.int .i64 h.ver) := by simpa using H2 17 _ rfl
   have f14 : w2.frozen? ⟨w.heap.size + 1, 14, none⟩ = false := by simpa using (G2 14 (by decide)).2
   have f15 : w2.frozen? ⟨w.heap.size + 1, 15, none⟩ = false := by simpa using (G2 15 (by decide)).2
   obtain ⟨H', hH⟩ : ∃ H' : Hd, Hid (H' = { h with currVer := h.ver, pred := max h.curr 0, predVer := h.ver }) := by exact ⟨_, rfl⟩
   have hv : Hid (onH A h = qz53 A H' A.vers[v].next) := by show _ = _; rw [hH.out]; simp [onH, t2, hvr, kg, hnd, kk]
   go_upto_region 21 with (first | (go_at_call 110; refine (qz1a _ _ _).mono ?_; rintro e w' ⟨rfl, hw⟩; obtain rfl := hw.symm))
   go_wp2_with (first | (refine wpList_load_mid rfl 27 (.tmp 3) rfl (w.heap.size + 1) 0 ?hxln46 (hdC H') _ ?hcn46 Try.underlying27 rfl (qz1 H') ?_))
   try (case hxln46 => rfl)
   case hcn46 => rw [hH.out]; exact (qzc (qzc H2 14 (by simp [hdC]) _) 15 (by simp [hdC]) _)
   refine (qz56 B A H' A.vers[v].next _ _ _ _ _ _ _ _ _ (by first | omega | (simp; omega)) hA' (I2.below (Below.setCell (Below.setCell (Below.refl B w2) (p := ⟨w.heap.size + 1, 14, none⟩) (by show B <= w.heap.size + 1; omega) _) (p := ⟨w.heap.size + 1, 15, none⟩) (by show B <= w.heap.size + 1; omega) _))).mono ?_
   rintro e w9 ⟨rfl, b9⟩
   have F9 := qz6 (qz4 (qz4 F2 _ _) _ _) b9 (by first | omega | (simp; omega))
   have K9 := (Below.setCell (Below.setCell K2 (p := ⟨w.heap.size + 1, 14, none⟩) (by show w.heap.size <= w.heap.size + 1; omega) _) (p := ⟨w.heap.size + 1, 15, none⟩) (by show w.heap.size <= w.heap.size + 1; omega) _).trans (b9.mono (by first | omega | (simp; omega)))
   go_wp2_with (refine wpList_store_mid rfl 27 (.tmp 4) _ rfl (w.heap.size + 1 + 1) 0 (hdC (qz53 A H' A.vers[v].next)).toArray ?hxn46 ?hyn46 ?htn46 (qza _) (qzf _) ?_)
   try (case hxn46 => rfl)
   try (case hyn46 => rfl)
   case htn46 => exact F9
   refine bodyPost_ret (v := .agg (hdC (qz53 A H' A.vers[v].next)).toArray) ?_ rfl ⟨by rw [hv.out], ?_⟩
   ·exact qz5 Try.results121 _ _ (w.heap.size + 1 + 1) 0 rfl (hdC (qz53 A H' A.vers[v].next)) _ (World.rangeAt_setCells_same _ _ _ _ F9) Try.underlying27 rfl (qz1 _)
   ·exact Below.setCells (by omega) _ _ _ K9
  go_quiet (fail)
  have X2 : ((w1.setCell ⟨w.heap.size + 1, 17, none⟩ (.int .i64 h.ver)).drewN nq).rangeAt w.heap.size 0 [.int .i64 A.camera, .slice a0 A.slots.length c0, .slice a1 A.guides.length c1, .slice (some ⟨bn, on, none⟩) A.nodes.length c2, .slice (some ⟨bb, off, none⟩) A.vers.length c3] := qz3g X1 (a := ⟨w.heap.size + 1, 17, none⟩) (by show w.heap.size + 1 ≠ w.heap.size; omega) _
  have H2 : ((w1.setCell ⟨w.heap.size + 1, 17, none⟩ (.int .i64 h.ver)).drewN nq).rangeAt (w.heap.size + 1) 0 (hdC { h with currVer := h.ver }) := qzc H1 17 (by simp [hdC]) _
  have G2 : ((w1.setCell ⟨w.heap.size + 1, 17, none⟩ (.int .i64 h.ver)).drewN nq).there (w.heap.size + 1) 0 22 := qz4 G1 _ _
  have F2 : ((w1.setCell ⟨w.heap.size + 1, 17, none⟩ (.int .i64 h.ver)).drewN nq).there (w.heap.size + 1 + 1) 0 22 := qz4 F1 _ _
  have KS := Below.setCell K1 (p := ⟨w.heap.size + 1, 17, none⟩) (by show w.heap.size <= w.heap.size + 1; omega) (.int .i64 h.ver)
  have K2 : Below w.heap.size w ((w1.setCell ⟨w.heap.size + 1, 17, none⟩ (.int .i64 h.ver)).drewN nq) := ⟨KS.os, KS.tape, KS.output, KS.size, KS.block⟩
  have KT := Below.setCell (Below.refl B w1) (p := ⟨w.heap.size + 1, 17, none⟩) (by show B <= w.heap.size + 1; omega) (.int .i64 h.ver)
  have I2 := I1.below (w' := ((w1.setCell ⟨w.heap.size + 1, 17, none⟩ (.int .i64 h.ver)).drewN nq)) ⟨KT.os, KT.tape, KT.output, KT.size, KT.block⟩
  have V2 : ((w1.setCell ⟨w.heap.size + 1, 17, none⟩ (.int .i64 h.ver)).drewN nq).cell? ⟨w0.heap.size, 0, none⟩ = some (.int .i64 A.vers[v].next) := (World.cell?_setCell_other _ _ _ _ (by simp)).trans v0
  have hz2 : w.heap.size + 1 + 1 < ((w1.setCell ⟨w.heap.size + 1, 17, none⟩ (.int .i64 h.ver)).drewN nq).heap.size := by show _ < (w1.setCell _ _).heap.size; rw [World.size_setCell]; exact hz1
  generalize hw2 : ((w1.setCell ⟨w.heap.size + 1, 17, none⟩ (.int .i64 h.ver)).drewN nq) = w2 at *
  clear hw2 KS KT m0 x0 x1 x2 x3 x4 q0 q1 q3 q9 q10 q11 q14 q15 q16 q17 q19 f0 f10 f14 f15 f17 v0 v1 v2 X1 H1 G1 F1 K1 I1
  obtain ⟨x0, x1, x2, x3, x4⟩ := row5 X2
  obtain ⟨H', hH⟩ : ∃ H' : Hd, Hid (H' = { h with currVer := h.ver }) := by exact ⟨_, rfl⟩
  have hv : Hid (onH A h = qz27 A H') := by show _ = _; rw [hH.out]; simp [onH, t2, hvr, kg, kc, hnd, kk]
  go_upto_region 18 with (first | (go_at_call 110; refine (qz1a _ _ _).mono ?_; rintro e w' ⟨rfl, hw⟩; obtain rfl := hw.symm))
  go_wp2_with (first | (refine wpList_load_mid rfl 27 (.tmp 3) rfl (w.heap.size + 1) 0 ?hxln47 (hdC H') _ ?hcn47 Try.underlying27 rfl (qz1 H') ?_))
  try (case hxln47 => rfl)
  case hcn47 => rw [hH.out]; exact H2
  refine (qz6x B A H' _ _ _ _ _ _ _ _ _ (by first | omega | (simp; omega)) hA' (I2.below (Below.refl B w2)) (by rw [hH.out]; exact hcu)).mono ?_
  rintro e w9 ⟨rfl, b9⟩
  have F9 := qz6 F2 b9 (by first | omega | (simp; omega))
  have K9 := K2.trans (b9.mono (by first | omega | (simp; omega)))
  go_wp2_with (refine wpList_store_mid rfl 27 (.tmp 4) _ rfl (w.heap.size + 1 + 1) 0 (hdC (qz27 A H')).toArray ?hxn47 ?hyn47 ?htn47 (qza _) (qzf _) ?_)
  try (case hxn47 => rfl)
  try (case hyn47 => rfl)
  case htn47 => exact F9
  refine bodyPost_ret (v := .agg (hdC (qz27 A H')).toArray) ?_ rfl ⟨by rw [hv.out], ?_⟩
  ·exact qz5 Try.results121 _ _ (w.heap.size + 1 + 1) 0 rfl (hdC (qz27 A H')) _ (World.rangeAt_setCells_same _ _ _ _ F9) Try.underlying27 rfl (qz1 _)
  ·exact Below.setCells (by omega) _ _ _ K9
 have b2 : (h.then_ == 2) = false := by simp [t2]
 by_cases t3 : h.then_ = 3
 case pos =>
  obtain ⟨H', hH⟩ : ∃ H' : Hd, Hid (H' = { h with predVer := h.ver }) := by exact ⟨_, rfl⟩
  have hv : Hid (onH A h = qz53 A H' A.vers[v].next) := by show _ = _; rw [hH.out]; simp [onH, t3, hvr]
  go_upto_region 24 with (first | (go_at_call 110; refine (qz1a _ _ _).mono ?_; rintro e w' ⟨rfl, hw⟩; obtain rfl := hw.symm))
  go_wp2_with (first | (refine wpList_load_mid rfl 27 (.tmp 3) rfl (w.heap.size + 1) 0 ?hxln48 (hdC H') _ ?hcn48 Try.underlying27 rfl (qz1 H') ?_))
  try (case hxln48 => rfl)
  case hcn48 => rw [hH.out]; exact (qzc H1 15 (by simp [hdC]) _)
  refine (qz56 B A H' A.vers[v].next _ _ _ _ _ _ _ _ _ (by first | omega | (simp; omega)) hA' (I1.below (Below.setCell (Below.refl B w1) (p := ⟨w.heap.size + 1, 15, none⟩) (by show B <= w.heap.size + 1; omega) _))).mono ?_
  rintro e w9 ⟨rfl, b9⟩
  have F9 := qz6 (qz4 F1 _ _) b9 (by first | omega | (simp; omega))
  have K9 := (Below.setCell K1 (p := ⟨w.heap.size + 1, 15, none⟩) (by show w.heap.size <= w.heap.size + 1; omega) _).trans (b9.mono (by first | omega | (simp; omega)))
  go_wp2_with (refine wpList_store_mid rfl 27 (.tmp 4) _ rfl (w.heap.size + 1 + 1) 0 (hdC (qz53 A H' A.vers[v].next)).toArray ?hxn48 ?hyn48 ?htn48 (qza _) (qzf _) ?_)
  try (case hxn48 => rfl)
  try (case hyn48 => rfl)
  case htn48 => exact F9
  refine bodyPost_ret (v := .agg (hdC (qz53 A H' A.vers[v].next)).toArray) ?_ rfl ⟨by rw [hv.out], ?_⟩
  ·exact qz5 Try.results121 _ _ (w.heap.size + 1 + 1) 0 rfl (hdC (qz53 A H' A.vers[v].next)) _ (World.rangeAt_setCells_same _ _ _ _ F9) Try.underlying27 rfl (qz1 _)
  ·exact Below.setCells (by omega) _ _ _ K9
 have b3 : (h.then_ == 3) = false := by simp [t3]
 by_cases t4 : h.then_ = 4
 case pos =>
  obtain ⟨H', hH⟩ : ∃ H' : Hd, Hid (H' = { h with at_ := 10 }) := by exact ⟨_, rfl⟩
  have hv : Hid (onH A h = H') := by show _ = _; rw [hH.out]; simp [onH, t4]
  go_upto_region 37 with (first | (go_at_call 110; refine (qz1a _ _ _).mono ?_; rintro e w' ⟨rfl, hw⟩; obtain rfl := hw.symm))
  go_wp2_with (first | (refine wpList_load_mid rfl 27 (.tmp 3) rfl (w.heap.size + 1) 0 ?hxln49 (hdC H') _ ?hcn49 Try.underlying27 rfl (qz1 H') ?_) | (refine wpList_store_mid rfl 27 (.tmp 4) _ rfl (w.heap.size + 1 + 1) 0 (hdC H').toArray ?hxn49 ?hyn49 ?htn49 (qza _) (qzf _) ?_))
  try (case hxln49 => rfl)
  case hcn49 => rw [hH.out]; exact (qzc H1 0 (by simp [hdC]) _)
  try (case hxn49 => rfl)
  try (case hyn49 => rfl)
  case htn49 => exact (qz4 F1 _ _)
  refine bodyPost_ret (v := .agg (hdC H').toArray) ?_ rfl ⟨by rw [hv.out], ?_⟩
  ·exact qz5 Try.results121 _ _ (w.heap.size + 1 + 1) 0 rfl (hdC H') _ (World.rangeAt_setCells_same _ _ _ _ (qz4 F1 _ _)) Try.underlying27 rfl (qz1 _)
  ·exact Below.setCells (by omega) _ _ _ (Below.setCell K1 (p := ⟨w.heap.size + 1, 0, none⟩) (by show w.heap.size <= w.heap.size + 1; omega) _)
 have b4 : (h.then_ == 4) = false := by simp [t4]
 by_cases t5 : h.then_ = 5
 case pos =>
  obtain ⟨H', hH⟩ : ∃ H' : Hd, Hid (H' = { h with at_ := 12 }) := by exact ⟨_, rfl⟩
  have hv : Hid (onH A h = H') := by show _ = _; rw [hH.out]; simp [onH, t5]
  go_upto_region 37 with (first | (go_at_call 110; refine (qz1a _ _ _).mono ?_; rintro e w' ⟨rfl, hw⟩; obtain rfl := hw.symm))
  go_wp2_with (first | (refine wpList_load_mid rfl 27 (.tmp 3) rfl (w.heap.size + 1) 0 ?hxln50 (hdC H') _ ?hcn50 Try.underlying27 rfl (qz1 H') ?_) | (refine wpList_store_mid rfl 27 (.tmp 4) _ rfl (w.heap.size + 1 + 1) 0 (hdC H').toArray ?hxn50 ?hyn50 ?htn50 (qza _) (qzf _) ?_))
  try (case hxln50 => rfl)
  case hcn50 => rw [hH.out]; exact (qzc H1 0 (by simp [hdC]) _)
  try (case hxn50 => rfl)
  try (case hyn50 => rfl)
  case htn50 => exact (qz4 F1 _ _)
  refine bodyPost_ret (v := .agg (hdC H').toArray) ?_ rfl ⟨by rw [hv.out], ?_⟩
  ·exact qz5 Try.results121 _ _ (w.heap.size + 1 + 1) 0 rfl (hdC H') _ (World.rangeAt_setCells_same _ _ _ _ (qz4 F1 _ _)) Try.underlying27 rfl (qz1 _)
  ·exact Below.setCells (by omega) _ _ _ (Below.setCell K1 (p := ⟨w.heap.size + 1, 0, none⟩) (by show w.heap.size <= w.heap.size + 1; omega) _)
 have b5 : (h.then_ == 5) = false := by simp [t5]
 by_cases t6 : h.then_ = 6
 case pos =>
  by_cases ks : A.vers[v].stamp <= h.held
  ·obtain ⟨H', hH⟩ : ∃ H' : Hd, Hid (H' = h) := by exact ⟨_, rfl⟩
   have hv : Hid (onH A h = useH A H') := by show _ = _; rw [hH.out]; simp [onH, t6, hvr, ks]
   go_upto_region 31 with (first | (go_at_call 110; refine (qz1a _ _ _).mono ?_; rintro e w' ⟨rfl, hw⟩; obtain rfl := hw.symm))
   go_wp2_with (first | (refine wpList_load_mid rfl 27 (.tmp 3) rfl (w.heap.size + 1) 0 ?hxln51 (hdC H') _ ?hcn51 Try.underlying27 rfl (qz1 H') ?_))
   try (case hxln51 => rfl)
   case hcn51 => rw [hH.out]; exact H1
   refine (qz7m B A H' _ _ _ _ _ _ _ _ _ (by first | omega | (simp; omega)) hA' (I1.below (Below.refl B w1)) x y z u hOk (by rw [hH.out]; exact hv0) (by rw [hH.out]; exact hv1) (by rw [hH.out]; exact hx0) (by rw [hH.out]; exact hx1) (by rw [hH.out]; exact ho0) (by rw [hH.out]; exact ho1) (by rw [hH.out]; exact hs0) (by rw [hH.out]; exact hs1)).mono ?_
   rintro e w9 ⟨rfl, b9⟩
   have F9 := qz6 F1 b9 (by first | omega | (simp; omega))
   have K9 := K1.trans (b9.mono (by first | omega | (simp; omega)))
   go_wp2_with (refine wpList_store_mid rfl 27 (.tmp 4) _ rfl (w.heap.size + 1 + 1) 0 (hdC (useH A H')).toArray ?hxn51 ?hyn51 ?htn51 (qza _) (qzf _) ?_)
   try (case hxn51 => rfl)
   try (case hyn51 => rfl)
   case htn51 => exact F9
   refine bodyPost_ret (v := .agg (hdC (useH A H')).toArray) ?_ rfl ⟨by rw [hv.out], ?_⟩
   ·exact qz5 Try.results121 _ _ (w.heap.size + 1 + 1) 0 rfl (hdC (useH A H')) _ (World.rangeAt_setCells_same _ _ _ _ F9) Try.underlying27 rfl (qz1 _)
   ·exact Below.setCells (by omega) _ _ _ K9
  obtain ⟨H', hH⟩ : ∃ H' : Hd, Hid (H' = { h with at_ := 19 }) := by exact ⟨_, rfl⟩
  have hv : Hid (onH A h = H') := by show _ = _; rw [hH.out]; simp [onH, t6, hvr, ks]
  go_upto_region 37 with (first | (go_at_call 110; refine (qz1a _ _ _).mono ?_; rintro e w' ⟨rfl, hw⟩; obtain rfl := hw.symm))
  go_wp2_with (first | (refine wpList_load_mid rfl 27 (.tmp 3) rfl (w.heap.size + 1) 0 ?hxln52 (hdC H') _ ?hcn52 Try.underlying27 rfl (qz1 H') ?_) | (refine wpList_store_mid rfl 27 (.tmp 4) _ rfl (w.heap.size + 1 + 1) 0 (hdC H').toArray ?hxn52 ?hyn52 ?htn52 (qza _) (qzf _) ?_))
  try (case hxln52 => rfl)
  case hcn52 => rw [hH.out]; exact (qzc H1 0 (by simp [hdC]) _)
  try (case hxn52 => rfl)
  try (case hyn52 => rfl)
  case htn52 => exact (qz4 F1 _ _)
  refine bodyPost_ret (v := .agg (hdC H').toArray) ?_ rfl ⟨by rw [hv.out], ?_⟩
  ·exact qz5 Try.results121 _ _ (w.heap.size + 1 + 1) 0 rfl (hdC H') _ (World.rangeAt_setCells_same _ _ _ _ (qz4 F1 _ _)) Try.underlying27 rfl (qz1 _)
  ·exact Below.setCells (by omega) _ _ _ (Below.setCell K1 (p := ⟨w.heap.size + 1, 0, none⟩) (by show w.heap.size <= w.heap.size + 1; omega) _)
 have b6 : (h.then_ == 6) = false := by simp [t6]
 by_cases t7 : h.then_ = 7
 case pos =>
  by_cases ks : A.vers[v].stamp <= h.least
  ·obtain ⟨H', hH⟩ : ∃ H' : Hd, Hid (H' = { h with at_ := 23 }) := by exact ⟨_, rfl⟩
   have hv : Hid (onH A h = H') := by show _ = _; rw [hH.out]; simp [onH, t7, hvr, ks]
   go_upto_region 37 with (first | (go_at_call 110; refine (qz1a _ _ _).mono ?_; rintro e w' ⟨rfl, hw⟩; obtain rfl := hw.symm))
   go_wp2_with (first | (refine wpList_load_mid rfl 27 (.tmp 3) rfl (w.heap.size + 1) 0 ?hxln53 (hdC H') _ ?hcn53 Try.underlying27 rfl (qz1 H') ?_) | (refine wpList_store_mid rfl 27 (.tmp 4) _ rfl (w.heap.size + 1 + 1) 0 (hdC H').toArray ?hxn53 ?hyn53 ?htn53 (qza _) (qzf _) ?_))
   try (case hxln53 => rfl)
   case hcn53 => rw [hH.out]; exact (qzc (qzc H1 0 (by simp [hdC]) _) 0 (by simp [hdC]) _)
   try (case hxn53 => rfl)
   try (case hyn53 => rfl)
   case htn53 => exact (qz4 (qz4 F1 _ _) _ _)
   refine bodyPost_ret (v := .agg (hdC H').toArray) ?_ rfl ⟨by rw [hv.out], ?_⟩
   ·exact qz5 Try.results121 _ _ (w.heap.size + 1 + 1) 0 rfl (hdC H') _ (World.rangeAt_setCells_same _ _ _ _ (qz4 (qz4 F1 _ _) _ _)) Try.underlying27 rfl (qz1 _)
   ·exact Below.setCells (by omega) _ _ _ (Below.setCell (Below.setCell K1 (p := ⟨w.heap.size + 1, 0, none⟩) (by show w.heap.size <= w.heap.size + 1; omega) _) (p := ⟨w.heap.size + 1, 0, none⟩) (by show w.heap.size <= w.heap.size + 1; omega) _)
  obtain ⟨H', hH⟩ : ∃ H' : Hd, Hid (H' = { h with at_ := 22 }) := by exact ⟨_, rfl⟩
  have hv : Hid (onH A h = H') := by show _ = _; rw [hH.out]; simp [onH, t7, hvr, ks]
  go_upto_region 37 with (first | (go_at_call 110; refine (qz1a _ _ _).mono ?_; rintro e w' ⟨rfl, hw⟩; obtain rfl := hw.symm))
  go_wp2_with (first | (refine wpList_load_mid rfl 27 (.tmp 3) rfl (w.heap.size + 1) 0 ?hxln54 (hdC H') _ ?hcn54 Try.underlying27 rfl (qz1 H') ?_) | (refine wpList_store_mid rfl 27 (.tmp 4) _ rfl (w.heap.size + 1 + 1) 0 (hdC H').toArray ?hxn54 ?hyn54 ?htn54 (qza _) (qzf _) ?_))
  try (case hxln54 => rfl)
  case hcn54 => rw [hH.out]; exact (qzc H1 0 (by simp [hdC]) _)
  try (case hxn54 => rfl)
  try (case hyn54 => rfl)
  case htn54 => exact (qz4 F1 _ _)
  refine bodyPost_ret (v := .agg (hdC H').toArray) ?_ rfl ⟨by rw [hv.out], ?_⟩
  ·exact qz5 Try.results121 _ _ (w.heap.size + 1 + 1) 0 rfl (hdC H') _ (World.rangeAt_setCells_same _ _ _ _ (qz4 F1 _ _)) Try.underlying27 rfl (qz1 _)
  ·exact Below.setCells (by omega) _ _ _ (Below.setCell K1 (p := ⟨w.heap.size + 1, 0, none⟩) (by show w.heap.size <= w.heap.size + 1; omega) _)
 have b7 : (h.then_ == 7) = false := by simp [t7]
 obtain ⟨H', hH⟩ : ∃ H' : Hd, Hid (H' = { h with at_ := 0 }) := by exact ⟨_, rfl⟩
 have hv : Hid (onH A h = H') := by show _ = _; rw [hH.out]; simp [onH, t1, t2, t3, t4, t5, t6, t7]
 go_upto_region 37 with (first | (go_at_call 110; refine (qz1a _ _ _).mono ?_; rintro e w' ⟨rfl, hw⟩; obtain rfl := hw.symm))
 go_wp2_with (first | (refine wpList_load_mid rfl 27 (.tmp 3) rfl (w.heap.size + 1) 0 ?hxln55 (hdC H') _ ?hcn55 Try.underlying27 rfl (qz1 H') ?_) | (refine wpList_store_mid rfl 27 (.tmp 4) _ rfl (w.heap.size + 1 + 1) 0 (hdC H').toArray ?hxn55 ?hyn55 ?htn55 (qza _) (qzf _) ?_))
 try (case hxln55 => rfl)
 case hcn55 => rw [hH.out]; exact (qzc H1 0 (by simp [hdC]) _)
 try (case hxn55 => rfl)
 try (case hyn55 => rfl)
 case htn55 => exact (qz4 F1 _ _)
 refine bodyPost_ret (v := .agg (hdC H').toArray) ?_ rfl ⟨by rw [hv.out], ?_⟩
 ·exact qz5 Try.results121 _ _ (w.heap.size + 1 + 1) 0 rfl (hdC H') _ (World.rangeAt_setCells_same _ _ _ _ (qz4 F1 _ _)) Try.underlying27 rfl (qz1 _)
 ·exact Below.setCells (by omega) _ _ _ (Below.setCell K1 (p := ⟨w.heap.size + 1, 0, none⟩) (by show w.heap.size <= w.heap.size + 1; omega) _)
end
section
attribute [local go_sem ↓] Go.wp_at_zero Go.wp_at_succ
def qz4x (A : Ar) (h : Hd) : Ar := { A with vers := A.vers.set h.ver.toNat { vrOf A h.ver with stamp := min h.cam A.camera } }
def qz22 (A : Ar) (h : Hd) (d : Dd) (clock : Int) : Ar × Hd × Dd :=
 if h.at_ = 2 then (A, { h with ver := (ndOf A h.x_).head, at_ := 3 }, d)
 else if h.at_ = 3 then (if qz2x A h.ver = true then (A, onH A h, d) else (A, { h with at_ := 4 }, d))
 else if h.at_ = 4 then (A, { h with cam := A.camera, camAt := clock, at_ := 5 }, d)
 else if h.at_ = 5 then (if qz2x A h.ver = true then (A, onH A h, d) else (qz4x A h, onH (qz4x A h) h, qz45 (qz4x A h) h))
 else (A, h, d)
theorem qzb1 (A : Ar) (h : Hd) : (qz4x A h).size = A.size := by simp [qz4x, Ar.size]
theorem qzcg {x y z u : Int} {A : Ar} {h : Hd} (hOk : qz1o x y z u A = true) (hc : 0 <= h.cam) (hv0 : 0 <= h.ver) (hv1 : h.ver < (A.vers.length : Int)) : qz1o x y z u (qz4x A h) = true := by
 obtain ⟨h1, h2, h3, h4, h5⟩ := qz2a hOk
 simp only [qz1o, Bool.and_eq_true]
 refine ⟨⟨⟨⟨?_, h2⟩, h3⟩, ?_⟩, ?_⟩
 ·simpa [qz7j, qz4x] using h1
 ·simpa [qz4x] using h4
 ·rw [qz2o] at h5 ⊢
  intro i hi
  have hi' : i < A.vers.length := by simpa [qz4x] using hi
  have h6 := h5 i hi'
  have hcam : 0 <= A.camera := by simp only [qz7j, Bool.and_eq_true, qz1b] at h1; omega
  simp only [qz4x, List.getElem_set]
  split
  ·rename_i e
   obtain ⟨k, hk⟩ : ∃ k : Nat, h.ver = k := ⟨h.ver.toNat, by omega⟩
   have : i = k := by omega
   subst this
   rw [hk, qz32 A i hi']
   simp only [verB, Bool.and_eq_true, qz1b] at h6 ⊢
   exact ⟨⟨⟨h6.1.1.1, by omega⟩, h6.1.2⟩, h6.2⟩
  ·exact h6
theorem qzap (base : Nat) (A : Ar) (h : Hd) (d : Dd) (tk : Bool) (clock : Int) (s g n r : Value) (w : World) (hbase : base <= w.heap.size) (hA : A.size <= 1048576) (O : qz38 base w s g n r A) (x y z u : Int) (hOk : qz1o x y z u A = true) (hv0 : 0 <= h.ver) (hv1 : h.ver < (A.vers.length : Int)) (hx0 : 0 <= h.x_) (hx1 : h.x_ < (A.nodes.length : Int)) (hcu : h.curr < (A.nodes.length : Int)) (ho0 : 0 <= h.out) (ho1 : h.out <= 1000000) (hs0 : 0 <= h.sum) (hs1 : h.sum <= 1000000) (hcm : 0 <= h.cam) :
  Calls Try.prog 112 #[.agg (qze A.camera s g n r h d tk).toArray, .int .i64 clock] w fun e w' => ∃ s' g' n' r', e = .returned (.agg (qze A.camera s' g' n' r' (qz22 A h d clock).2.1 (qz22 A h d clock).2.2 tk).toArray) /\ qz2b base w w' s g n r s' g' n' r' (qz22 A h d clock).1 := by
 have hA' := hA
 unfold Ar.size at hA
 obtain ⟨sa, sc, rfl⟩ := qzk O.rs
 obtain ⟨ga, gc, rfl⟩ := qzk O.rg
 obtain ⟨nb, nc, rfl⟩ := qz19 O.rn (by omega)
 obtain ⟨rb, rc, rfl⟩ := qz19 O.rr (by omega)
 have S0 := qz7y base w (.slice sa A.slots.length sc) (.slice ga A.guides.length gc) (.slice (some ⟨nb, 0, none⟩) A.nodes.length nc) (.slice (some ⟨rb, 0, none⟩) A.vers.length rc) A (qze A.camera (.slice sa A.slots.length sc) (.slice ga A.guides.length gc) (.slice (some ⟨nb, 0, none⟩) A.nodes.length nc) (.slice (some ⟨rb, 0, none⟩) A.vers.length rc) h d tk) [.int .i64 0, .slice none 0 0, .slice none 0 0, .slice none 0 0, .slice none 0 0, .int .i64 0, .int .i64 0, .int .i64 0, .int .i64 0, .int .i64 0, .int .i64 0, .int .i64 0, .int .i64 0, .int .i64 0, .int .i64 0, .int .i64 0, .int .i64 0, .int .i64 0, .int .i64 0, .int .i64 0, .int .i64 0, .int .i64 0, .int .i64 0, .int .i64 0, .int .i64 0, .int .i64 0, .int .i64 0, .int .i64 0, .int .i64 0, .int .i64 0, .int .i64 0, .int .i64 0, .bool false] 147 O rfl rfl
 have hnb := qz2m O.rn (j := nb) rfl
 have hrb := qz2m O.rr (j := rb) rfl
 obtain ⟨xk, hxk⟩ : ∃ k : Nat, h.x_ = k := ⟨h.x_.toNat, by omega⟩
 obtain ⟨vk, hvk⟩ : ∃ k : Nat, h.ver = k := ⟨h.ver.toNat, by omega⟩
 have hxl : xk < A.nodes.length := by omega
 have hvl : vk < A.vers.length := by omega
 go_enter Try.func112, Try.ntmps112
 have tok : True := trivial
 go_wp2_with (clear tok; refine qz2e ((w.alloc (.cells (qze A.camera (.slice sa A.slots.length sc) (.slice ga A.guides.length gc) (.slice (some ⟨nb, 0, none⟩) A.nodes.length nc) (.slice (some ⟨rb, 0, none⟩) A.vers.length rc) h d tk).toArray 147)).alloc (.cells #[.int .i64 0, .slice none 0 0, .slice none 0 0, .slice none 0 0, .slice none 0 0, .int .i64 0, .int .i64 0, .int .i64 0, .int .i64 0, .int .i64 0, .int .i64 0, .int .i64 0, .int .i64 0, .int .i64 0, .int .i64 0, .int .i64 0, .int .i64 0, .int .i64 0, .int .i64 0, .int .i64 0, .int .i64 0, .int .i64 0, .int .i64 0, .int .i64 0, .int .i64 0, .int .i64 0, .int .i64 0, .int .i64 0, .int .i64 0, .int .i64 0, .int .i64 0, .int .i64 0, .bool false] 147)) ?_)
 generalize hw0 : (w.alloc (.cells (qze A.camera (.slice sa A.slots.length sc) (.slice ga A.guides.length gc) (.slice (some ⟨nb, 0, none⟩) A.nodes.length nc) (.slice (some ⟨rb, 0, none⟩) A.vers.length rc) h d tk).toArray 147)).alloc (.cells #[.int .i64 0, .slice none 0 0, .slice none 0 0, .slice none 0 0, .slice none 0 0, .int .i64 0, .int .i64 0, .int .i64 0, .int .i64 0, .int .i64 0, .int .i64 0, .int .i64 0, .int .i64 0, .int .i64 0, .int .i64 0, .int .i64 0, .int .i64 0, .int .i64 0, .int .i64 0, .int .i64 0, .int .i64 0, .int .i64 0, .int .i64 0, .int .i64 0, .int .i64 0, .int .i64 0, .int .i64 0, .int .i64 0, .int .i64 0, .int .i64 0, .int .i64 0, .int .i64 0, .bool false] 147) = w0 at *
 clear hw0
 show wpList _ _ _ _ _ w0
 have hx0' : (0 : Int) <= (xk : Int) := by omega
 have hx1' : (xk : Int) < (A.nodes.length : Int) := by omega
 have hv0' : (0 : Int) <= (vk : Int) := by omega
 have hv1' : (vk : Int) < (A.vers.length : Int) := by omega
 have x0 := S0.cell 0 rfl
 have x1 := S0.cell 1 rfl
 have x2 := S0.cell 2 rfl
 have x3 := S0.cell 3 rfl
 have x4 := S0.cell 4 rfl
 have q0 := S0.cell 5 rfl
 have q10 := S0.cell 15 rfl
 have q11 := S0.cell 16 rfl
 have q12 := S0.cell 17 rfl
 have q13 := S0.cell 18 rfl
 have f0 := S0.free 5 (by decide)
 have f11 := S0.free 16 (by decide)
 have f12 := S0.free 17 (by decide)
 have f13 := S0.free 18 (by decide)
 rw [hxk] at q10
 rw [hvk] at q11
 have hw1 := S0.hi
 by_cases e2 : h.at_ = 2
 case pos =>
  have hd : Hid (qz22 A h d clock = (A, { h with ver := A.nodes[xk].head, at_ := 3 }, d)) := by show _ = _; rw [qz22, if_pos e2, hxk, qz24 A xk hxl]
  have c2 := (qz33 S0.own.rn (xk * 3 + 2) (.int .i64 A.nodes[xk].head) (by rw [qz1q (sz := 3) (fun _ => rfl) A.nodes xk hxl 2 (by omega)]; rfl)).1
  rw [e2] at q0
  go_upto_region 18 with fail
  have S1 : Stp base w _ w.heap.size (w.heap.size + 1) (.slice sa A.slots.length sc) (.slice ga A.guides.length gc) (.slice (some ⟨nb, 0, none⟩) A.nodes.length nc) (.slice (some ⟨rb, 0, none⟩) A.vers.length rc) (.slice sa A.slots.length sc) (.slice ga A.guides.length gc) (.slice (some ⟨nb, 0, none⟩) A.nodes.length nc) (.slice (some ⟨rb, 0, none⟩) A.vers.length rc) A (qze A.camera (.slice sa A.slots.length sc) (.slice ga A.guides.length gc) (.slice (some ⟨nb, 0, none⟩) A.nodes.length nc) (.slice (some ⟨rb, 0, none⟩) A.vers.length rc) { h with ver := A.nodes[xk].head, at_ := 3 } d tk) := (S0.put 16 (by rw [qz2n]; omega) (.int .i64 A.nodes[xk].head)).put 5 (by rw [List.length_set, qz2n]; omega) (.int .i64 3)
  go_wp2_with (first | (refine wpList_load_mid rfl 147 (.tmp 2) rfl w.heap.size 0 ?cx2 (qze A.camera (.slice sa A.slots.length sc) (.slice ga A.guides.length gc) (.slice (some ⟨nb, 0, none⟩) A.nodes.length nc) (.slice (some ⟨rb, 0, none⟩) A.vers.length rc) { h with ver := A.nodes[xk].head, at_ := 3 } d tk) _ ?cc2 Try.underlying147 rfl (qz9 _ _ _ _ _ _ _ _) ?_) | (refine wpList_store_mid rfl 147 (.tmp 4) _ rfl (w.heap.size + 1) 0 (qze A.camera (.slice sa A.slots.length sc) (.slice ga A.guides.length gc) (.slice (some ⟨nb, 0, none⟩) A.nodes.length nc) (.slice (some ⟨rb, 0, none⟩) A.vers.length rc) { h with ver := A.nodes[xk].head, at_ := 3 } d tk).toArray ?dx2 ?dy2 ?dt2 (qzt _ _ _ _ _ _ _ _) (qz13 _ _ _ _ _ _ _ _ _ _ _ _ _ _ _ _) ?_))
  try (case cx2 => rfl)
  try (case cc2 => exact S1.row)
  try (case dx2 => rfl)
  try (case dy2 => rfl)
  try (case dt2 => exact S1.to)
  refine bodyPost_ret (v := .agg (qze A.camera (.slice sa A.slots.length sc) (.slice ga A.guides.length gc) (.slice (some ⟨nb, 0, none⟩) A.nodes.length nc) (.slice (some ⟨rb, 0, none⟩) A.vers.length rc) { h with ver := A.nodes[xk].head, at_ := 3 } d tk).toArray) ?_ rfl ⟨_, _, _, _, by rw [hd.out], by rw [hd.out]; exact S1.fin⟩
  exact qz5 Try.results112 _ _ (w.heap.size + 1) 0 rfl (qze A.camera (.slice sa A.slots.length sc) (.slice ga A.guides.length gc) (.slice (some ⟨nb, 0, none⟩) A.nodes.length nc) (.slice (some ⟨rb, 0, none⟩) A.vers.length rc) { h with ver := A.nodes[xk].head, at_ := 3 } d tk) _ (S1.out rfl) Try.underlying147 rfl (qz9 _ _ _ _ _ _ _ _)
 by_cases e3 : h.at_ = 3
 case pos =>
  rw [e3] at q0
  cases hst : qz2x A h.ver
  case false =>
   have hd : Hid (qz22 A h d clock = (A, { h with at_ := 4 }, d)) := by show _ = _; rw [qz22, if_neg e2, if_pos e3, hst]; rfl
   rw [hvk] at hst
   go_upto_region 18 with (go_at_call 120; refine (qz1s w0.heap.size A (vk : Int) _ _ _ _ _ _ _ _ _ (Nat.le_refl _) hA' S0.is).mono ?_; rintro e w1 ⟨rfl, b1⟩; rw [hst]; have S1 := S0.below b1; have f1 := S1.free 5 (by decide); have q1 := S1.cell 5 rfl)
   have S2 : Stp base w _ w.heap.size (w.heap.size + 1) (.slice sa A.slots.length sc) (.slice ga A.guides.length gc) (.slice (some ⟨nb, 0, none⟩) A.nodes.length nc) (.slice (some ⟨rb, 0, none⟩) A.vers.length rc) (.slice sa A.slots.length sc) (.slice ga A.guides.length gc) (.slice (some ⟨nb, 0, none⟩) A.nodes.length nc) (.slice (some ⟨rb, 0, none⟩) A.vers.length rc) A (qze A.camera (.slice sa A.slots.length sc) (.slice ga A.guides.length gc) (.slice (some ⟨nb, 0, none⟩) A.nodes.length nc) (.slice (some ⟨rb, 0, none⟩) A.vers.length rc) { h with at_ := 4 } d tk) := S1.put 5 (by rw [qz2n]; omega) (.int .i64 4)
   go_wp2_with (first | (refine wpList_load_mid rfl 147 (.tmp 2) rfl w.heap.size 0 ?cx3 (qze A.camera (.slice sa A.slots.length sc) (.slice ga A.guides.length gc) (.slice (some ⟨nb, 0, none⟩) A.nodes.length nc) (.slice (some ⟨rb, 0, none⟩) A.vers.length rc) { h with at_ := 4 } d tk) _ ?cc3 Try.underlying147 rfl (qz9 _ _ _ _ _ _ _ _) ?_) | (refine wpList_store_mid rfl 147 (.tmp 4) _ rfl (w.heap.size + 1) 0 (qze A.camera (.slice sa A.slots.length sc) (.slice ga A.guides.length gc) (.slice (some ⟨nb, 0, none⟩) A.nodes.length nc) (.slice (some ⟨rb, 0, none⟩) A.vers.length rc) { h with at_ := 4 } d tk).toArray ?dx3 ?dy3 ?dt3 (qzt _ _ _ _ _ _ _ _) (qz13 _ _ _ _ _ _ _ _ _ _ _ _ _ _ _ _) ?_))
   try (case cx3 => rfl)
   try (case cc3 => exact S2.row)
   try (case dx3 => rfl)
   try (case dy3 => rfl)
   try (case dt3 => exact S2.to)
   refine bodyPost_ret (v := .agg (qze A.camera (.slice sa A.slots.length sc) (.slice ga A.guides.length gc) (.slice (some ⟨nb, 0, none⟩) A.nodes.length nc) (.slice (some ⟨rb, 0, none⟩) A.vers.length rc) { h with at_ := 4 } d tk).toArray) ?_ rfl ⟨_, _, _, _, by rw [hd.out], by rw [hd.out]; exact S2.fin⟩
   exact qz5 Try.results112 _ _ (w.heap.size + 1) 0 rfl (qze A.camera (.slice sa A.slots.length sc) (.slice ga A.guides.length gc) (.slice (some ⟨nb, 0, none⟩) A.nodes.length nc) (.slice (some ⟨rb, 0, none⟩) A.vers.length rc) { h with at_ := 4 } d tk) _ (S2.out rfl) Try.underlying147 rfl (qz9 _ _ _ _ _ _ _ _)
  have hd : Hid (qz22 A h d clock = (A, onH A h, d)) := by show _ = _; rw [qz22, if_neg e2, if_pos e3, hst]; rfl
  rw [hvk] at hst
  go_upto_region 18 with (first | (go_at_call 120; refine (qz1s w0.heap.size A (vk : Int) _ _ _ _ _ _ _ _ _ (Nat.le_refl _) hA' S0.is).mono ?_; rintro e w1 ⟨rfl, b1⟩; rw [hst]; have S1 := S0.below b1; have x0 := S1.cell 0 rfl; have x1 := S1.cell 1 rfl; have x2 := S1.cell 2 rfl; have x3 := S1.cell 3 rfl; have x4 := S1.cell 4 rfl) | (refine wpList_load_mid rfl 27 (.tmp 33) rfl w.heap.size 5 ?ax31 (hdC h) _ ?ac31 Try.underlying27 rfl (qz1 h) ?_) | (go_at_call 121; refine (qz85 w1.heap.size A h _ _ _ _ _ _ _ _ _ (Nat.le_refl _) hA' S1.is x y z u hOk hv0 hv1 hx0 hx1 hcu ho0 ho1 hs0 hs1).mono ?_; rintro e w2 ⟨rfl, b2⟩; have S2 := S1.below b2) | (refine wpList_store_mid rfl 27 (.tmp 36) _ rfl w.heap.size 5 (hdC (onH A h)).toArray ?bx32 ?by32 ?bt32 (qza _) (qzf _) ?_))
  try (case ax31 => rfl)
  try (case ac31 => exact (qzw S1.row).2.1)
  try (case bx32 => rfl)
  try (case by32 => rfl)
  try (case bt32 => have T := qz1c S2.th 5 22 (by omega); rw [Nat.zero_add] at T; exact T)
  have S3 := S2.hand (onH A h)
  go_wp2_with (first | (refine wpList_load_mid rfl 147 (.tmp 2) rfl w.heap.size 0 ?cx33 (qze A.camera (.slice sa A.slots.length sc) (.slice ga A.guides.length gc) (.slice (some ⟨nb, 0, none⟩) A.nodes.length nc) (.slice (some ⟨rb, 0, none⟩) A.vers.length rc) (onH A h) d tk) _ ?cc33 Try.underlying147 rfl (qz9 _ _ _ _ _ _ _ _) ?_) | (refine wpList_store_mid rfl 147 (.tmp 4) _ rfl (w.heap.size + 1) 0 (qze A.camera (.slice sa A.slots.length sc) (.slice ga A.guides.length gc) (.slice (some ⟨nb, 0, none⟩) A.nodes.length nc) (.slice (some ⟨rb, 0, none⟩) A.vers.length rc) (onH A h) d tk).toArray ?dx33 ?dy33 ?dt33 (qzt _ _ _ _ _ _ _ _) (qz13 _ _ _ _ _ _ _ _ _ _ _ _ _ _ _ _) ?_))
  try (case cx33 => rfl)
  try (case cc33 => exact S3.row)
  try (case dx33 => rfl)
  try (case dy33 => rfl)
  try (case dt33 => exact S3.to)
  refine bodyPost_ret (v := .agg (qze A.camera (.slice sa A.slots.length sc) (.slice ga A.guides.length gc) (.slice (some ⟨nb, 0, none⟩) A.nodes.length nc) (.slice (some ⟨rb, 0, none⟩) A.vers.length rc) (onH A h) d tk).toArray) ?_ rfl ⟨_, _, _, _, by rw [hd.out], by rw [hd.out]; exact S3.fin⟩
  exact qz5 Try.results112 _ _ (w.heap.size + 1) 0 rfl (qze A.camera (.slice sa A.slots.length sc) (.slice ga A.guides.length gc) (.slice (some ⟨nb, 0, none⟩) A.nodes.length nc) (.slice (some ⟨rb, 0, none⟩) A.vers.length rc) (onH A h) d tk) _ (S3.out rfl) Try.underlying147 rfl (qz9 _ _ _ _ _ _ _ _)
 by_cases e4 : h.at_ = 4
 case pos =>
  have hd : Hid (qz22 A h d clock = (A, { h with cam := A.camera, camAt := clock, at_ := 5 }, d)) := by show _ = _; rw [qz22, if_neg e2, if_neg e3, if_pos e4]
  rw [e4] at q0
  go_upto_region 18 with fail
  have S1 : Stp base w _ w.heap.size (w.heap.size + 1) (.slice sa A.slots.length sc) (.slice ga A.guides.length gc) (.slice (some ⟨nb, 0, none⟩) A.nodes.length nc) (.slice (some ⟨rb, 0, none⟩) A.vers.length rc) (.slice sa A.slots.length sc) (.slice ga A.guides.length gc) (.slice (some ⟨nb, 0, none⟩) A.nodes.length nc) (.slice (some ⟨rb, 0, none⟩) A.vers.length rc) A (qze A.camera (.slice sa A.slots.length sc) (.slice ga A.guides.length gc) (.slice (some ⟨nb, 0, none⟩) A.nodes.length nc) (.slice (some ⟨rb, 0, none⟩) A.vers.length rc) { h with cam := A.camera, camAt := clock, at_ := 5 } d tk) := ((S0.put 17 (by rw [qz2n]; omega) (.int .i64 A.camera)).put 18 (by rw [List.length_set, qz2n]; omega) (.int .i64 clock)).put 5 (by rw [List.length_set, List.length_set, qz2n]; omega) (.int .i64 5)
  go_wp2_with (first | (refine wpList_load_mid rfl 147 (.tmp 2) rfl w.heap.size 0 ?cx4 (qze A.camera (.slice sa A.slots.length sc) (.slice ga A.guides.length gc) (.slice (some ⟨nb, 0, none⟩) A.nodes.length nc) (.slice (some ⟨rb, 0, none⟩) A.vers.length rc) { h with cam := A.camera, camAt := clock, at_ := 5 } d tk) _ ?cc4 Try.underlying147 rfl (qz9 _ _ _ _ _ _ _ _) ?_) | (refine wpList_store_mid rfl 147 (.tmp 4) _ rfl (w.heap.size + 1) 0 (qze A.camera (.slice sa A.slots.length sc) (.slice ga A.guides.length gc) (.slice (some ⟨nb, 0, none⟩) A.nodes.length nc) (.slice (some ⟨rb, 0, none⟩) A.vers.length rc) { h with cam := A.camera, camAt := clock, at_ := 5 } d tk).toArray ?dx4 ?dy4 ?dt4 (qzt _ _ _ _ _ _ _ _) (qz13 _ _ _ _ _ _ _ _ _ _ _ _ _ _ _ _) ?_))
  try (case cx4 => rfl)
  try (case cc4 => exact S1.row)
  try (case dx4 => rfl)
  try (case dy4 => rfl)
  try (case dt4 => exact S1.to)
  refine bodyPost_ret (v := .agg (qze A.camera (.slice sa A.slots.length sc) (.slice ga A.guides.length gc) (.slice (some ⟨nb, 0, none⟩) A.nodes.length nc) (.slice (some ⟨rb, 0, none⟩) A.vers.length rc) { h with cam := A.camera, camAt := clock, at_ := 5 } d tk).toArray) ?_ rfl ⟨_, _, _, _, by rw [hd.out], by rw [hd.out]; exact S1.fin⟩
  exact qz5 Try.results112 _ _ (w.heap.size + 1) 0 rfl (qze A.camera (.slice sa A.slots.length sc) (.slice ga A.guides.length gc) (.slice (some ⟨nb, 0, none⟩) A.nodes.length nc) (.slice (some ⟨rb, 0, none⟩) A.vers.length rc) { h with cam := A.camera, camAt := clock, at_ := 5 } d tk) _ (S1.out rfl) Try.underlying147 rfl (qz9 _ _ _ _ _ _ _ _)
 by_cases e5 : h.at_ = 5
 case neg =>
  have hd : Hid (qz22 A h d clock = (A, h, d)) := by show _ = _; rw [qz22, if_neg e2, if_neg e3, if_neg e4, if_neg e5]
  go_upto_region 18 with fail
  go_wp2_with (first | (refine wpList_load_mid rfl 147 (.tmp 2) rfl w.heap.size 0 ?cx9 (qze A.camera (.slice sa A.slots.length sc) (.slice ga A.guides.length gc) (.slice (some ⟨nb, 0, none⟩) A.nodes.length nc) (.slice (some ⟨rb, 0, none⟩) A.vers.length rc) h d tk) _ ?cc9 Try.underlying147 rfl (qz9 _ _ _ _ _ _ _ _) ?_) | (refine wpList_store_mid rfl 147 (.tmp 4) _ rfl (w.heap.size + 1) 0 (qze A.camera (.slice sa A.slots.length sc) (.slice ga A.guides.length gc) (.slice (some ⟨nb, 0, none⟩) A.nodes.length nc) (.slice (some ⟨rb, 0, none⟩) A.vers.length rc) h d tk).toArray ?dx9 ?dy9 ?dt9 (qzt _ _ _ _ _ _ _ _) (qz13 _ _ _ _ _ _ _ _ _ _ _ _ _ _ _ _) ?_))
  try (case cx9 => rfl)
  try (case cc9 => exact S0.row)
  try (case dx9 => rfl)
  try (case dy9 => rfl)
  try (case dt9 => exact S0.to)
  refine bodyPost_ret (v := .agg (qze A.camera (.slice sa A.slots.length sc) (.slice ga A.guides.length gc) (.slice (some ⟨nb, 0, none⟩) A.nodes.length nc) (.slice (some ⟨rb, 0, none⟩) A.vers.length rc) h d tk).toArray) ?_ rfl ⟨_, _, _, _, by rw [hd.out], by rw [hd.out]; exact S0.fin⟩
  exact qz5 Try.results112 _ _ (w.heap.size + 1) 0 rfl (qze A.camera (.slice sa A.slots.length sc) (.slice ga A.guides.length gc) (.slice (some ⟨nb, 0, none⟩) A.nodes.length nc) (.slice (some ⟨rb, 0, none⟩) A.vers.length rc) h d tk) _ (S0.out rfl) Try.underlying147 rfl (qz9 _ _ _ _ _ _ _ _)
 rw [e5] at q0
 cases hst : qz2x A h.ver
 case true =>
  have hd : Hid (qz22 A h d clock = (A, onH A h, d)) := by show _ = _; rw [qz22, if_neg e2, if_neg e3, if_neg e4, if_pos e5, hst]; rfl
  rw [hvk] at hst
  go_upto_region 18 with (first | (go_at_call 120; refine (qz1s w0.heap.size A (vk : Int) _ _ _ _ _ _ _ _ _ (Nat.le_refl _) hA' S0.is).mono ?_; rintro e w1 ⟨rfl, b1⟩; rw [hst]; have S1 := S0.below b1; have x0 := S1.cell 0 rfl; have x1 := S1.cell 1 rfl; have x2 := S1.cell 2 rfl; have x3 := S1.cell 3 rfl; have x4 := S1.cell 4 rfl) | (refine wpList_load_mid rfl 27 (.tmp 83) rfl w.heap.size 5 ?ax51 (hdC h) _ ?ac51 Try.underlying27 rfl (qz1 h) ?_) | (go_at_call 121; refine (qz85 w1.heap.size A h _ _ _ _ _ _ _ _ _ (Nat.le_refl _) hA' S1.is x y z u hOk hv0 hv1 hx0 hx1 hcu ho0 ho1 hs0 hs1).mono ?_; rintro e w2 ⟨rfl, b2⟩; have S2 := S1.below b2) | (refine wpList_store_mid rfl 27 (.tmp 86) _ rfl w.heap.size 5 (hdC (onH A h)).toArray ?bx52 ?by52 ?bt52 (qza _) (qzf _) ?_))
  try (case ax51 => rfl)
  try (case ac51 => exact (qzw S1.row).2.1)
  try (case bx52 => rfl)
  try (case by52 => rfl)
  try (case bt52 => have T := qz1c S2.th 5 22 (by omega); rw [Nat.zero_add] at T; exact T)
  have S3 := S2.hand (onH A h)
  go_wp2_with (first | (refine wpList_load_mid rfl 147 (.tmp 2) rfl w.heap.size 0 ?cx53 (qze A.camera (.slice sa A.slots.length sc) (.slice ga A.guides.length gc) (.slice (some ⟨nb, 0, none⟩) A.nodes.length nc) (.slice (some ⟨rb, 0, none⟩) A.vers.length rc) (onH A h) d tk) _ ?cc53 Try.underlying147 rfl (qz9 _ _ _ _ _ _ _ _) ?_) | (refine wpList_store_mid rfl 147 (.tmp 4) _ rfl (w.heap.size + 1) 0 (qze A.camera (.slice sa A.slots.length sc) (.slice ga A.guides.length gc) (.slice (some ⟨nb, 0, none⟩) A.nodes.length nc) (.slice (some ⟨rb, 0, none⟩) A.vers.length rc) (onH A h) d tk).toArray ?dx53 ?dy53 ?dt53 (qzt _ _ _ _ _ _ _ _) (qz13 _ _ _ _ _ _ _ _ _ _ _ _ _ _ _ _) ?_))
  try (case cx53 => rfl)
  try (case cc53 => exact S3.row)
  try (case dx53 => rfl)
  try (case dy53 => rfl)
  try (case dt53 => exact S3.to)
  refine bodyPost_ret (v := .agg (qze A.camera (.slice sa A.slots.length sc) (.slice ga A.guides.length gc) (.slice (some ⟨nb, 0, none⟩) A.nodes.length nc) (.slice (some ⟨rb, 0, none⟩) A.vers.length rc) (onH A h) d tk).toArray) ?_ rfl ⟨_, _, _, _, by rw [hd.out], by rw [hd.out]; exact S3.fin⟩
  exact qz5 Try.results112 _ _ (w.heap.size + 1) 0 rfl (qze A.camera (.slice sa A.slots.length sc) (.slice ga A.guides.length gc) (.slice (some ⟨nb, 0, none⟩) A.nodes.length nc) (.slice (some ⟨rb, 0, none⟩) A.vers.length rc) (onH A h) d tk) _ (S3.out rfl) Try.underlying147 rfl (qz9 _ _ _ _ _ _ _ _)
 have hd : Hid (qz22 A h d clock = (qz4x A h, onH (qz4x A h) h, qz45 (qz4x A h) h)) := by show _ = _; rw [qz22, if_neg e2, if_neg e3, if_neg e4, if_pos e5, hst]; rfl
 rw [hvk] at hst
 go_upto_region 15 with (go_at_call 120; refine (qz1s w0.heap.size A (vk : Int) _ _ _ _ _ _ _ _ _ (Nat.le_refl _) hA' S0.is).mono ?_; rintro e w1 ⟨rfl, b1⟩; rw [hst])
 have S1 := S0.below b1
 clear x0 x1 x2 x3 x4 q0 q10 q11 q12 q13 f0 f11 f12 f13
 have hsA : qz4x A h = { A with vers := A.vers.set vk { A.vers[vk] with stamp := min h.cam A.camera } } := by rw [qz4x, hvk, qz32 A vk hvl]; rfl
 have hAs := qzb1 A h
 have hAk := qzcg hOk hcm hv0 hv1
 have S2 := S1.ver (S0.blk rb (Or.inr (Or.inr (Or.inr rfl)))) vk hvl 2 (by omega) { A.vers[vk] with stamp := min h.cam A.camera } (.int .i64 (min h.cam A.camera)) rfl
 rw [<- hsA] at S2
 have x0 := S1.cell 0 rfl
 have x4 := S1.cell 4 rfl
 have q11 := S1.cell 16 rfl
 have q12 := S1.cell 17 rfl
 rw [hvk] at q11
 obtain ⟨c2, c2f⟩ := qz33 S1.own.rr (vk * 5 + 2) (.int .i64 A.vers[vk].stamp) (by rw [qz1q (sz := 5) (fun _ => rfl) A.vers vk hvl 2 (by omega)]; rfl)
 have hne : ¬ (w.heap.size = rb) := by omega
 have hne' : ¬ (rb = w.heap.size) := by omega
 go_region_held3 (fun w' => w'.cell? ⟨w.heap.size, 0, none⟩ = some (.int .i64 A.camera) /\ w'.cell? ⟨w.heap.size, 4, none⟩ = some (.slice (some ⟨rb, 0, none⟩) A.vers.length rc) /\ w'.cell? ⟨w.heap.size, 16, none⟩ = some (.int .i64 (vk : Int)) /\ w'.cell? ⟨w.heap.size, 17, none⟩ = some (.int .i64 h.cam)) (go_keep) (first | (go_at_call 97; refine (qzr _ _ _).mono ?_; rintro e w' ⟨rfl, hw⟩; obtain rfl := hw.symm))
 have S2' := S2.below ((Below.refl _ _).drew)
 generalize hwv : (w1.setCell ⟨rb, vk * 5 + 2, none⟩ (.int .i64 (min h.cam A.camera))).drew = wv at *
 clear hwv S2 x0 x4 q11 q12 c2 c2f
 have hl : (qz4x A h).vers.length = A.vers.length := by rw [hsA]; simp
 have hDeed : ∀ (wq : World), qz25 wq.heap.size wq (.slice sa A.slots.length sc) (.slice ga A.guides.length gc) (.slice (some ⟨nb, 0, none⟩) A.nodes.length nc) (.slice (some ⟨rb, 0, none⟩) A.vers.length rc) (qz4x A h) -> Calls Try.prog 122 #[.agg #[.int .i64 A.camera, .slice sa A.slots.length sc, .slice ga A.guides.length gc, .slice (some ⟨nb, 0, none⟩) A.nodes.length nc, .slice (some ⟨rb, 0, none⟩) A.vers.length rc], .agg (hdC h).toArray] wq fun e w' => e = .returned (.agg (ddC (qz45 (qz4x A h) h)).toArray) /\ Below wq.heap.size wq w' := by
  intro wq Iq
  have := qza9 wq.heap.size (qz4x A h) h sa ga (some ⟨nb, 0, none⟩) (some ⟨rb, 0, none⟩) sc gc nc rc wq (Nat.le_refl _) (by rw [hAs]; exact hA') (by rw [hl]; exact Iq) x y z u hAk hv0 (by rw [hl]; exact hv1) hx0 hx1
  rw [hl] at this
  exact this
 have hOn : ∀ (wq : World), qz25 wq.heap.size wq (.slice sa A.slots.length sc) (.slice ga A.guides.length gc) (.slice (some ⟨nb, 0, none⟩) A.nodes.length nc) (.slice (some ⟨rb, 0, none⟩) A.vers.length rc) (qz4x A h) -> Calls Try.prog 121 #[.agg #[.int .i64 A.camera, .slice sa A.slots.length sc, .slice ga A.guides.length gc, .slice (some ⟨nb, 0, none⟩) A.nodes.length nc, .slice (some ⟨rb, 0, none⟩) A.vers.length rc], .agg (hdC h).toArray] wq fun e w' => e = .returned (.agg (hdC (onH (qz4x A h) h)).toArray) /\ Below wq.heap.size wq w' := by
  intro wq Iq
  have := qz85 wq.heap.size (qz4x A h) h sa ga (some ⟨nb, 0, none⟩) (some ⟨rb, 0, none⟩) sc gc nc rc wq (Nat.le_refl _) (by rw [hAs]; exact hA') (by rw [hl]; exact Iq) x y z u hAk hv0 (by rw [hl]; exact hv1) hx0 hx1 hcu ho0 ho1 hs0 hs1
  rw [hl] at this
  exact this
 clear hsA
 generalize qz4x A h = As at *
 have x0 := S2'.cell 0 rfl
 have x1 := S2'.cell 1 rfl
 have x2 := S2'.cell 2 rfl
 have x3 := S2'.cell 3 rfl
 have x4 := S2'.cell 4 rfl
 go_upto_region 17 with (first | (refine wpList_load_mid rfl 27 (.tmp 77) rfl w.heap.size 5 ?ax61 (hdC h) _ ?ac61 Try.underlying27 rfl (qz1 h) ?_) | (go_at_call 122; refine (hDeed _ S2'.is).mono ?_; rintro e w3 ⟨rfl, b3⟩; have S3 := S2'.below b3) | (refine wpList_store_mid rfl 144 (.tmp 80) _ rfl w.heap.size 27 (ddC (qz45 As h)).toArray ?bx62 ?by62 ?bt62 (qz74 _) (qz8t _) ?_))
 try (case ax61 => rfl)
 try (case ac61 => exact (qzw S2'.row).2.1)
 try (case bx62 => rfl)
 try (case by62 => rfl)
 try (case bt62 => have T := qz1c S3.th 27 5 (by omega); rw [Nat.zero_add] at T; exact T)
 have S4 := S3.deed (qz45 As h)
 generalize w3.setCells w.heap.size 27 (ddC (qz45 As h)) = w4 at *
 clear x0 x1 x2 x3 x4
 have x0 := S4.cell 0 rfl
 have x1 := S4.cell 1 rfl
 have x2 := S4.cell 2 rfl
 have x3 := S4.cell 3 rfl
 have x4 := S4.cell 4 rfl
 go_upto_region 18 with (first | (refine wpList_load_mid rfl 27 (.tmp 83) rfl w.heap.size 5 ?ax63 (hdC h) _ ?ac63 Try.underlying27 rfl (qz1 h) ?_) | (go_at_call 121; refine (hOn _ S4.is).mono ?_; rintro e w5 ⟨rfl, b5⟩; have S5 := S4.below b5) | (refine wpList_store_mid rfl 27 (.tmp 86) _ rfl w.heap.size 5 (hdC (onH As h)).toArray ?bx64 ?by64 ?bt64 (qza _) (qzf _) ?_))
 try (case ax63 => rfl)
 try (case ac63 => exact (qzw S4.row).2.1)
 try (case bx64 => rfl)
 try (case by64 => rfl)
 try (case bt64 => have T := qz1c S5.th 5 22 (by omega); rw [Nat.zero_add] at T; exact T)
 have S6 := S5.hand (onH As h)
 go_wp2_with (first | (refine wpList_load_mid rfl 147 (.tmp 2) rfl w.heap.size 0 ?cx65 (qze A.camera (.slice sa A.slots.length sc) (.slice ga A.guides.length gc) (.slice (some ⟨nb, 0, none⟩) A.nodes.length nc) (.slice (some ⟨rb, 0, none⟩) A.vers.length rc) (onH As h) (qz45 As h) tk) _ ?cc65 Try.underlying147 rfl (qz9 _ _ _ _ _ _ _ _) ?_) | (refine wpList_store_mid rfl 147 (.tmp 4) _ rfl (w.heap.size + 1) 0 (qze A.camera (.slice sa A.slots.length sc) (.slice ga A.guides.length gc) (.slice (some ⟨nb, 0, none⟩) A.nodes.length nc) (.slice (some ⟨rb, 0, none⟩) A.vers.length rc) (onH As h) (qz45 As h) tk).toArray ?dx65 ?dy65 ?dt65 (qzt _ _ _ _ _ _ _ _) (qz13 _ _ _ _ _ _ _ _ _ _ _ _ _ _ _ _) ?_))
 try (case cx65 => rfl)
 try (case cc65 => exact S6.row)
 try (case dx65 => rfl)
 try (case dy65 => rfl)
 try (case dt65 => exact S6.to)
 refine bodyPost_ret (v := .agg (qze A.camera (.slice sa A.slots.length sc) (.slice ga A.guides.length gc) (.slice (some ⟨nb, 0, none⟩) A.nodes.length nc) (.slice (some ⟨rb, 0, none⟩) A.vers.length rc) (onH As h) (qz45 As h) tk).toArray) ?_ rfl ⟨_, _, _, _, by rw [hd.out], by rw [hd.out]; exact S6.fin⟩
 exact qz5 Try.results112 _ _ (w.heap.size + 1) 0 rfl (qze A.camera (.slice sa A.slots.length sc) (.slice ga A.guides.length gc) (.slice (some ⟨nb, 0, none⟩) A.nodes.length nc) (.slice (some ⟨rb, 0, none⟩) A.vers.length rc) (onH As h) (qz45 As h) tk) _ (S6.out rfl) Try.underlying147 rfl (qz9 _ _ _ _ _ _ _ _)
end
section
attribute [local go_sem ↓] Go.wp_at_zero Go.wp_at_succ
def qzo (A : Ar) (h : Hd) (me : Int) (tk : Bool) : Ar × Hd × Bool :=
 if h.at_ = 13 then (A, { h with least := A.camera, at_ := 14 }, tk)
 else if h.at_ = 14 then ({ A with slots := A.slots.set me.toNat h.least }, { h with at_ := 15 }, tk)
 else if h.at_ = 15 then (if A.camera = 100 then (A, { h with cam := A.camera, at_ := 17 }, tk) else (A, { h with cam := A.camera, at_ := 16 }, tk))
 else if h.at_ = 16 then (if A.camera = h.cam /\ h.cam < 100 then ({ A with camera := A.camera + 1 }, qzb { h with held := h.cam } 4 h.cam 0, true) else (A, qzb { h with held := h.cam } 4 h.cam 0, tk))
 else if h.at_ = 17 then ({ A with slots := A.slots.set me.toNat (-1) }, qzb h 6 0 0, tk)
 else if h.at_ = 18 then ({ A with slots := A.slots.set me.toNat (-1) }, qzb { h with held := -1 } 4 0 0, tk)
 else (A, h, tk)
theorem qz6z (base : Nat) (A : Ar) (h : Hd) (d : Dd) (tk : Bool) (me : Int) (s g n r : Value) (w : World) (hbase : base <= w.heap.size) (hA : A.size <= 1048576) (O : qz38 base w s g n r A) (hm0 : 0 <= me) (hm1 : me < (A.slots.length : Int)) (hc0 : 0 <= A.camera) (hc1 : A.camera <= 100) :
  Calls Try.prog 114 #[.agg (qze A.camera s g n r h d tk).toArray, .int .i64 me] w fun e w' => ∃ s' g' n' r', e = .returned (.agg (qze (qzo A h me tk).1.camera s' g' n' r' (qzo A h me tk).2.1 d (qzo A h me tk).2.2).toArray) /\ qz2b base w w' s g n r s' g' n' r' (qzo A h me tk).1 := by
 unfold Ar.size at hA
 obtain ⟨sb, sc, rfl⟩ := qz19 O.rs (by omega)
 obtain ⟨ga, gc, rfl⟩ := qzk O.rg
 obtain ⟨na, nc, rfl⟩ := qzk O.rn
 obtain ⟨ra, rc, rfl⟩ := qzk O.rr
 have S0 := qz7y base w (.slice (some ⟨sb, 0, none⟩) A.slots.length sc) (.slice ga A.guides.length gc) (.slice na A.nodes.length nc) (.slice ra A.vers.length rc) A (qze A.camera (.slice (some ⟨sb, 0, none⟩) A.slots.length sc) (.slice ga A.guides.length gc) (.slice na A.nodes.length nc) (.slice ra A.vers.length rc) h d tk) [.int .i64 0, .slice none 0 0, .slice none 0 0, .slice none 0 0, .slice none 0 0, .int .i64 0, .int .i64 0, .int .i64 0, .int .i64 0, .int .i64 0, .int .i64 0, .int .i64 0, .int .i64 0, .int .i64 0, .int .i64 0, .int .i64 0, .int .i64 0, .int .i64 0, .int .i64 0, .int .i64 0, .int .i64 0, .int .i64 0, .int .i64 0, .int .i64 0, .int .i64 0, .int .i64 0, .int .i64 0, .int .i64 0, .int .i64 0, .int .i64 0, .int .i64 0, .int .i64 0, .bool false] 147 O rfl rfl
 have hsb := qz2m O.rs (j := sb) rfl
 obtain ⟨mk, rfl⟩ : ∃ k : Nat, me = k := ⟨me.toNat, by omega⟩
 have hml : mk < A.slots.length := by omega
 go_enter Try.func114, Try.ntmps114
 have tok : True := trivial
 go_wp2_with (clear tok; refine qz2e ((w.alloc (.cells (qze A.camera (.slice (some ⟨sb, 0, none⟩) A.slots.length sc) (.slice ga A.guides.length gc) (.slice na A.nodes.length nc) (.slice ra A.vers.length rc) h d tk).toArray 147)).alloc (.cells #[.int .i64 0, .slice none 0 0, .slice none 0 0, .slice none 0 0, .slice none 0 0, .int .i64 0, .int .i64 0, .int .i64 0, .int .i64 0, .int .i64 0, .int .i64 0, .int .i64 0, .int .i64 0, .int .i64 0, .int .i64 0, .int .i64 0, .int .i64 0, .int .i64 0, .int .i64 0, .int .i64 0, .int .i64 0, .int .i64 0, .int .i64 0, .int .i64 0, .int .i64 0, .int .i64 0, .int .i64 0, .int .i64 0, .int .i64 0, .int .i64 0, .int .i64 0, .int .i64 0, .bool false] 147)) ?_)
 generalize hw0 : (w.alloc (.cells (qze A.camera (.slice (some ⟨sb, 0, none⟩) A.slots.length sc) (.slice ga A.guides.length gc) (.slice na A.nodes.length nc) (.slice ra A.vers.length rc) h d tk).toArray 147)).alloc (.cells #[.int .i64 0, .slice none 0 0, .slice none 0 0, .slice none 0 0, .slice none 0 0, .int .i64 0, .int .i64 0, .int .i64 0, .int .i64 0, .int .i64 0, .int .i64 0, .int .i64 0, .int .i64 0, .int .i64 0, .int .i64 0, .int .i64 0, .int .i64 0, .int .i64 0, .int .i64 0, .int .i64 0, .int .i64 0, .int .i64 0, .int .i64 0, .int .i64 0, .int .i64 0, .int .i64 0, .int .i64 0, .int .i64 0, .int .i64 0, .int .i64 0, .int .i64 0, .int .i64 0, .bool false] 147) = w0 at *
 clear hw0
 show wpList _ _ _ _ _ w0
 have x0 := S0.cell 0 rfl
 have x1 := S0.cell 1 rfl
 have q0 := S0.cell 5 rfl
 have q9 := S0.cell 14 rfl
 have q12 := S0.cell 17 rfl
 have q19 := S0.cell 24 rfl
 have q32 := S0.cell 32 rfl
 have f0 := S0.free 0 (by decide)
 have f5 := S0.free 5 (by decide)
 have f14 := S0.free 14 (by decide)
 have f17 := S0.free 17 (by decide)
 have f24 := S0.free 24 (by decide)
 have f32 := S0.free 32 (by decide)
 obtain ⟨cs, csf⟩ := qz33 S0.own.rs mk (.int .i64 A.slots[mk]) (by have := qz1q (f := intC) (sz := 1) (fun _ => rfl) A.slots mk hml 0 (by omega); rw [Nat.mul_one, Nat.add_zero] at this; rw [this]; rfl)
 have hne : ¬ (w.heap.size = sb) := by omega
 have hne' : ¬ (sb = w.heap.size) := by omega
 by_cases e13 : h.at_ = 13
 case pos =>
  have hd : Hid (qzo A h mk tk = (A, { h with least := A.camera, at_ := 14 }, tk)) := by show _ = _; rw [qzo, if_pos e13]
  rw [e13] at q0
  go_upto_region 26 with fail
  have S1 : Stp base w _ w.heap.size (w.heap.size + 1) (.slice (some ⟨sb, 0, none⟩) A.slots.length sc) (.slice ga A.guides.length gc) (.slice na A.nodes.length nc) (.slice ra A.vers.length rc) (.slice (some ⟨sb, 0, none⟩) A.slots.length sc) (.slice ga A.guides.length gc) (.slice na A.nodes.length nc) (.slice ra A.vers.length rc) A (qze A.camera (.slice (some ⟨sb, 0, none⟩) A.slots.length sc) (.slice ga A.guides.length gc) (.slice na A.nodes.length nc) (.slice ra A.vers.length rc) { h with least := A.camera, at_ := 14 } d tk) := ((S0.put 24 (by simp [qze, hdC, ddC]) (.int .i64 A.camera)).put 5 (by simp [qze, hdC, ddC]) (.int .i64 14))
  go_wp2_with (first | (refine wpList_load_mid rfl 147 (.tmp 2) rfl w.heap.size 0 ?cx13 (qze A.camera (.slice (some ⟨sb, 0, none⟩) A.slots.length sc) (.slice ga A.guides.length gc) (.slice na A.nodes.length nc) (.slice ra A.vers.length rc) { h with least := A.camera, at_ := 14 } d tk) _ ?cc13 Try.underlying147 rfl (qz9 _ _ _ _ _ _ _ _) ?_) | (refine wpList_store_mid rfl 147 (.tmp 4) _ rfl (w.heap.size + 1) 0 (qze A.camera (.slice (some ⟨sb, 0, none⟩) A.slots.length sc) (.slice ga A.guides.length gc) (.slice na A.nodes.length nc) (.slice ra A.vers.length rc) { h with least := A.camera, at_ := 14 } d tk).toArray ?dx13 ?dy13 ?dt13 (qzt _ _ _ _ _ _ _ _) (qz13 _ _ _ _ _ _ _ _ _ _ _ _ _ _ _ _) ?_))
  try (case cx13 => rfl)
  try (case cc13 => exact S1.row)
  try (case dx13 => rfl)
  try (case dy13 => rfl)
  try (case dt13 => exact S1.to)
  refine bodyPost_ret (v := .agg (qze A.camera (.slice (some ⟨sb, 0, none⟩) A.slots.length sc) (.slice ga A.guides.length gc) (.slice na A.nodes.length nc) (.slice ra A.vers.length rc) { h with least := A.camera, at_ := 14 } d tk).toArray) ?_ rfl ⟨_, _, _, _, by rw [hd.out], by rw [hd.out]; exact S1.fin⟩
  exact qz5 Try.results114 _ _ (w.heap.size + 1) 0 rfl (qze A.camera (.slice (some ⟨sb, 0, none⟩) A.slots.length sc) (.slice ga A.guides.length gc) (.slice na A.nodes.length nc) (.slice ra A.vers.length rc) { h with least := A.camera, at_ := 14 } d tk) _ (S1.out rfl) Try.underlying147 rfl (qz9 _ _ _ _ _ _ _ _)
 by_cases e14 : h.at_ = 14
 case pos =>
  have hd : Hid (qzo A h mk tk = ({ A with slots := A.slots.set mk h.least }, { h with at_ := 15 }, tk)) := by show _ = _; rw [qzo, if_neg e13, if_pos e14]; rfl
  rw [e14] at q0
  go_upto_region 26 with fail
  have S1 : Stp base w _ w.heap.size (w.heap.size + 1) (.slice (some ⟨sb, 0, none⟩) A.slots.length sc) (.slice ga A.guides.length gc) (.slice na A.nodes.length nc) (.slice ra A.vers.length rc) (.slice (some ⟨sb, 0, none⟩) A.slots.length sc) (.slice ga A.guides.length gc) (.slice na A.nodes.length nc) (.slice ra A.vers.length rc) { A with slots := A.slots.set mk h.least } (qze A.camera (.slice (some ⟨sb, 0, none⟩) A.slots.length sc) (.slice ga A.guides.length gc) (.slice na A.nodes.length nc) (.slice ra A.vers.length rc) { h with at_ := 15 } d tk) := ((S0.slot mk hml h.least).put 5 (by simp [qze, hdC, ddC]) (.int .i64 15))
  go_wp2_with (first | (refine wpList_load_mid rfl 147 (.tmp 2) rfl w.heap.size 0 ?cx14 (qze A.camera (.slice (some ⟨sb, 0, none⟩) A.slots.length sc) (.slice ga A.guides.length gc) (.slice na A.nodes.length nc) (.slice ra A.vers.length rc) { h with at_ := 15 } d tk) _ ?cc14 Try.underlying147 rfl (qz9 _ _ _ _ _ _ _ _) ?_) | (refine wpList_store_mid rfl 147 (.tmp 4) _ rfl (w.heap.size + 1) 0 (qze A.camera (.slice (some ⟨sb, 0, none⟩) A.slots.length sc) (.slice ga A.guides.length gc) (.slice na A.nodes.length nc) (.slice ra A.vers.length rc) { h with at_ := 15 } d tk).toArray ?dx14 ?dy14 ?dt14 (qzt _ _ _ _ _ _ _ _) (qz13 _ _ _ _ _ _ _ _ _ _ _ _ _ _ _ _) ?_))
  try (case cx14 => rfl)
  try (case cc14 => exact S1.row)
  try (case dx14 => rfl)
  try (case dy14 => rfl)
  try (case dt14 => exact S1.to)
  refine bodyPost_ret (v := .agg (qze A.camera (.slice (some ⟨sb, 0, none⟩) A.slots.length sc) (.slice ga A.guides.length gc) (.slice na A.nodes.length nc) (.slice ra A.vers.length rc) { h with at_ := 15 } d tk).toArray) ?_ rfl ⟨_, _, _, _, by rw [hd.out], by rw [hd.out]; exact S1.fin⟩
  exact qz5 Try.results114 _ _ (w.heap.size + 1) 0 rfl (qze A.camera (.slice (some ⟨sb, 0, none⟩) A.slots.length sc) (.slice ga A.guides.length gc) (.slice na A.nodes.length nc) (.slice ra A.vers.length rc) { h with at_ := 15 } d tk) _ (S1.out rfl) Try.underlying147 rfl (qz9 _ _ _ _ _ _ _ _)
 by_cases e15 : h.at_ = 15
 case pos =>
  rw [e15] at q0
  by_cases hcam : A.camera = 100
  case pos =>
   have hd : Hid (qzo A h mk tk = (A, { h with cam := A.camera, at_ := 17 }, tk)) := by show _ = _; rw [qzo, if_neg e13, if_neg e14, if_pos e15, if_pos hcam]
   have hcb : (A.camera == 100) = true := by simp [hcam]
   have hcH : Hid (A.camera = 100) := hcam
   clear hcam
   go_upto_region 26 with fail
   have S1 : Stp base w _ w.heap.size (w.heap.size + 1) (.slice (some ⟨sb, 0, none⟩) A.slots.length sc) (.slice ga A.guides.length gc) (.slice na A.nodes.length nc) (.slice ra A.vers.length rc) (.slice (some ⟨sb, 0, none⟩) A.slots.length sc) (.slice ga A.guides.length gc) (.slice na A.nodes.length nc) (.slice ra A.vers.length rc) A (qze A.camera (.slice (some ⟨sb, 0, none⟩) A.slots.length sc) (.slice ga A.guides.length gc) (.slice na A.nodes.length nc) (.slice ra A.vers.length rc) { h with cam := A.camera, at_ := 17 } d tk) := (((S0.put 17 (by simp [qze, hdC, ddC]) (.int .i64 A.camera)).put 5 (by simp [qze, hdC, ddC]) (.int .i64 16)).put 5 (by simp [qze, hdC, ddC]) (.int .i64 17))
   go_wp2_with (first | (refine wpList_load_mid rfl 147 (.tmp 2) rfl w.heap.size 0 ?cx151 (qze A.camera (.slice (some ⟨sb, 0, none⟩) A.slots.length sc) (.slice ga A.guides.length gc) (.slice na A.nodes.length nc) (.slice ra A.vers.length rc) { h with cam := A.camera, at_ := 17 } d tk) _ ?cc151 Try.underlying147 rfl (qz9 _ _ _ _ _ _ _ _) ?_) | (refine wpList_store_mid rfl 147 (.tmp 4) _ rfl (w.heap.size + 1) 0 (qze A.camera (.slice (some ⟨sb, 0, none⟩) A.slots.length sc) (.slice ga A.guides.length gc) (.slice na A.nodes.length nc) (.slice ra A.vers.length rc) { h with cam := A.camera, at_ := 17 } d tk).toArray ?dx151 ?dy151 ?dt151 (qzt _ _ _ _ _ _ _ _) (qz13 _ _ _ _ _ _ _ _ _ _ _ _ _ _ _ _) ?_))
   try (case cx151 => rfl)
   try (case cc151 => exact S1.row)
   try (case dx151 => rfl)
   try (case dy151 => rfl)
   try (case dt151 => exact S1.to)
   refine bodyPost_ret (v := .agg (qze A.camera (.slice (some ⟨sb, 0, none⟩) A.slots.length sc) (.slice ga A.guides.length gc) (.slice na A.nodes.length nc) (.slice ra A.vers.length rc) { h with cam := A.camera, at_ := 17 } d tk).toArray) ?_ rfl ⟨_, _, _, _, by rw [hd.out], by rw [hd.out]; exact S1.fin⟩
   exact qz5 Try.results114 _ _ (w.heap.size + 1) 0 rfl (qze A.camera (.slice (some ⟨sb, 0, none⟩) A.slots.length sc) (.slice ga A.guides.length gc) (.slice na A.nodes.length nc) (.slice ra A.vers.length rc) { h with cam := A.camera, at_ := 17 } d tk) _ (S1.out rfl) Try.underlying147 rfl (qz9 _ _ _ _ _ _ _ _)
  have hd : Hid (qzo A h mk tk = (A, { h with cam := A.camera, at_ := 16 }, tk)) := by show _ = _; rw [qzo, if_neg e13, if_neg e14, if_pos e15, if_neg hcam]
  have hcb : (A.camera == 100) = false := by simp [hcam]
  go_upto_region 26 with fail
  have S1 : Stp base w _ w.heap.size (w.heap.size + 1) (.slice (some ⟨sb, 0, none⟩) A.slots.length sc) (.slice ga A.guides.length gc) (.slice na A.nodes.length nc) (.slice ra A.vers.length rc) (.slice (some ⟨sb, 0, none⟩) A.slots.length sc) (.slice ga A.guides.length gc) (.slice na A.nodes.length nc) (.slice ra A.vers.length rc) A (qze A.camera (.slice (some ⟨sb, 0, none⟩) A.slots.length sc) (.slice ga A.guides.length gc) (.slice na A.nodes.length nc) (.slice ra A.vers.length rc) { h with cam := A.camera, at_ := 16 } d tk) := ((S0.put 17 (by simp [qze, hdC, ddC]) (.int .i64 A.camera)).put 5 (by simp [qze, hdC, ddC]) (.int .i64 16))
  go_wp2_with (first | (refine wpList_load_mid rfl 147 (.tmp 2) rfl w.heap.size 0 ?cx152 (qze A.camera (.slice (some ⟨sb, 0, none⟩) A.slots.length sc) (.slice ga A.guides.length gc) (.slice na A.nodes.length nc) (.slice ra A.vers.length rc) { h with cam := A.camera, at_ := 16 } d tk) _ ?cc152 Try.underlying147 rfl (qz9 _ _ _ _ _ _ _ _) ?_) | (refine wpList_store_mid rfl 147 (.tmp 4) _ rfl (w.heap.size + 1) 0 (qze A.camera (.slice (some ⟨sb, 0, none⟩) A.slots.length sc) (.slice ga A.guides.length gc) (.slice na A.nodes.length nc) (.slice ra A.vers.length rc) { h with cam := A.camera, at_ := 16 } d tk).toArray ?dx152 ?dy152 ?dt152 (qzt _ _ _ _ _ _ _ _) (qz13 _ _ _ _ _ _ _ _ _ _ _ _ _ _ _ _) ?_))
  try (case cx152 => rfl)
  try (case cc152 => exact S1.row)
  try (case dx152 => rfl)
  try (case dy152 => rfl)
  try (case dt152 => exact S1.to)
  refine bodyPost_ret (v := .agg (qze A.camera (.slice (some ⟨sb, 0, none⟩) A.slots.length sc) (.slice ga A.guides.length gc) (.slice na A.nodes.length nc) (.slice ra A.vers.length rc) { h with cam := A.camera, at_ := 16 } d tk).toArray) ?_ rfl ⟨_, _, _, _, by rw [hd.out], by rw [hd.out]; exact S1.fin⟩
  exact qz5 Try.results114 _ _ (w.heap.size + 1) 0 rfl (qze A.camera (.slice (some ⟨sb, 0, none⟩) A.slots.length sc) (.slice ga A.guides.length gc) (.slice na A.nodes.length nc) (.slice ra A.vers.length rc) { h with cam := A.camera, at_ := 16 } d tk) _ (S1.out rfl) Try.underlying147 rfl (qz9 _ _ _ _ _ _ _ _)
 by_cases e17 : h.at_ = 17
 case pos =>
  have e16 : ¬ (h.at_ = 16) := by omega
  have hd : Hid (qzo A h mk tk = ({ A with slots := A.slots.set mk (-1) }, qzb h 6 0 0, tk)) := by show _ = _; rw [qzo, if_neg e13, if_neg e14, if_neg e15, if_neg e16, if_pos e17]; rfl
  rw [e17] at q0
  have S1 := S0.slot mk hml (-1)
  go_upto_region 26 with (first | (refine wpList_load_mid rfl 27 (.tmp 85) rfl w.heap.size 5 ?ax17 (hdC h) _ ?ac17 Try.underlying27 rfl (qz1 h) ?_) | (go_at_call 119; refine (qzv h 6 0 0 _).mono ?_; rintro e w17q ⟨rfl, b17q⟩; have S2 := S1.below b17q) | (refine wpList_store_mid rfl 27 (.tmp 88) _ rfl w.heap.size 5 (hdC (qzb h 6 0 0)).toArray ?bx17 ?by17 ?bt17 (qza _) (qzf _) ?_))
  try (case ax17 => rfl)
  try (case ac17 => exact (qzw S1.row).2.1)
  try (case bx17 => rfl)
  try (case by17 => rfl)
  try (case bt17 => have T := qz1c S2.th 5 22 (by omega); rw [Nat.zero_add] at T; exact T)
  have S9 := S2.hand (qzb h 6 0 0)
  go_wp2_with (first | (refine wpList_load_mid rfl 147 (.tmp 2) rfl w.heap.size 0 ?cx171 (qze A.camera (.slice (some ⟨sb, 0, none⟩) A.slots.length sc) (.slice ga A.guides.length gc) (.slice na A.nodes.length nc) (.slice ra A.vers.length rc) (qzb h 6 0 0) d tk) _ ?cc171 Try.underlying147 rfl (qz9 _ _ _ _ _ _ _ _) ?_) | (refine wpList_store_mid rfl 147 (.tmp 4) _ rfl (w.heap.size + 1) 0 (qze A.camera (.slice (some ⟨sb, 0, none⟩) A.slots.length sc) (.slice ga A.guides.length gc) (.slice na A.nodes.length nc) (.slice ra A.vers.length rc) (qzb h 6 0 0) d tk).toArray ?dx171 ?dy171 ?dt171 (qzt _ _ _ _ _ _ _ _) (qz13 _ _ _ _ _ _ _ _ _ _ _ _ _ _ _ _) ?_))
  try (case cx171 => rfl)
  try (case cc171 => exact S9.row)
  try (case dx171 => rfl)
  try (case dy171 => rfl)
  try (case dt171 => exact S9.to)
  refine bodyPost_ret (v := .agg (qze A.camera (.slice (some ⟨sb, 0, none⟩) A.slots.length sc) (.slice ga A.guides.length gc) (.slice na A.nodes.length nc) (.slice ra A.vers.length rc) (qzb h 6 0 0) d tk).toArray) ?_ rfl ⟨_, _, _, _, by rw [hd.out], by rw [hd.out]; exact S9.fin⟩
  exact qz5 Try.results114 _ _ (w.heap.size + 1) 0 rfl (qze A.camera (.slice (some ⟨sb, 0, none⟩) A.slots.length sc) (.slice ga A.guides.length gc) (.slice na A.nodes.length nc) (.slice ra A.vers.length rc) (qzb h 6 0 0) d tk) _ (S9.out rfl) Try.underlying147 rfl (qz9 _ _ _ _ _ _ _ _)
 by_cases e18 : h.at_ = 18
 case pos =>
  have e16 : ¬ (h.at_ = 16) := by omega
  obtain ⟨H', hH⟩ : ∃ H' : Hd, Hid (H' = { h with held := -1 }) := by exact ⟨_, rfl⟩
  have hd : Hid (qzo A h mk tk = ({ A with slots := A.slots.set mk (-1) }, qzb H' 4 0 0, tk)) := by show _ = _; rw [qzo, if_neg e13, if_neg e14, if_neg e15, if_neg e16, if_neg e17, if_pos e18, hH.out]; rfl
  rw [e18] at q0
  have S1 : Stp base w _ w.heap.size (w.heap.size + 1) (.slice (some ⟨sb, 0, none⟩) A.slots.length sc) (.slice ga A.guides.length gc) (.slice na A.nodes.length nc) (.slice ra A.vers.length rc) (.slice (some ⟨sb, 0, none⟩) A.slots.length sc) (.slice ga A.guides.length gc) (.slice na A.nodes.length nc) (.slice ra A.vers.length rc) { A with slots := A.slots.set mk (-1) } (qze A.camera (.slice (some ⟨sb, 0, none⟩) A.slots.length sc) (.slice ga A.guides.length gc) (.slice na A.nodes.length nc) (.slice ra A.vers.length rc) { h with held := -1 } d tk) := ((S0.slot mk hml (-1)).put 14 (by simp [qze, hdC, ddC]) (.int .i64 (-1)))
  rw [<- hH.out] at S1
  go_upto_region 26 with (first | (refine wpList_load_mid rfl 27 (.tmp 98) rfl w.heap.size 5 ?ax18 (hdC H') _ ?ac18 Try.underlying27 rfl (qz1 H') ?_) | (go_at_call 119; refine (qzv H' 4 0 0 _).mono ?_; rintro e w18q ⟨rfl, b18q⟩; have S2 := S1.below b18q) | (refine wpList_store_mid rfl 27 (.tmp 101) _ rfl w.heap.size 5 (hdC (qzb H' 4 0 0)).toArray ?bx18 ?by18 ?bt18 (qza _) (qzf _) ?_))
  try (case ax18 => rfl)
  try (case ac18 => exact (qzw S1.row).2.1)
  try (case bx18 => rfl)
  try (case by18 => rfl)
  try (case bt18 => have T := qz1c S2.th 5 22 (by omega); rw [Nat.zero_add] at T; exact T)
  have S9 := S2.hand (qzb H' 4 0 0)
  go_wp2_with (first | (refine wpList_load_mid rfl 147 (.tmp 2) rfl w.heap.size 0 ?cx181 (qze A.camera (.slice (some ⟨sb, 0, none⟩) A.slots.length sc) (.slice ga A.guides.length gc) (.slice na A.nodes.length nc) (.slice ra A.vers.length rc) (qzb H' 4 0 0) d tk) _ ?cc181 Try.underlying147 rfl (qz9 _ _ _ _ _ _ _ _) ?_) | (refine wpList_store_mid rfl 147 (.tmp 4) _ rfl (w.heap.size + 1) 0 (qze A.camera (.slice (some ⟨sb, 0, none⟩) A.slots.length sc) (.slice ga A.guides.length gc) (.slice na A.nodes.length nc) (.slice ra A.vers.length rc) (qzb H' 4 0 0) d tk).toArray ?dx181 ?dy181 ?dt181 (qzt _ _ _ _ _ _ _ _) (qz13 _ _ _ _ _ _ _ _ _ _ _ _ _ _ _ _) ?_))
  try (case cx181 => rfl)
  try (case cc181 => exact S9.row)
  try (case dx181 => rfl)
  try (case dy181 => rfl)
  try (case dt181 => exact S9.to)
  refine bodyPost_ret (v := .agg (qze A.camera (.slice (some ⟨sb, 0, none⟩) A.slots.length sc) (.slice ga A.guides.length gc) (.slice na A.nodes.length nc) (.slice ra A.vers.length rc) (qzb H' 4 0 0) d tk).toArray) ?_ rfl ⟨_, _, _, _, by rw [hd.out], by rw [hd.out]; exact S9.fin⟩
  exact qz5 Try.results114 _ _ (w.heap.size + 1) 0 rfl (qze A.camera (.slice (some ⟨sb, 0, none⟩) A.slots.length sc) (.slice ga A.guides.length gc) (.slice na A.nodes.length nc) (.slice ra A.vers.length rc) (qzb H' 4 0 0) d tk) _ (S9.out rfl) Try.underlying147 rfl (qz9 _ _ _ _ _ _ _ _)
 by_cases e16 : h.at_ = 16
 case neg =>
  have hd : Hid (qzo A h mk tk = (A, h, tk)) := by show _ = _; rw [qzo, if_neg e13, if_neg e14, if_neg e15, if_neg e16, if_neg e17, if_neg e18]
  go_upto_region 26 with fail
  go_wp2_with (first | (refine wpList_load_mid rfl 147 (.tmp 2) rfl w.heap.size 0 ?cx19 (qze A.camera (.slice (some ⟨sb, 0, none⟩) A.slots.length sc) (.slice ga A.guides.length gc) (.slice na A.nodes.length nc) (.slice ra A.vers.length rc) h d tk) _ ?cc19 Try.underlying147 rfl (qz9 _ _ _ _ _ _ _ _) ?_) | (refine wpList_store_mid rfl 147 (.tmp 4) _ rfl (w.heap.size + 1) 0 (qze A.camera (.slice (some ⟨sb, 0, none⟩) A.slots.length sc) (.slice ga A.guides.length gc) (.slice na A.nodes.length nc) (.slice ra A.vers.length rc) h d tk).toArray ?dx19 ?dy19 ?dt19 (qzt _ _ _ _ _ _ _ _) (qz13 _ _ _ _ _ _ _ _ _ _ _ _ _ _ _ _) ?_))
  try (case cx19 => rfl)
  try (case cc19 => exact S0.row)
  try (case dx19 => rfl)
  try (case dy19 => rfl)
  try (case dt19 => exact S0.to)
  refine bodyPost_ret (v := .agg (qze A.camera (.slice (some ⟨sb, 0, none⟩) A.slots.length sc) (.slice ga A.guides.length gc) (.slice na A.nodes.length nc) (.slice ra A.vers.length rc) h d tk).toArray) ?_ rfl ⟨_, _, _, _, by rw [hd.out], by rw [hd.out]; exact S0.fin⟩
  exact qz5 Try.results114 _ _ (w.heap.size + 1) 0 rfl (qze A.camera (.slice (some ⟨sb, 0, none⟩) A.slots.length sc) (.slice ga A.guides.length gc) (.slice na A.nodes.length nc) (.slice ra A.vers.length rc) h d tk) _ (S0.out rfl) Try.underlying147 rfl (qz9 _ _ _ _ _ _ _ _)
 rw [e16] at q0
 obtain ⟨H', hH⟩ : ∃ H' : Hd, Hid (H' = { h with held := h.cam }) := by exact ⟨_, rfl⟩
 have hHc : H'.cam = h.cam := by rw [hH.out]
 by_cases htick : A.camera = h.cam /\ h.cam < 100
 case pos =>
  have hd : Hid (qzo A h mk tk = ({ A with camera := A.camera + 1 }, qzb H' 4 h.cam 0, true)) := by show _ = _; rw [qzo, if_neg e13, if_neg e14, if_neg e15, if_pos e16, if_pos htick, hH.out]
  have t1 : (A.camera == h.cam) = true := by simp [htick.1]
  have t2 : h.cam < 100 := htick.2
  have v1 : -9223372036854775808 <= A.camera + 1 := by omega
  have v2 : A.camera + 1 <= 9223372036854775807 := by omega
  clear htick
  go_upto_region 18 with fail
  have S1 : Stp base w _ w.heap.size (w.heap.size + 1) (.slice (some ⟨sb, 0, none⟩) A.slots.length sc) (.slice ga A.guides.length gc) (.slice na A.nodes.length nc) (.slice ra A.vers.length rc) (.slice (some ⟨sb, 0, none⟩) A.slots.length sc) (.slice ga A.guides.length gc) (.slice na A.nodes.length nc) (.slice ra A.vers.length rc) { A with camera := A.camera + 1 } (qze (A.camera + 1) (.slice (some ⟨sb, 0, none⟩) A.slots.length sc) (.slice ga A.guides.length gc) (.slice na A.nodes.length nc) (.slice ra A.vers.length rc) { h with held := h.cam } d true) := ((((S0.cam (A.camera + 1)).put 0 (by simp [qze, hdC, ddC]) (.int .i64 (A.camera + 1))).put 32 (by simp [qze, hdC, ddC]) (.bool true)).put 14 (by simp [qze, hdC, ddC]) (.int .i64 h.cam))
  rw [<- hH.out] at S1
  have y12 := S1.cell 17 rfl
  rw [hHc] at y12
  go_upto_region 26 with (first | (refine wpList_load_mid rfl 27 (.tmp 71) rfl w.heap.size 5 ?ax161 (hdC H') _ ?ac161 Try.underlying27 rfl (qz1 H') ?_) | (go_at_call 119; refine (qzv H' 4 h.cam 0 _).mono ?_; rintro e w161q ⟨rfl, b161q⟩; have S2 := S1.below b161q) | (refine wpList_store_mid rfl 27 (.tmp 77) _ rfl w.heap.size 5 (hdC (qzb H' 4 h.cam 0)).toArray ?bx161 ?by161 ?bt161 (qza _) (qzf _) ?_))
  try (case ax161 => rfl)
  try (case ac161 => exact (qzw S1.row).2.1)
  try (case bx161 => rfl)
  try (case by161 => rfl)
  try (case bt161 => have T := qz1c S2.th 5 22 (by omega); rw [Nat.zero_add] at T; exact T)
  have S9 := S2.hand (qzb H' 4 h.cam 0)
  go_wp2_with (first | (refine wpList_load_mid rfl 147 (.tmp 2) rfl w.heap.size 0 ?cx162 (qze (A.camera + 1) (.slice (some ⟨sb, 0, none⟩) A.slots.length sc) (.slice ga A.guides.length gc) (.slice na A.nodes.length nc) (.slice ra A.vers.length rc) (qzb H' 4 h.cam 0) d true) _ ?cc162 Try.underlying147 rfl (qz9 _ _ _ _ _ _ _ _) ?_) | (refine wpList_store_mid rfl 147 (.tmp 4) _ rfl (w.heap.size + 1) 0 (qze (A.camera + 1) (.slice (some ⟨sb, 0, none⟩) A.slots.length sc) (.slice ga A.guides.length gc) (.slice na A.nodes.length nc) (.slice ra A.vers.length rc) (qzb H' 4 h.cam 0) d true).toArray ?dx162 ?dy162 ?dt162 (qzt _ _ _ _ _ _ _ _) (qz13 _ _ _ _ _ _ _ _ _ _ _ _ _ _ _ _) ?_))
  try (case cx162 => rfl)
  try (case cc162 => exact S9.row)
  try (case dx162 => rfl)
  try (case dy162 => rfl)
  try (case dt162 => exact S9.to)
  refine bodyPost_ret (v := .agg (qze (A.camera + 1) (.slice (some ⟨sb, 0, none⟩) A.slots.length sc) (.slice ga A.guides.length gc) (.slice na A.nodes.length nc) (.slice ra A.vers.length rc) (qzb H' 4 h.cam 0) d true).toArray) ?_ rfl ⟨_, _, _, _, by rw [hd.out], by rw [hd.out]; exact S9.fin⟩
  exact qz5 Try.results114 _ _ (w.heap.size + 1) 0 rfl (qze (A.camera + 1) (.slice (some ⟨sb, 0, none⟩) A.slots.length sc) (.slice ga A.guides.length gc) (.slice na A.nodes.length nc) (.slice ra A.vers.length rc) (qzb H' 4 h.cam 0) d true) _ (S9.out rfl) Try.underlying147 rfl (qz9 _ _ _ _ _ _ _ _)
 have hd : Hid (qzo A h mk tk = (A, qzb H' 4 h.cam 0, tk)) := by show _ = _; rw [qzo, if_neg e13, if_neg e14, if_neg e15, if_pos e16, if_neg htick, hH.out]
 have S1 : Stp base w _ w.heap.size (w.heap.size + 1) (.slice (some ⟨sb, 0, none⟩) A.slots.length sc) (.slice ga A.guides.length gc) (.slice na A.nodes.length nc) (.slice ra A.vers.length rc) (.slice (some ⟨sb, 0, none⟩) A.slots.length sc) (.slice ga A.guides.length gc) (.slice na A.nodes.length nc) (.slice ra A.vers.length rc) A (qze A.camera (.slice (some ⟨sb, 0, none⟩) A.slots.length sc) (.slice ga A.guides.length gc) (.slice na A.nodes.length nc) (.slice ra A.vers.length rc) { h with held := h.cam } d tk) := (S0.put 14 (by simp [qze, hdC, ddC]) (.int .i64 h.cam))
 rw [<- hH.out] at S1
 by_cases t1 : A.camera = h.cam
 case pos =>
  have t1b : (A.camera == h.cam) = true := by simp [t1]
  have t2 : ¬ (h.cam < 100) := fun hq => htick ⟨t1, hq⟩
  have t1H : Hid (A.camera = h.cam) := t1
  clear t1 htick
  go_upto_region 18 with fail
  have y12 := S1.cell 17 rfl
  rw [hHc] at y12
  go_upto_region 26 with (first | (refine wpList_load_mid rfl 27 (.tmp 71) rfl w.heap.size 5 ?ax163 (hdC H') _ ?ac163 Try.underlying27 rfl (qz1 H') ?_) | (go_at_call 119; refine (qzv H' 4 h.cam 0 _).mono ?_; rintro e w163q ⟨rfl, b163q⟩; have S2 := S1.below b163q) | (refine wpList_store_mid rfl 27 (.tmp 77) _ rfl w.heap.size 5 (hdC (qzb H' 4 h.cam 0)).toArray ?bx163 ?by163 ?bt163 (qza _) (qzf _) ?_))
  try (case ax163 => rfl)
  try (case ac163 => exact (qzw S1.row).2.1)
  try (case bx163 => rfl)
  try (case by163 => rfl)
  try (case bt163 => have T := qz1c S2.th 5 22 (by omega); rw [Nat.zero_add] at T; exact T)
  have S9 := S2.hand (qzb H' 4 h.cam 0)
  go_wp2_with (first | (refine wpList_load_mid rfl 147 (.tmp 2) rfl w.heap.size 0 ?cx164 (qze A.camera (.slice (some ⟨sb, 0, none⟩) A.slots.length sc) (.slice ga A.guides.length gc) (.slice na A.nodes.length nc) (.slice ra A.vers.length rc) (qzb H' 4 h.cam 0) d tk) _ ?cc164 Try.underlying147 rfl (qz9 _ _ _ _ _ _ _ _) ?_) | (refine wpList_store_mid rfl 147 (.tmp 4) _ rfl (w.heap.size + 1) 0 (qze A.camera (.slice (some ⟨sb, 0, none⟩) A.slots.length sc) (.slice ga A.guides.length gc) (.slice na A.nodes.length nc) (.slice ra A.vers.length rc) (qzb H' 4 h.cam 0) d tk).toArray ?dx164 ?dy164 ?dt164 (qzt _ _ _ _ _ _ _ _) (qz13 _ _ _ _ _ _ _ _ _ _ _ _ _ _ _ _) ?_))
  try (case cx164 => rfl)
  try (case cc164 => exact S9.row)
  try (case dx164 => rfl)
  try (case dy164 => rfl)
  try (case dt164 => exact S9.to)
  refine bodyPost_ret (v := .agg (qze A.camera (.slice (some ⟨sb, 0, none⟩) A.slots.length sc) (.slice ga A.guides.length gc) (.slice na A.nodes.length nc) (.slice ra A.vers.length rc) (qzb H' 4 h.cam 0) d tk).toArray) ?_ rfl ⟨_, _, _, _, by rw [hd.out], by rw [hd.out]; exact S9.fin⟩
  exact qz5 Try.results114 _ _ (w.heap.size + 1) 0 rfl (qze A.camera (.slice (some ⟨sb, 0, none⟩) A.slots.length sc) (.slice ga A.guides.length gc) (.slice na A.nodes.length nc) (.slice ra A.vers.length rc) (qzb H' 4 h.cam 0) d tk) _ (S9.out rfl) Try.underlying147 rfl (qz9 _ _ _ _ _ _ _ _)
 have t1b : (A.camera == h.cam) = false := by simp [t1]
 go_upto_region 18 with fail
 have y12 := S1.cell 17 rfl
 rw [hHc] at y12
 go_upto_region 26 with (first | (refine wpList_load_mid rfl 27 (.tmp 71) rfl w.heap.size 5 ?ax165 (hdC H') _ ?ac165 Try.underlying27 rfl (qz1 H') ?_) | (go_at_call 119; refine (qzv H' 4 h.cam 0 _).mono ?_; rintro e w165q ⟨rfl, b165q⟩; have S2 := S1.below b165q) | (refine wpList_store_mid rfl 27 (.tmp 77) _ rfl w.heap.size 5 (hdC (qzb H' 4 h.cam 0)).toArray ?bx165 ?by165 ?bt165 (qza _) (qzf _) ?_))
 try (case ax165 => rfl)
 try (case ac165 => exact (qzw S1.row).2.1)
 try (case bx165 => rfl)
 try (case by165 => rfl)
 try (case bt165 => have T := qz1c S2.th 5 22 (by omega); rw [Nat.zero_add] at T; exact T)
 have S9 := S2.hand (qzb H' 4 h.cam 0)
 go_wp2_with (first | (refine wpList_load_mid rfl 147 (.tmp 2) rfl w.heap.size 0 ?cx166 (qze A.camera (.slice (some ⟨sb, 0, none⟩) A.slots.length sc) (.slice ga A.guides.length gc) (.slice na A.nodes.length nc) (.slice ra A.vers.length rc) (qzb H' 4 h.cam 0) d tk) _ ?cc166 Try.underlying147 rfl (qz9 _ _ _ _ _ _ _ _) ?_) | (refine wpList_store_mid rfl 147 (.tmp 4) _ rfl (w.heap.size + 1) 0 (qze A.camera (.slice (some ⟨sb, 0, none⟩) A.slots.length sc) (.slice ga A.guides.length gc) (.slice na A.nodes.length nc) (.slice ra A.vers.length rc) (qzb H' 4 h.cam 0) d tk).toArray ?dx166 ?dy166 ?dt166 (qzt _ _ _ _ _ _ _ _) (qz13 _ _ _ _ _ _ _ _ _ _ _ _ _ _ _ _) ?_))
 try (case cx166 => rfl)
 try (case cc166 => exact S9.row)
 try (case dx166 => rfl)
 try (case dy166 => rfl)
 try (case dt166 => exact S9.to)
 refine bodyPost_ret (v := .agg (qze A.camera (.slice (some ⟨sb, 0, none⟩) A.slots.length sc) (.slice ga A.guides.length gc) (.slice na A.nodes.length nc) (.slice ra A.vers.length rc) (qzb H' 4 h.cam 0) d tk).toArray) ?_ rfl ⟨_, _, _, _, by rw [hd.out], by rw [hd.out]; exact S9.fin⟩
 exact qz5 Try.results114 _ _ (w.heap.size + 1) 0 rfl (qze A.camera (.slice (some ⟨sb, 0, none⟩) A.slots.length sc) (.slice ga A.guides.length gc) (.slice na A.nodes.length nc) (.slice ra A.vers.length rc) (qzb H' 4 h.cam 0) d tk) _ (S9.out rfl) Try.underlying147 rfl (qz9 _ _ _ _ _ _ _ _)
end
end Go.Proofs.Ytclkglkhhnapiaa
