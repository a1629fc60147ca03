/-
  What the law's proof goes by, part 19.
-/
import Derived.Test.YthjkdnlmopafkaaGreatDoorFnSwappedCard00
import Derived.Test.YthjkdnlmopafkaaGreatDoorFnSwappedCard10
namespace Go.Proofs.YthjkdnlmopafkaaGreatDoor
open Go.ChangeShapes Go.WideShapes Go.ChangeAt Go.RowKit
set_option maxRecDepth 100000
set_option maxHeartbeats 16000000
set_option linter.unusedVariables false
set_option linter.unusedSimpArgs false
set_option linter.unnecessarySimpa false
set_option linter.unusedSectionVars false
section
attribute [local go_sem ↓] Go.wp_at_zero Go.wp_at_succ
def onH (A : Ar) (h : Hd) : Hd :=
 if h.then_ = 1 then (if (vrOf A h.ver).gone then { h with x_ := 0, at_ := 2 } else qz5j A { h with pred := h.x_, predVer := h.ver } (vrOf A h.ver).next)
 else if h.then_ = 2 then (if (vrOf A h.ver).gone then { h with currVer := h.ver, at_ := 6 } else if 0 <= h.curr /\ h.key <= (ndOf A h.curr).key then qz2e A { h with currVer := h.ver } else qz5j A { h with currVer := h.ver, pred := max h.curr 0, predVer := h.ver } (vrOf A h.ver).next)
 else if h.then_ = 3 then qz5j A { h with predVer := h.ver } (vrOf A h.ver).next
 else if h.then_ = 4 then { h with at_ := 10 } else if h.then_ = 5 then { h with at_ := 12 }
 else if h.then_ = 6 then (if (vrOf A h.ver).stamp <= h.held then useH A h else { h with at_ := 19 })
 else if h.then_ = 7 then { h with at_ := if (vrOf A h.ver).stamp <= h.least then 23 else 22 }
 else { h with at_ := 0 }
theorem qzaz (B : Nat) (A : Ar) (h : Hd) (a0 a1 a2 a3 : Option Addr) (c0 c1 c2 c3 : Nat) (w : World) (hB : B <= Q6o) (hA : A.size <= 1048576) (I : qz1j B w Q0x Q0w Q0t Q11 A) (x y z u : Int) (hOk : qz10 x y z u A = true) (hv0 : 0 <= h.ver) (hv1 : h.ver < (Q6r : Int)) (hx0 : 0 <= h.x_) (hx1 : h.x_ < (Q6q : Int)) (hcu : h.curr < (Q6q : Int)) (ho0 : 0 <= h.out) (ho1 : h.out <= 1000000) (hs0 : 0 <= h.sum) (hs1 : h.sum <= 1000000) :
  Calls Tryz.prog 154 Q5d w fun e w' => e = .returned (.agg (hdC (onH A h)).toArray) /\ Below Q6o w w' := by
 have hA' := hA
 unfold Ar.size at hA
 have X0 := Q7b (Q7b (qz6 w Q0j 30) Q0p) (.cells Q00 56)
 have H0 := Q7b (qz6 Q35 (hdC h) 56) (.cells Q00 56)
 have G0 := Q7h (qzg Q35 (hdC h).toArray 56 22 (by simp [hdC])) (.cells Q00 56)
 have F0 := qzg ((Q35).alloc Q0p) Q00 56 22 (by decide)
 have K0 := (((Q6s Q6o w).alloc (Q6v _) (.cells Q02 30)).alloc (by simp) Q0p).alloc (by simp; omega) (.cells Q00 56)
 have hz0 : Q6o + 1 + 1 < (Q2j).heap.size := by simp
 simp only [World.size_alloc] at H0 G0 F0
 have I0 := I.below (K0.mono hB)
 go_enter Tryz.func154, Tryz.ntmps154
 have tok : True := trivial
 go_wp2_with (clear tok; refine qz2j Q2j ?_)
 generalize hw0 : ((Q35).alloc Q0p).alloc (.cells Q00 56) = w0 at *
 clear hw0 I
 show wpList _ _ _ _ _ w0
 obtain ⟨v, hv⟩ : ∃ v : Nat, h.ver = v := ⟨h.ver.toNat, by omega⟩
 have hvl : v < Q6r := by omega
 have hvl' : (v : Int) < (Q6r : Int) := by omega
 have hvl0 : (0 : Int) <= (v : Int) := by omega
 have hvr : vrOf A h.ver = A.vers[v] := by rw [hv, qz38 A v hvl]
 obtain ⟨bb, off, rfl, hbb, R⟩ := qzu.at I0.r (by omega)
 have V5 := qzi (sz := 5) (fun _ => rfl) R v hvl
 have v0 : w0.cell? ⟨bb, off + v * 5, none⟩ = some (.int .i64 A.vers[v].next) := by simpa using V5 0 _ rfl
 have v1 : w0.cell? ⟨bb, off + v * 5 + 1, none⟩ = some (.bool A.vers[v].gone) := V5 1 _ rfl
 have v2 : w0.cell? ⟨bb, off + v * 5 + 2, none⟩ = some (.int .i64 A.vers[v].stamp) := V5 2 _ rfl
 have v3 : w0.cell? ⟨bb, off + v * 5 + 3, none⟩ = some (.int .i64 A.vers[v].prev) := V5 3 _ rfl
 have v4 : w0.cell? ⟨bb, off + v * 5 + 4, none⟩ = some (.int .i64 A.vers[v].kind) := V5 4 _ rfl
 have x4 : w0.cell? ⟨Q6o, 4, none⟩ = some Q1e := by simpa using X0 4 _ rfl
 have q11 : w0.cell? ⟨Q6o + 1, 11, none⟩ = some (.int .i64 h.ver) := by simpa using H0 11 (.int .i64 h.ver) rfl
 rw [hv] at q11
 clear R V5
 have tok : True := trivial
 go_wp2_with (clear tok; refine qz2j (w0.alloc Q10) ?_)
 have al := (Q6s Q73 w0).alloc (Q6v _) Q10
 have VB1 := qz6 w0 Q4b 40
 have X1 := qz0 X0 al (by omega)
 have H1 := qz0 H0 al (by omega)
 have G1 := qz5 G0 al (by omega)
 have F1 := qz5 F0 al (by omega)
 have K1 := K0.trans (al.mono (by omega))
 have I1 := I0.below (al.mono (by omega))
 have hz1 := Q72 hz0 al.size
 have hl1 : Q73 < (w0.alloc Q10).heap.size := by simp
 generalize hw1 : w0.alloc Q10 = w1 at *
 show wpList _ _ _ _ _ w1
 clear hw1 al X0 H0 G0 F0 K0 I0
 clear v0 v1 v2 v3 v4 x4 q11
 have hvH : Hid (h.ver = v) := hv
 clear hv hvl' hvl0
 obtain ⟨x0, x1, x2, x3, x4⟩ := row5 X1
 have q0 : w1.cell? ⟨Q6o + 1, 0, none⟩ = some (.int .i64 h.at_) := by simpa using H1 0 (.int .i64 h.at_) rfl
 have q1 : w1.cell? ⟨Q6o + 1, 1, none⟩ = some (.int .i64 h.then_) := by simpa using H1 1 (.int .i64 h.then_) rfl
 have q3 : w1.cell? ⟨Q6o + 1, 3, none⟩ = some (.int .i64 h.key) := by simpa using H1 3 (.int .i64 h.key) rfl
 have q9 : w1.cell? ⟨Q6o + 1, 9, none⟩ = some (.int .i64 h.held) := by simpa using H1 9 (.int .i64 h.held) rfl
 have q10 : w1.cell? ⟨Q6o + 1, 10, none⟩ = some (.int .i64 h.x_) := by simpa using H1 10 (.int .i64 h.x_) rfl
 have q11 : w1.cell? ⟨Q6o + 1, 11, none⟩ = some (.int .i64 h.ver) := by simpa using H1 11 (.int .i64 h.ver) rfl
 have q14 : w1.cell? ⟨Q6o + 1, 14, none⟩ = some (.int .i64 h.pred) := by simpa using H1 14 (.int .i64 h.pred) rfl
 have q15 : w1.cell? ⟨Q6o + 1, 15, none⟩ = some (.int .i64 h.predVer) := by simpa using H1 15 (.int .i64 h.predVer) rfl
 have q16 : w1.cell? ⟨Q6o + 1, 16, none⟩ = some (.int .i64 h.curr) := by simpa using H1 16 (.int .i64 h.curr) rfl
 have q17 : w1.cell? ⟨Q6o + 1, 17, none⟩ = some (.int .i64 h.currVer) := by simpa using H1 17 (.int .i64 h.currVer) rfl
 have q19 : w1.cell? ⟨Q6o + 1, 19, none⟩ = some (.int .i64 h.least) := by simpa using H1 19 (.int .i64 h.least) rfl
 have f0 : w1.frozen? ⟨Q6o + 1, 0, none⟩ = false := by simpa using (G1 0 (by decide)).2
 have f10 : w1.frozen? ⟨Q6o + 1, 10, none⟩ = false := by simpa using (G1 10 (by decide)).2
 have f14 : w1.frozen? ⟨Q6o + 1, 14, none⟩ = false := by simpa using (G1 14 (by decide)).2
 have f15 : w1.frozen? ⟨Q6o + 1, 15, none⟩ = false := by simpa using (G1 15 (by decide)).2
 have f17 : w1.frozen? ⟨Q6o + 1, 17, none⟩ = false := by simpa using (G1 17 (by decide)).2
 have v0 : w1.cell? ⟨Q73, 0, none⟩ = some (.int .i64 A.vers[v].next) := by simpa using VB1 0 _ rfl
 have v1 : w1.cell? ⟨Q73, 1, none⟩ = some (.bool A.vers[v].gone) := by simpa using VB1 1 _ rfl
 have v2 : w1.cell? ⟨Q73, 2, none⟩ = some (.int .i64 A.vers[v].stamp) := by simpa using VB1 2 _ rfl
 have e1 : ¬ (Q6o + 1 = Q73) := by omega
 have e2 : ¬ (Q6o + 1 = Q6o) := by omega
 by_cases t1 : h.then_ = 1
 case pos =>
  cases kg : A.vers[v].gone
  ·obtain ⟨H', hH⟩ : ∃ H' : Hd, Hid (H' = { h with pred := h.x_, predVer := h.ver }) := by exact ⟨_, rfl⟩
   have hv : Hid (onH A h = qz5j A H' A.vers[v].next) := by show _ = _; rw [hH.out]; simp [onH, t1, hvr, kg]
   go_upto_region 11 with (first | (go_at_call 138; refine (qz1e _ _ _).mono ?_; rintro e w' ⟨rfl, hw⟩; obtain rfl := hw.symm))
   go_wp2_with (first | (refine Q6z rfl 56 (.tmp 3) rfl (Q6o + 1) 0 ?hxln42 (hdC H') _ ?hcn42 Q6x rfl (qz4 H') ?_))
   try (case hxln42 => rfl)
   case hcn42 => rw [hH.out]; exact (qzb (qzb H1 14 (by simp [hdC]) _) 15 (by simp [hdC]) _)
   refine (qz5s B A H' A.vers[v].next _ _ _ _ _ _ _ _ _ (by first | omega | (simp; omega)) hA' (I1.below (Below.setCell (Below.setCell (Q6s B w1) (p := ⟨Q6o + 1, 14, none⟩) (by show B <= Q6o + 1; omega) _) (p := ⟨Q6o + 1, 15, none⟩) (by show B <= Q6o + 1; omega) _))).mono ?_
   rintro e w9 ⟨rfl, b9⟩
   have F9 := qz5 (qz2 (qz2 F1 _ _) _ _) b9 (by first | omega | (simp; omega))
   have K9 := (Below.setCell (Below.setCell K1 (p := ⟨Q6o + 1, 14, none⟩) (by show Q6o <= Q6o + 1; omega) _) (p := ⟨Q6o + 1, 15, none⟩) (by show Q6o <= Q6o + 1; omega) _).trans (b9.mono (by first | omega | (simp; omega)))
   go_wp2_with (refine Q6t rfl 56 (.tmp 4) _ rfl (Q6o + 1 + 1) 0 (Q3l).toArray ?hxn42 ?hyn42 ?htn42 (qzc _) (qzk _) ?_)
   try (case hxn42 => rfl)
   try (case hyn42 => rfl)
   case htn42 => exact F9
   refine bodyPost_ret (v := .agg (Q3l).toArray) ?_ rfl ⟨by rw [hv.out], ?_⟩
   ·exact qz3 Tryz.results154 _ _ (Q6o + 1 + 1) 0 rfl Q3l _ (Q6u _ _ _ _ F9) Q6x rfl (qz4 _)
   ·exact Below.setCells (by omega) _ _ _ K9
  ·obtain ⟨H', hH⟩ : ∃ H' : Hd, Hid (H' = { h with x_ := 0, at_ := 2 }) := by exact ⟨_, rfl⟩
   have hv : Hid (onH A h = H') := by show _ = _; rw [hH.out]; simp [onH, t1, hvr, kg]
   go_upto_region 8 with (first | (go_at_call 138; refine (qz1e _ _ _).mono ?_; rintro e w' ⟨rfl, hw⟩; obtain rfl := hw.symm))
   go_wp2_with (first | (refine Q6z rfl 56 (.tmp 3) rfl (Q6o + 1) 0 ?hxln43 (hdC H') _ ?hcn43 Q6x rfl (qz4 H') ?_) | (refine Q6t rfl 56 (.tmp 4) _ rfl (Q6o + 1 + 1) 0 (hdC H').toArray ?hxn43 ?hyn43 ?htn43 (qzc _) (qzk _) ?_))
   try (case hxln43 => rfl)
   case hcn43 => rw [hH.out]; exact (qzb (qzb H1 10 (by simp [hdC]) _) 0 (by simp [hdC]) _)
   try (case hxn43 => rfl)
   try (case hyn43 => rfl)
   case htn43 => exact (qz2 (qz2 F1 _ _) _ _)
   refine bodyPost_ret (v := .agg (hdC H').toArray) ?_ rfl ⟨by rw [hv.out], ?_⟩
   ·exact qz3 Tryz.results154 _ _ (Q6o + 1 + 1) 0 rfl (hdC H') _ (Q6u _ _ _ _ (qz2 (qz2 F1 _ _) _ _)) Q6x rfl (qz4 _)
   ·exact Below.setCells (by omega) _ _ _ (Below.setCell (Below.setCell K1 (p := ⟨Q6o + 1, 10, none⟩) (by show Q6o <= Q6o + 1; omega) _) (p := ⟨Q6o + 1, 0, none⟩) (by show Q6o <= Q6o + 1; omega) _)
 have b1 : (h.then_ == 1) = false := by simp [t1]
 by_cases t2 : h.then_ = 2
 case pos =>
  cases kg : A.vers[v].gone
  case true =>
   obtain ⟨H', hH⟩ : ∃ H' : Hd, Hid (H' = { h with currVer := h.ver, at_ := 6 }) := by exact ⟨_, rfl⟩
   have hv : Hid (onH A h = H') := by show _ = _; rw [hH.out]; simp [onH, t2, hvr, kg]
   go_upto_region 16 with (first | (go_at_call 138; refine (qz1e _ _ _).mono ?_; rintro e w' ⟨rfl, hw⟩; obtain rfl := hw.symm))
   go_wp2_with (first | (refine Q6z rfl 56 (.tmp 3) rfl (Q6o + 1) 0 ?hxln44 (hdC H') _ ?hcn44 Q6x rfl (qz4 H') ?_) | (refine Q6t rfl 56 (.tmp 4) _ rfl (Q6o + 1 + 1) 0 (hdC H').toArray ?hxn44 ?hyn44 ?htn44 (qzc _) (qzk _) ?_))
   try (case hxln44 => rfl)
   case hcn44 => rw [hH.out]; exact (qzb (qzb H1 17 (by simp [hdC]) _) 0 (by simp [hdC]) _)
   try (case hxn44 => rfl)
   try (case hyn44 => rfl)
   case htn44 => exact (qz2 (qz2 F1 _ _) _ _)
   refine bodyPost_ret (v := .agg (hdC H').toArray) ?_ rfl ⟨by rw [hv.out], ?_⟩
   ·exact qz3 Tryz.results154 _ _ (Q6o + 1 + 1) 0 rfl (hdC H') _ (Q6u _ _ _ _ (qz2 (qz2 F1 _ _) _ _)) Q6x rfl (qz4 _)
   ·exact Below.setCells (by omega) _ _ _ (Below.setCell (Below.setCell K1 (p := ⟨Q6o + 1, 17, none⟩) (by show Q6o <= Q6o + 1; omega) _) (p := ⟨Q6o + 1, 0, none⟩) (by show Q6o <= Q6o + 1; omega) _)
  go_upto_region 17 with fail
  by_cases kc : 0 <= h.curr
  case neg =>
   go_quiet (fail)
   have X2 : (Q0z).rangeAt Q6o 0 [.int .i64 Q6w, .slice a0 Q74 c0, .slice a1 Q75 c1, .slice a2 Q6q c2, .slice (some ⟨bb, off, none⟩) Q6r c3] := qz3p X1 (a := ⟨Q6o + 1, 17, none⟩) (by show Q6o + 1 ≠ Q6o; omega) _
   have H2 : (Q0z).rangeAt (Q6o + 1) 0 (hdC { h with currVer := h.ver }) := qzb H1 17 (by simp [hdC]) _
   have G2 : (Q0z).there (Q6o + 1) 0 22 := qz2 G1 _ _
   have F2 : (Q0z).there (Q6o + 1 + 1) 0 22 := qz2 F1 _ _
   have KS := Below.setCell K1 (p := ⟨Q6o + 1, 17, none⟩) (by show Q6o <= Q6o + 1; omega) (.int .i64 h.ver)
   have K2 : Below Q6o w Q0z := ⟨KS.os, KS.tape, KS.output, KS.size, KS.block⟩
   have KT := Below.setCell (Q6s B w1) (p := ⟨Q6o + 1, 17, none⟩) (by show B <= Q6o + 1; omega) (.int .i64 h.ver)
   have I2 := I1.below (w' := Q0z) ⟨KT.os, KT.tape, KT.output, KT.size, KT.block⟩
   have V2 : (Q0z).cell? ⟨Q73, 0, none⟩ = some (.int .i64 A.vers[v].next) := (World.cell?_setCell_other _ _ _ _ (by simp)).trans v0
   have hz2 : Q6o + 1 + 1 < (Q0z).heap.size := by show _ < (w1.setCell _ _).heap.size; rw [World.size_setCell]; exact hz1
   generalize hw2 : Q0z = w2 at *
   clear hw2 KS KT x0 x1 x2 x3 x4 q0 q1 q3 q9 q10 q11 q14 q15 q16 q17 q19 f0 f10 f14 f15 f17 v0 v1 v2 X1 H1 G1 F1 K1 I1
   obtain ⟨x0, x1, x2, x3, x4⟩ := row5 X2
   have q14 : w2.cell? ⟨Q6o + 1, 14, none⟩ = some (.int .i64 h.pred) := by simpa using H2 14 _ rfl
   have q15 : w2.cell? ⟨Q6o + 1, 15, none⟩ = some (.int .i64 h.predVer) := by simpa using H2 15 _ rfl
   have q16 : w2.cell? ⟨Q6o + 1, 16, none⟩ = some (.int .i64 h.curr) := by simpa using H2 16 _ rfl
   have q17 : w2.cell? ⟨Q6o + 1, 17, none⟩ = some (.int .i64 h.ver) := by simpa using H2 17 _ rfl
   have f14 : w2.frozen? ⟨Q6o + 1, 14, none⟩ = false := by simpa using (G2 14 (by decide)).2
   have f15 : w2.frozen? ⟨Q6o + 1, 15, none⟩ = false := by simpa using (G2 15 (by decide)).2
   obtain ⟨H', hH⟩ : ∃ H' : Hd, Hid (H' = { h with currVer := h.ver, pred := max h.curr 0, predVer := h.ver }) := by exact ⟨_, rfl⟩
   have hv : Hid (onH A h = qz5j A H' A.vers[v].next) := by show _ = _; rw [hH.out]; simp [onH, t2, hvr, kg, kc]
   go_upto_region 21 with (first | (go_at_call 138; refine (qz1e _ _ _).mono ?_; rintro e w' ⟨rfl, hw⟩; obtain rfl := hw.symm))
   go_wp2_with (first | (refine Q6z rfl 56 (.tmp 3) rfl (Q6o + 1) 0 ?hxln45 (hdC H') _ ?hcn45 Q6x rfl (qz4 H') ?_))
   try (case hxln45 => rfl)
   case hcn45 => rw [hH.out]; exact (qzb (qzb H2 14 (by simp [hdC]) _) 15 (by simp [hdC]) _)
   refine (qz5s B A H' A.vers[v].next _ _ _ _ _ _ _ _ _ (by first | omega | (simp; omega)) hA' (I2.below (Below.setCell (Below.setCell (Q6s B w2) (p := ⟨Q6o + 1, 14, none⟩) (by show B <= Q6o + 1; omega) _) (p := ⟨Q6o + 1, 15, none⟩) (by show B <= Q6o + 1; omega) _))).mono ?_
   rintro e w9 ⟨rfl, b9⟩
   have F9 := qz5 (qz2 (qz2 F2 _ _) _ _) b9 (by first | omega | (simp; omega))
   have K9 := (Below.setCell (Below.setCell K2 (p := ⟨Q6o + 1, 14, none⟩) (by show Q6o <= Q6o + 1; omega) _) (p := ⟨Q6o + 1, 15, none⟩) (by show Q6o <= Q6o + 1; omega) _).trans (b9.mono (by first | omega | (simp; omega)))
   go_wp2_with (refine Q6t rfl 56 (.tmp 4) _ rfl (Q6o + 1 + 1) 0 (Q3l).toArray ?hxn45 ?hyn45 ?htn45 (qzc _) (qzk _) ?_)
   try (case hxn45 => rfl)
   try (case hyn45 => rfl)
   case htn45 => exact F9
   refine bodyPost_ret (v := .agg (Q3l).toArray) ?_ rfl ⟨by rw [hv.out], ?_⟩
   ·exact qz3 Tryz.results154 _ _ (Q6o + 1 + 1) 0 rfl Q3l _ (Q6u _ _ _ _ F9) Q6x rfl (qz4 _)
   ·exact Below.setCells (by omega) _ _ _ K9
  obtain ⟨n, hn⟩ : ∃ n : Nat, h.curr = n := ⟨h.curr.toNat, by omega⟩
  have hnl : n < Q6q := by omega
  have hnl' : (n : Int) < (Q6q : Int) := by omega
  have hnl0 : (0 : Int) <= (n : Int) := by omega
  have hnd : ndOf A h.curr = A.nodes[n] := by rw [hn, qz1l A n hnl]
  obtain ⟨bn, on, rfl, hbn, RN⟩ := qzu.at I1.n (by omega)
  have e3 : ¬ (Q6o + 1 = bn) := by omega
  have m0 : w1.cell? ⟨bn, on + n * 3, none⟩ = some (.int .i64 A.nodes[n].key) := by simpa using (qzi (sz := 3) (fun _ => rfl) RN n hnl) 0 _ rfl
  rw [hn] at q16
  have hnH : Hid (h.curr = n) := hn
  clear RN hn
  by_cases kk : h.key <= A.nodes[n].key
  case neg =>
   go_quiet (fail)
   have X2 : (Q0z).rangeAt Q6o 0 Q4u := qz3p X1 (a := ⟨Q6o + 1, 17, none⟩) (by show Q6o + 1 ≠ Q6o; omega) _
   have H2 : (Q0z).rangeAt (Q6o + 1) 0 (hdC { h with currVer := h.ver }) := qzb H1 17 (by simp [hdC]) _
   have G2 : (Q0z).there (Q6o + 1) 0 22 := qz2 G1 _ _
   have F2 : (Q0z).there (Q6o + 1 + 1) 0 22 := qz2 F1 _ _
   have KS := Below.setCell K1 (p := ⟨Q6o + 1, 17, none⟩) (by show Q6o <= Q6o + 1; omega) (.int .i64 h.ver)
   have K2 : Below Q6o w Q0z := ⟨KS.os, KS.tape, KS.output, KS.size, KS.block⟩
   have KT := Below.setCell (Q6s B w1) (p := ⟨Q6o + 1, 17, none⟩) (by show B <= Q6o + 1; omega) (.int .i64 h.ver)
   have I2 := I1.below (w' := Q0z) ⟨KT.os, KT.tape, KT.output, KT.size, KT.block⟩
   have V2 : (Q0z).cell? ⟨Q73, 0, none⟩ = some (.int .i64 A.vers[v].next) := (World.cell?_setCell_other _ _ _ _ (by simp)).trans v0
   have hz2 : Q6o + 1 + 1 < (Q0z).heap.size := by show _ < (w1.setCell _ _).heap.size; rw [World.size_setCell]; exact hz1
   generalize hw2 : Q0z = w2 at *
   clear hw2 KS KT m0 x0 x1 x2 x3 x4 q0 q1 q3 q9 q10 q11 q14 q15 q16 q17 q19 f0 f10 f14 f15 f17 v0 v1 v2 X1 H1 G1 F1 K1 I1
   obtain ⟨x0, x1, x2, x3, x4⟩ := row5 X2
   have q14 : w2.cell? ⟨Q6o + 1, 14, none⟩ = some (.int .i64 h.pred) := by simpa using H2 14 _ rfl
   have q15 : w2.cell? ⟨Q6o + 1, 15, none⟩ = some (.int .i64 h.predVer) := by simpa using H2 15 _ rfl
   have q16 : w2.cell? ⟨Q6o + 1, 16, none⟩ = some (.int .i64 h.curr) := by simpa using H2 16 _ rfl
   have q17 : w2.cell? ⟨Q6o + 1, 17, none⟩ = some (.int .i64 h.ver) := by simpa using H2 17 _ rfl
   have f14 : w2.frozen? ⟨Q6o + 1, 14, none⟩ = false := by simpa using (G2 14 (by decide)).2
   have f15 : w2.frozen? ⟨Q6o + 1, 15, none⟩ = false := by simpa using (G2 15 (by decide)).2
   obtain ⟨H', hH⟩ : ∃ H' : Hd, Hid (H' = { h with currVer := h.ver, pred := max h.curr 0, predVer := h.ver }) := by exact ⟨_, rfl⟩
   have hv : Hid (onH A h = qz5j A H' A.vers[v].next) := by show _ = _; rw [hH.out]; simp [onH, t2, hvr, kg, hnd, kk]
   go_upto_region 21 with (first | (go_at_call 138; refine (qz1e _ _ _).mono ?_; rintro e w' ⟨rfl, hw⟩; obtain rfl := hw.symm))
   go_wp2_with (first | (refine Q6z rfl 56 (.tmp 3) rfl (Q6o + 1) 0 ?hxln46 (hdC H') _ ?hcn46 Q6x rfl (qz4 H') ?_))
   try (case hxln46 => rfl)
   case hcn46 => rw [hH.out]; exact (qzb (qzb H2 14 (by simp [hdC]) _) 15 (by simp [hdC]) _)
   refine (qz5s B A H' A.vers[v].next _ _ _ _ _ _ _ _ _ (by first | omega | (simp; omega)) hA' (I2.below (Below.setCell (Below.setCell (Q6s B w2) (p := ⟨Q6o + 1, 14, none⟩) (by show B <= Q6o + 1; omega) _) (p := ⟨Q6o + 1, 15, none⟩) (by show B <= Q6o + 1; omega) _))).mono ?_
   rintro e w9 ⟨rfl, b9⟩
   have F9 := qz5 (qz2 (qz2 F2 _ _) _ _) b9 (by first | omega | (simp; omega))
   have K9 := (Below.setCell (Below.setCell K2 (p := ⟨Q6o + 1, 14, none⟩) (by show Q6o <= Q6o + 1; omega) _) (p := ⟨Q6o + 1, 15, none⟩) (by show Q6o <= Q6o + 1; omega) _).trans (b9.mono (by first | omega | (simp; omega)))
   go_wp2_with (refine Q6t rfl 56 (.tmp 4) _ rfl (Q6o + 1 + 1) 0 (Q3l).toArray ?hxn46 ?hyn46 ?htn46 (qzc _) (qzk _) ?_)
   try (case hxn46 => rfl)
   try (case hyn46 => rfl)
   case htn46 => exact F9
   refine bodyPost_ret (v := .agg (Q3l).toArray) ?_ rfl ⟨by rw [hv.out], ?_⟩
   ·exact qz3 Tryz.results154 _ _ (Q6o + 1 + 1) 0 rfl Q3l _ (Q6u _ _ _ _ F9) Q6x rfl (qz4 _)
   ·exact Below.setCells (by omega) _ _ _ K9
  go_quiet (fail)
  have X2 : (Q0z).rangeAt Q6o 0 Q4u := qz3p X1 (a := ⟨Q6o + 1, 17, none⟩) (by show Q6o + 1 ≠ Q6o; omega) _
  have H2 : (Q0z).rangeAt (Q6o + 1) 0 (hdC { h with currVer := h.ver }) := qzb H1 17 (by simp [hdC]) _
  have G2 : (Q0z).there (Q6o + 1) 0 22 := qz2 G1 _ _
  have F2 : (Q0z).there (Q6o + 1 + 1) 0 22 := qz2 F1 _ _
  have KS := Below.setCell K1 (p := ⟨Q6o + 1, 17, none⟩) (by show Q6o <= Q6o + 1; omega) (.int .i64 h.ver)
  have K2 : Below Q6o w Q0z := ⟨KS.os, KS.tape, KS.output, KS.size, KS.block⟩
  have KT := Below.setCell (Q6s B w1) (p := ⟨Q6o + 1, 17, none⟩) (by show B <= Q6o + 1; omega) (.int .i64 h.ver)
  have I2 := I1.below (w' := Q0z) ⟨KT.os, KT.tape, KT.output, KT.size, KT.block⟩
  have V2 : (Q0z).cell? ⟨Q73, 0, none⟩ = some (.int .i64 A.vers[v].next) := (World.cell?_setCell_other _ _ _ _ (by simp)).trans v0
  have hz2 : Q6o + 1 + 1 < (Q0z).heap.size := by show _ < (w1.setCell _ _).heap.size; rw [World.size_setCell]; exact hz1
  generalize hw2 : Q0z = w2 at *
  clear hw2 KS KT m0 x0 x1 x2 x3 x4 q0 q1 q3 q9 q10 q11 q14 q15 q16 q17 q19 f0 f10 f14 f15 f17 v0 v1 v2 X1 H1 G1 F1 K1 I1
  obtain ⟨x0, x1, x2, x3, x4⟩ := row5 X2
  obtain ⟨H', hH⟩ : ∃ H' : Hd, Hid (H' = { h with currVer := h.ver }) := by exact ⟨_, rfl⟩
  have hv : Hid (onH A h = qz2e A H') := by show _ = _; rw [hH.out]; simp [onH, t2, hvr, kg, kc, hnd, kk]
  go_upto_region 18 with (first | (go_at_call 138; refine (qz1e _ _ _).mono ?_; rintro e w' ⟨rfl, hw⟩; obtain rfl := hw.symm))
  go_wp2_with (first | (refine Q6z rfl 56 (.tmp 3) rfl (Q6o + 1) 0 ?hxln47 (hdC H') _ ?hcn47 Q6x rfl (qz4 H') ?_))
  try (case hxln47 => rfl)
  case hcn47 => rw [hH.out]; exact H2
  refine (qz7u B A H' _ _ _ _ _ _ _ _ _ (by first | omega | (simp; omega)) hA' (I2.below (Q6s B w2)) (by rw [hH.out]; exact hcu)).mono ?_
  rintro e w9 ⟨rfl, b9⟩
  have F9 := qz5 F2 b9 (by first | omega | (simp; omega))
  have K9 := K2.trans (b9.mono (by first | omega | (simp; omega)))
  go_wp2_with (refine Q6t rfl 56 (.tmp 4) _ rfl (Q6o + 1 + 1) 0 (hdC (qz2e A H')).toArray ?hxn47 ?hyn47 ?htn47 (qzc _) (qzk _) ?_)
  try (case hxn47 => rfl)
  try (case hyn47 => rfl)
  case htn47 => exact F9
  refine bodyPost_ret (v := .agg (hdC (qz2e A H')).toArray) ?_ rfl ⟨by rw [hv.out], ?_⟩
  ·exact qz3 Tryz.results154 _ _ (Q6o + 1 + 1) 0 rfl (hdC (qz2e A H')) _ (Q6u _ _ _ _ F9) Q6x rfl (qz4 _)
  ·exact Below.setCells (by omega) _ _ _ K9
 have b2 : (h.then_ == 2) = false := by simp [t2]
 by_cases t3 : h.then_ = 3
 case pos =>
  obtain ⟨H', hH⟩ : ∃ H' : Hd, Hid (H' = { h with predVer := h.ver }) := by exact ⟨_, rfl⟩
  have hv : Hid (onH A h = qz5j A H' A.vers[v].next) := by show _ = _; rw [hH.out]; simp [onH, t3, hvr]
  go_upto_region 24 with (first | (go_at_call 138; refine (qz1e _ _ _).mono ?_; rintro e w' ⟨rfl, hw⟩; obtain rfl := hw.symm))
  go_wp2_with (first | (refine Q6z rfl 56 (.tmp 3) rfl (Q6o + 1) 0 ?hxln48 (hdC H') _ ?hcn48 Q6x rfl (qz4 H') ?_))
  try (case hxln48 => rfl)
  case hcn48 => rw [hH.out]; exact (qzb H1 15 (by simp [hdC]) _)
  refine (qz5s B A H' A.vers[v].next _ _ _ _ _ _ _ _ _ (by first | omega | (simp; omega)) hA' (I1.below (Below.setCell (Q6s B w1) (p := ⟨Q6o + 1, 15, none⟩) (by show B <= Q6o + 1; omega) _))).mono ?_
  rintro e w9 ⟨rfl, b9⟩
  have F9 := qz5 (qz2 F1 _ _) b9 (by first | omega | (simp; omega))
  have K9 := (Below.setCell K1 (p := ⟨Q6o + 1, 15, none⟩) (by show Q6o <= Q6o + 1; omega) _).trans (b9.mono (by first | omega | (simp; omega)))
  go_wp2_with (refine Q6t rfl 56 (.tmp 4) _ rfl (Q6o + 1 + 1) 0 (Q3l).toArray ?hxn48 ?hyn48 ?htn48 (qzc _) (qzk _) ?_)
  try (case hxn48 => rfl)
  try (case hyn48 => rfl)
  case htn48 => exact F9
  refine bodyPost_ret (v := .agg (Q3l).toArray) ?_ rfl ⟨by rw [hv.out], ?_⟩
  ·exact qz3 Tryz.results154 _ _ (Q6o + 1 + 1) 0 rfl Q3l _ (Q6u _ _ _ _ F9) Q6x rfl (qz4 _)
  ·exact Below.setCells (by omega) _ _ _ K9
 have b3 : (h.then_ == 3) = false := by simp [t3]
 by_cases t4 : h.then_ = 4
 case pos =>
  obtain ⟨H', hH⟩ : ∃ H' : Hd, Hid (H' = { h with at_ := 10 }) := by exact ⟨_, rfl⟩
  have hv : Hid (onH A h = H') := by show _ = _; rw [hH.out]; simp [onH, t4]
  go_upto_region 37 with (first | (go_at_call 138; refine (qz1e _ _ _).mono ?_; rintro e w' ⟨rfl, hw⟩; obtain rfl := hw.symm))
  go_wp2_with (first | (refine Q6z rfl 56 (.tmp 3) rfl (Q6o + 1) 0 ?hxln49 (hdC H') _ ?hcn49 Q6x rfl (qz4 H') ?_) | (refine Q6t rfl 56 (.tmp 4) _ rfl (Q6o + 1 + 1) 0 (hdC H').toArray ?hxn49 ?hyn49 ?htn49 (qzc _) (qzk _) ?_))
  try (case hxln49 => rfl)
  case hcn49 => rw [hH.out]; exact (qzb H1 0 (by simp [hdC]) _)
  try (case hxn49 => rfl)
  try (case hyn49 => rfl)
  case htn49 => exact (qz2 F1 _ _)
  refine bodyPost_ret (v := .agg (hdC H').toArray) ?_ rfl ⟨by rw [hv.out], ?_⟩
  ·exact qz3 Tryz.results154 _ _ (Q6o + 1 + 1) 0 rfl (hdC H') _ (Q6u _ _ _ _ (qz2 F1 _ _)) Q6x rfl (qz4 _)
  ·exact Below.setCells (by omega) _ _ _ (Below.setCell K1 (p := ⟨Q6o + 1, 0, none⟩) (by show Q6o <= Q6o + 1; omega) _)
 have b4 : (h.then_ == 4) = false := by simp [t4]
 by_cases t5 : h.then_ = 5
 case pos =>
  obtain ⟨H', hH⟩ : ∃ H' : Hd, Hid (H' = { h with at_ := 12 }) := by exact ⟨_, rfl⟩
  have hv : Hid (onH A h = H') := by show _ = _; rw [hH.out]; simp [onH, t5]
  go_upto_region 37 with (first | (go_at_call 138; refine (qz1e _ _ _).mono ?_; rintro e w' ⟨rfl, hw⟩; obtain rfl := hw.symm))
  go_wp2_with (first | (refine Q6z rfl 56 (.tmp 3) rfl (Q6o + 1) 0 ?hxln50 (hdC H') _ ?hcn50 Q6x rfl (qz4 H') ?_) | (refine Q6t rfl 56 (.tmp 4) _ rfl (Q6o + 1 + 1) 0 (hdC H').toArray ?hxn50 ?hyn50 ?htn50 (qzc _) (qzk _) ?_))
  try (case hxln50 => rfl)
  case hcn50 => rw [hH.out]; exact (qzb H1 0 (by simp [hdC]) _)
  try (case hxn50 => rfl)
  try (case hyn50 => rfl)
  case htn50 => exact (qz2 F1 _ _)
  refine bodyPost_ret (v := .agg (hdC H').toArray) ?_ rfl ⟨by rw [hv.out], ?_⟩
  ·exact qz3 Tryz.results154 _ _ (Q6o + 1 + 1) 0 rfl (hdC H') _ (Q6u _ _ _ _ (qz2 F1 _ _)) Q6x rfl (qz4 _)
  ·exact Below.setCells (by omega) _ _ _ (Below.setCell K1 (p := ⟨Q6o + 1, 0, none⟩) (by show Q6o <= Q6o + 1; omega) _)
 have b5 : (h.then_ == 5) = false := by simp [t5]
 by_cases t6 : h.then_ = 6
 case pos =>
  by_cases ks : A.vers[v].stamp <= h.held
  ·obtain ⟨H', hH⟩ : ∃ H' : Hd, Hid (H' = h) := by exact ⟨_, rfl⟩
   have hv : Hid (onH A h = useH A H') := by show _ = _; rw [hH.out]; simp [onH, t6, hvr, ks]
   go_upto_region 31 with (first | (go_at_call 138; refine (qz1e _ _ _).mono ?_; rintro e w' ⟨rfl, hw⟩; obtain rfl := hw.symm))
   go_wp2_with (first | (refine Q6z rfl 56 (.tmp 3) rfl (Q6o + 1) 0 ?hxln51 (hdC H') _ ?hcn51 Q6x rfl (qz4 H') ?_))
   try (case hxln51 => rfl)
   case hcn51 => rw [hH.out]; exact H1
   refine (qz9p B A H' _ _ _ _ _ _ _ _ _ (by first | omega | (simp; omega)) hA' (I1.below (Q6s B w1)) x y z u hOk (by rw [hH.out]; exact hv0) (by rw [hH.out]; exact hv1) (by rw [hH.out]; exact hx0) (by rw [hH.out]; exact hx1) (by rw [hH.out]; exact ho0) (by rw [hH.out]; exact ho1) (by rw [hH.out]; exact hs0) (by rw [hH.out]; exact hs1)).mono ?_
   rintro e w9 ⟨rfl, b9⟩
   have F9 := qz5 F1 b9 (by first | omega | (simp; omega))
   have K9 := K1.trans (b9.mono (by first | omega | (simp; omega)))
   go_wp2_with (refine Q6t rfl 56 (.tmp 4) _ rfl (Q6o + 1 + 1) 0 (hdC (useH A H')).toArray ?hxn51 ?hyn51 ?htn51 (qzc _) (qzk _) ?_)
   try (case hxn51 => rfl)
   try (case hyn51 => rfl)
   case htn51 => exact F9
   refine bodyPost_ret (v := .agg (hdC (useH A H')).toArray) ?_ rfl ⟨by rw [hv.out], ?_⟩
   ·exact qz3 Tryz.results154 _ _ (Q6o + 1 + 1) 0 rfl (hdC (useH A H')) _ (Q6u _ _ _ _ F9) Q6x rfl (qz4 _)
   ·exact Below.setCells (by omega) _ _ _ K9
  obtain ⟨H', hH⟩ : ∃ H' : Hd, Hid (H' = { h with at_ := 19 }) := by exact ⟨_, rfl⟩
  have hv : Hid (onH A h = H') := by show _ = _; rw [hH.out]; simp [onH, t6, hvr, ks]
  go_upto_region 37 with (first | (go_at_call 138; refine (qz1e _ _ _).mono ?_; rintro e w' ⟨rfl, hw⟩; obtain rfl := hw.symm))
  go_wp2_with (first | (refine Q6z rfl 56 (.tmp 3) rfl (Q6o + 1) 0 ?hxln52 (hdC H') _ ?hcn52 Q6x rfl (qz4 H') ?_) | (refine Q6t rfl 56 (.tmp 4) _ rfl (Q6o + 1 + 1) 0 (hdC H').toArray ?hxn52 ?hyn52 ?htn52 (qzc _) (qzk _) ?_))
  try (case hxln52 => rfl)
  case hcn52 => rw [hH.out]; exact (qzb H1 0 (by simp [hdC]) _)
  try (case hxn52 => rfl)
  try (case hyn52 => rfl)
  case htn52 => exact (qz2 F1 _ _)
  refine bodyPost_ret (v := .agg (hdC H').toArray) ?_ rfl ⟨by rw [hv.out], ?_⟩
  ·exact qz3 Tryz.results154 _ _ (Q6o + 1 + 1) 0 rfl (hdC H') _ (Q6u _ _ _ _ (qz2 F1 _ _)) Q6x rfl (qz4 _)
  ·exact Below.setCells (by omega) _ _ _ (Below.setCell K1 (p := ⟨Q6o + 1, 0, none⟩) (by show Q6o <= Q6o + 1; omega) _)
 have b6 : (h.then_ == 6) = false := by simp [t6]
 by_cases t7 : h.then_ = 7
 case pos =>
  by_cases ks : A.vers[v].stamp <= h.least
  ·obtain ⟨H', hH⟩ : ∃ H' : Hd, Hid (H' = { h with at_ := 23 }) := by exact ⟨_, rfl⟩
   have hv : Hid (onH A h = H') := by show _ = _; rw [hH.out]; simp [onH, t7, hvr, ks]
   go_upto_region 37 with (first | (go_at_call 138; refine (qz1e _ _ _).mono ?_; rintro e w' ⟨rfl, hw⟩; obtain rfl := hw.symm))
   go_wp2_with (first | (refine Q6z rfl 56 (.tmp 3) rfl (Q6o + 1) 0 ?hxln53 (hdC H') _ ?hcn53 Q6x rfl (qz4 H') ?_) | (refine Q6t rfl 56 (.tmp 4) _ rfl (Q6o + 1 + 1) 0 (hdC H').toArray ?hxn53 ?hyn53 ?htn53 (qzc _) (qzk _) ?_))
   try (case hxln53 => rfl)
   case hcn53 => rw [hH.out]; exact (qzb (qzb H1 0 (by simp [hdC]) _) 0 (by simp [hdC]) _)
   try (case hxn53 => rfl)
   try (case hyn53 => rfl)
   case htn53 => exact (qz2 (qz2 F1 _ _) _ _)
   refine bodyPost_ret (v := .agg (hdC H').toArray) ?_ rfl ⟨by rw [hv.out], ?_⟩
   ·exact qz3 Tryz.results154 _ _ (Q6o + 1 + 1) 0 rfl (hdC H') _ (Q6u _ _ _ _ (qz2 (qz2 F1 _ _) _ _)) Q6x rfl (qz4 _)
   ·exact Below.setCells (by omega) _ _ _ (Below.setCell (Below.setCell K1 (p := ⟨Q6o + 1, 0, none⟩) (by show Q6o <= Q6o + 1; omega) _) (p := ⟨Q6o + 1, 0, none⟩) (by show Q6o <= Q6o + 1; omega) _)
  obtain ⟨H', hH⟩ : ∃ H' : Hd, Hid (H' = { h with at_ := 22 }) := by exact ⟨_, rfl⟩
  have hv : Hid (onH A h = H') := by show _ = _; rw [hH.out]; simp [onH, t7, hvr, ks]
  go_upto_region 37 with (first | (go_at_call 138; refine (qz1e _ _ _).mono ?_; rintro e w' ⟨rfl, hw⟩; obtain rfl := hw.symm))
  go_wp2_with (first | (refine Q6z rfl 56 (.tmp 3) rfl (Q6o + 1) 0 ?hxln54 (hdC H') _ ?hcn54 Q6x rfl (qz4 H') ?_) | (refine Q6t rfl 56 (.tmp 4) _ rfl (Q6o + 1 + 1) 0 (hdC H').toArray ?hxn54 ?hyn54 ?htn54 (qzc _) (qzk _) ?_))
  try (case hxln54 => rfl)
  case hcn54 => rw [hH.out]; exact (qzb H1 0 (by simp [hdC]) _)
  try (case hxn54 => rfl)
  try (case hyn54 => rfl)
  case htn54 => exact (qz2 F1 _ _)
  refine bodyPost_ret (v := .agg (hdC H').toArray) ?_ rfl ⟨by rw [hv.out], ?_⟩
  ·exact qz3 Tryz.results154 _ _ (Q6o + 1 + 1) 0 rfl (hdC H') _ (Q6u _ _ _ _ (qz2 F1 _ _)) Q6x rfl (qz4 _)
  ·exact Below.setCells (by omega) _ _ _ (Below.setCell K1 (p := ⟨Q6o + 1, 0, none⟩) (by show Q6o <= Q6o + 1; omega) _)
 have b7 : (h.then_ == 7) = false := by simp [t7]
 obtain ⟨H', hH⟩ : ∃ H' : Hd, Hid (H' = { h with at_ := 0 }) := by exact ⟨_, rfl⟩
 have hv : Hid (onH A h = H') := by show _ = _; rw [hH.out]; simp [onH, t1, t2, t3, t4, t5, t6, t7]
 go_upto_region 37 with (first | (go_at_call 138; refine (qz1e _ _ _).mono ?_; rintro e w' ⟨rfl, hw⟩; obtain rfl := hw.symm))
 go_wp2_with (first | (refine Q6z rfl 56 (.tmp 3) rfl (Q6o + 1) 0 ?hxln55 (hdC H') _ ?hcn55 Q6x rfl (qz4 H') ?_) | (refine Q6t rfl 56 (.tmp 4) _ rfl (Q6o + 1 + 1) 0 (hdC H').toArray ?hxn55 ?hyn55 ?htn55 (qzc _) (qzk _) ?_))
 try (case hxln55 => rfl)
 case hcn55 => rw [hH.out]; exact (qzb H1 0 (by simp [hdC]) _)
 try (case hxn55 => rfl)
 try (case hyn55 => rfl)
 case htn55 => exact (qz2 F1 _ _)
 refine bodyPost_ret (v := .agg (hdC H').toArray) ?_ rfl ⟨by rw [hv.out], ?_⟩
 ·exact qz3 Tryz.results154 _ _ (Q6o + 1 + 1) 0 rfl (hdC H') _ (Q6u _ _ _ _ (qz2 F1 _ _)) Q6x rfl (qz4 _)
 ·exact Below.setCells (by omega) _ _ _ (Below.setCell K1 (p := ⟨Q6o + 1, 0, none⟩) (by show Q6o <= Q6o + 1; omega) _)
end
end Go.Proofs.YthjkdnlmopafkaaGreatDoor
