/-
  What the law's proof goes by, part 19.
-/
import Derived.Test.YthjkdnlmopafkaaFnBlank00
import Derived.Test.YthjkdnlmopafkaaFnBlank10
namespace Go.Proofs.Ythjkdnlmopafkaa
open Go.ChangeShapes Go.WideShapes Go.ChangeAt Go.RowKit
set_option maxRecDepth 100000
set_option maxHeartbeats 16000000
set_option linter.unusedVariables false
set_option linter.unusedSimpArgs false
set_option linter.unnecessarySimpa false
set_option linter.unusedSectionVars false
section
attribute [local go_sem ↓] Go.wp_at_zero Go.wp_at_succ
def onH (A : Ar) (h : Hd) : Hd :=
 if h.then_ = 1 then (if (vrOf A h.ver).gone then { h with x_ := 0, at_ := 2 } else qz58 A { h with pred := h.x_, predVer := h.ver } (vrOf A h.ver).next)
 else if h.then_ = 2 then (if (vrOf A h.ver).gone then { h with currVer := h.ver, at_ := 6 } else if 0 <= h.curr /\ h.key <= (ndOf A h.curr).key then qz2a A { h with currVer := h.ver } else qz58 A { h with currVer := h.ver, pred := max h.curr 0, predVer := h.ver } (vrOf A h.ver).next)
 else if h.then_ = 3 then qz58 A { h with predVer := h.ver } (vrOf A h.ver).next
 else if h.then_ = 4 then { h with at_ := 10 } else if h.then_ = 5 then { h with at_ := 12 }
 else if h.then_ = 6 then (if (vrOf A h.ver).stamp <= h.held then useH A h else { h with at_ := 19 })
 else if h.then_ = 7 then { h with at_ := if (vrOf A h.ver).stamp <= h.least then 23 else 22 }
 else { h with at_ := 0 }
theorem qz8y (B : Nat) (A : Ar) (h : Hd) (a0 a1 a2 a3 : Option Addr) (c0 c1 c2 c3 : Nat) (w : World) (hB : B <= Q67) (hA : A.size <= 1048576) (I : qz1i B w Q17 Q18 Q1b Q1t A) (x y z u : Int) (hOk : qz17 x y z u A = true) (hv0 : 0 <= h.ver) (hv1 : h.ver < (Q6a : Int)) (hx0 : 0 <= h.x_) (hx1 : h.x_ < (Q69 : Int)) (hcu : h.curr < (Q69 : Int)) (ho0 : 0 <= h.out) (ho1 : h.out <= 1000000) (hs0 : 0 <= h.sum) (hs1 : h.sum <= 1000000) :
  Calls Try.prog 116 Q55 w fun e w' => e = .returned (.agg (hdC (onH A h)).toArray) /\ Below Q67 w w' := by
 have hA' := hA
 unfold Ar.size at hA
 have X0 := Q6w (Q6w (qz7 w Q0k 30) Q0q) (.cells Q00 56)
 have H0 := Q6w (qz7 Q47 (hdC h) 56) (.cells Q00 56)
 have G0 := World.there_alloc (qzf Q47 (hdC h).toArray 56 22 (by simp [hdC])) (.cells Q00 56)
 have F0 := qzf Q3a Q00 56 22 (by decide)
 have K0 := (((Q6c Q67 w).alloc (Q6f _) (.cells Q03 30)).alloc (by simp) Q0q).alloc (by simp; omega) (.cells Q00 56)
 have hz0 : Q67 + 1 + 1 < (Q2i).heap.size := by simp
 simp only [World.size_alloc] at H0 G0 F0
 have I0 := I.below (K0.mono hB)
 go_enter Try.func116, Try.ntmps116
 have tok : True := trivial
 go_wp2_with (clear tok; refine qz2o Q2i ?_)
 generalize hw0 : (Q3a).alloc (.cells Q00 56) = w0 at *
 clear hw0 I
 show wpList _ _ _ _ _ w0
 obtain ⟨v, hv⟩ : ∃ v : Nat, h.ver = v := ⟨h.ver.toNat, by omega⟩
 have hvl : v < Q6a := by omega
 have hvl' : (v : Int) < (Q6a : Int) := by omega
 have hvl0 : (0 : Int) <= (v : Int) := by omega
 have hvr : vrOf A h.ver = A.vers[v] := by rw [hv, qz2x A v hvl]
 obtain ⟨bb, off, rfl, hbb, R⟩ := qzs.at I0.r (by omega)
 have V5 := qzi (sz := 5) (fun _ => rfl) R v hvl
 have v0 : w0.cell? ⟨bb, off + v * 5, none⟩ = some (.int .i64 A.vers[v].next) := by simpa using V5 0 _ rfl
 have v1 : w0.cell? ⟨bb, off + v * 5 + 1, none⟩ = some (.bool A.vers[v].gone) := V5 1 _ rfl
 have v2 : w0.cell? ⟨bb, off + v * 5 + 2, none⟩ = some (.int .i64 A.vers[v].stamp) := V5 2 _ rfl
 have v3 : w0.cell? ⟨bb, off + v * 5 + 3, none⟩ = some (.int .i64 A.vers[v].prev) := V5 3 _ rfl
 have v4 : w0.cell? ⟨bb, off + v * 5 + 4, none⟩ = some (.int .i64 A.vers[v].kind) := V5 4 _ rfl
 have x4 : w0.cell? ⟨Q67, 4, none⟩ = some Q1f := by simpa using X0 4 _ rfl
 have q11 : w0.cell? ⟨Q67 + 1, 11, none⟩ = some (.int .i64 h.ver) := by simpa using H0 11 (.int .i64 h.ver) rfl
 rw [hv] at q11
 clear R V5
 have tok : True := trivial
 go_wp2_with (clear tok; refine qz2o (w0.alloc Q0y) ?_)
 have al := (Q6c Q6n w0).alloc (Q6f _) Q0y
 have VB1 := qz7 w0 Q41 54
 have X1 := qz0 X0 al (by omega)
 have H1 := qz0 H0 al (by omega)
 have G1 := qz5 G0 al (by omega)
 have F1 := qz5 F0 al (by omega)
 have K1 := K0.trans (al.mono (by omega))
 have I1 := I0.below (al.mono (by omega))
 have hz1 := Q6l hz0 al.size
 have hl1 : Q6n < (w0.alloc Q0y).heap.size := by simp
 generalize hw1 : w0.alloc Q0y = w1 at *
 show wpList _ _ _ _ _ w1
 clear hw1 al X0 H0 G0 F0 K0 I0
 clear v0 v1 v2 v3 v4 x4 q11
 have hvH : Hid (h.ver = v) := hv
 clear hv hvl' hvl0
 obtain ⟨x0, x1, x2, x3, x4⟩ := row5 X1
 have q0 : w1.cell? ⟨Q67 + 1, 0, none⟩ = some (.int .i64 h.at_) := by simpa using H1 0 (.int .i64 h.at_) rfl
 have q1 : w1.cell? ⟨Q67 + 1, 1, none⟩ = some (.int .i64 h.then_) := by simpa using H1 1 (.int .i64 h.then_) rfl
 have q3 : w1.cell? ⟨Q67 + 1, 3, none⟩ = some (.int .i64 h.key) := by simpa using H1 3 (.int .i64 h.key) rfl
 have q9 : w1.cell? ⟨Q67 + 1, 9, none⟩ = some (.int .i64 h.held) := by simpa using H1 9 (.int .i64 h.held) rfl
 have q10 : w1.cell? ⟨Q67 + 1, 10, none⟩ = some (.int .i64 h.x_) := by simpa using H1 10 (.int .i64 h.x_) rfl
 have q11 : w1.cell? ⟨Q67 + 1, 11, none⟩ = some (.int .i64 h.ver) := by simpa using H1 11 (.int .i64 h.ver) rfl
 have q14 : w1.cell? ⟨Q67 + 1, 14, none⟩ = some (.int .i64 h.pred) := by simpa using H1 14 (.int .i64 h.pred) rfl
 have q15 : w1.cell? ⟨Q67 + 1, 15, none⟩ = some (.int .i64 h.predVer) := by simpa using H1 15 (.int .i64 h.predVer) rfl
 have q16 : w1.cell? ⟨Q67 + 1, 16, none⟩ = some (.int .i64 h.curr) := by simpa using H1 16 (.int .i64 h.curr) rfl
 have q17 : w1.cell? ⟨Q67 + 1, 17, none⟩ = some (.int .i64 h.currVer) := by simpa using H1 17 (.int .i64 h.currVer) rfl
 have q19 : w1.cell? ⟨Q67 + 1, 19, none⟩ = some (.int .i64 h.least) := by simpa using H1 19 (.int .i64 h.least) rfl
 have f0 : w1.frozen? ⟨Q67 + 1, 0, none⟩ = false := by simpa using (G1 0 (by decide)).2
 have f10 : w1.frozen? ⟨Q67 + 1, 10, none⟩ = false := by simpa using (G1 10 (by decide)).2
 have f14 : w1.frozen? ⟨Q67 + 1, 14, none⟩ = false := by simpa using (G1 14 (by decide)).2
 have f15 : w1.frozen? ⟨Q67 + 1, 15, none⟩ = false := by simpa using (G1 15 (by decide)).2
 have f17 : w1.frozen? ⟨Q67 + 1, 17, none⟩ = false := by simpa using (G1 17 (by decide)).2
 have v0 : w1.cell? ⟨Q6n, 0, none⟩ = some (.int .i64 A.vers[v].next) := by simpa using VB1 0 _ rfl
 have v1 : w1.cell? ⟨Q6n, 1, none⟩ = some (.bool A.vers[v].gone) := by simpa using VB1 1 _ rfl
 have v2 : w1.cell? ⟨Q6n, 2, none⟩ = some (.int .i64 A.vers[v].stamp) := by simpa using VB1 2 _ rfl
 have e1 : ¬ (Q67 + 1 = Q6n) := by omega
 have e2 : ¬ (Q67 + 1 = Q67) := by omega
 by_cases t1 : h.then_ = 1
 case pos =>
  cases kg : A.vers[v].gone
  ·obtain ⟨H', hH⟩ : ∃ H' : Hd, Hid (H' = { h with pred := h.x_, predVer := h.ver }) := by exact ⟨_, rfl⟩
   have hv : Hid (onH A h = qz58 A H' A.vers[v].next) := by show _ = _; rw [hH.out]; simp [onH, t1, hvr, kg]
   go_upto_region 11 with (first | (go_at_call 103; refine (qz16 _ _ _).mono ?_; rintro e w' ⟨rfl, hw⟩; obtain rfl := hw.symm))
   go_wp2_with (first | (refine Q6h rfl 56 (.tmp 3) rfl (Q67 + 1) 0 ?hxln42 (hdC H') _ ?hcn42 Q6g rfl (qz4 H') ?_))
   try (case hxln42 => rfl)
   case hcn42 => rw [hH.out]; exact (qza (qza H1 14 (by simp [hdC]) _) 15 (by simp [hdC]) _)
   refine (qz5g B A H' A.vers[v].next _ _ _ _ _ _ _ _ _ (by first | omega | (simp; omega)) hA' (I1.below (Below.setCell (Below.setCell (Q6c B w1) (p := ⟨Q67 + 1, 14, none⟩) (by show B <= Q67 + 1; omega) _) (p := ⟨Q67 + 1, 15, none⟩) (by show B <= Q67 + 1; omega) _))).mono ?_
   rintro e w9 ⟨rfl, b9⟩
   have F9 := qz5 (qz2 (qz2 F1 _ _) _ _) b9 (by first | omega | (simp; omega))
   have K9 := (Below.setCell (Below.setCell K1 (p := ⟨Q67 + 1, 14, none⟩) (by show Q67 <= Q67 + 1; omega) _) (p := ⟨Q67 + 1, 15, none⟩) (by show Q67 <= Q67 + 1; omega) _).trans (b9.mono (by first | omega | (simp; omega)))
   go_wp2_with (refine Q6b rfl 56 (.tmp 4) _ rfl (Q67 + 1 + 1) 0 (Q3i).toArray ?hxn42 ?hyn42 ?htn42 (qzb _) (qzh _) ?_)
   try (case hxn42 => rfl)
   try (case hyn42 => rfl)
   case htn42 => exact F9
   refine bodyPost_ret (v := .agg (Q3i).toArray) ?_ rfl ⟨by rw [hv.out], ?_⟩
   ·exact qz3 Try.results116 _ _ (Q67 + 1 + 1) 0 rfl Q3i _ (Q6d _ _ _ _ F9) Q6g rfl (qz4 _)
   ·exact Below.setCells (by omega) _ _ _ K9
  ·obtain ⟨H', hH⟩ : ∃ H' : Hd, Hid (H' = { h with x_ := 0, at_ := 2 }) := by exact ⟨_, rfl⟩
   have hv : Hid (onH A h = H') := by show _ = _; rw [hH.out]; simp [onH, t1, hvr, kg]
   go_upto_region 8 with (first | (go_at_call 103; refine (qz16 _ _ _).mono ?_; rintro e w' ⟨rfl, hw⟩; obtain rfl := hw.symm))
   go_wp2_with (first | (refine Q6h rfl 56 (.tmp 3) rfl (Q67 + 1) 0 ?hxln43 (hdC H') _ ?hcn43 Q6g rfl (qz4 H') ?_) | (refine Q6b rfl 56 (.tmp 4) _ rfl (Q67 + 1 + 1) 0 (hdC H').toArray ?hxn43 ?hyn43 ?htn43 (qzb _) (qzh _) ?_))
   try (case hxln43 => rfl)
   case hcn43 => rw [hH.out]; exact (qza (qza H1 10 (by simp [hdC]) _) 0 (by simp [hdC]) _)
   try (case hxn43 => rfl)
   try (case hyn43 => rfl)
   case htn43 => exact (qz2 (qz2 F1 _ _) _ _)
   refine bodyPost_ret (v := .agg (hdC H').toArray) ?_ rfl ⟨by rw [hv.out], ?_⟩
   ·exact qz3 Try.results116 _ _ (Q67 + 1 + 1) 0 rfl (hdC H') _ (Q6d _ _ _ _ (qz2 (qz2 F1 _ _) _ _)) Q6g rfl (qz4 _)
   ·exact Below.setCells (by omega) _ _ _ (Below.setCell (Below.setCell K1 (p := ⟨Q67 + 1, 10, none⟩) (by show Q67 <= Q67 + 1; omega) _) (p := ⟨Q67 + 1, 0, none⟩) (by show Q67 <= Q67 + 1; omega) _)
 have b1 : (h.then_ == 1) = false := by simp [t1]
 by_cases t2 : h.then_ = 2
 case pos =>
  cases kg : A.vers[v].gone
  case true =>
   obtain ⟨H', hH⟩ : ∃ H' : Hd, Hid (H' = { h with currVer := h.ver, at_ := 6 }) := by exact ⟨_, rfl⟩
   have hv : Hid (onH A h = H') := by show _ = _; rw [hH.out]; simp [onH, t2, hvr, kg]
   go_upto_region 16 with (first | (go_at_call 103; refine (qz16 _ _ _).mono ?_; rintro e w' ⟨rfl, hw⟩; obtain rfl := hw.symm))
   go_wp2_with (first | (refine Q6h rfl 56 (.tmp 3) rfl (Q67 + 1) 0 ?hxln44 (hdC H') _ ?hcn44 Q6g rfl (qz4 H') ?_) | (refine Q6b rfl 56 (.tmp 4) _ rfl (Q67 + 1 + 1) 0 (hdC H').toArray ?hxn44 ?hyn44 ?htn44 (qzb _) (qzh _) ?_))
   try (case hxln44 => rfl)
   case hcn44 => rw [hH.out]; exact (qza (qza H1 17 (by simp [hdC]) _) 0 (by simp [hdC]) _)
   try (case hxn44 => rfl)
   try (case hyn44 => rfl)
   case htn44 => exact (qz2 (qz2 F1 _ _) _ _)
   refine bodyPost_ret (v := .agg (hdC H').toArray) ?_ rfl ⟨by rw [hv.out], ?_⟩
   ·exact qz3 Try.results116 _ _ (Q67 + 1 + 1) 0 rfl (hdC H') _ (Q6d _ _ _ _ (qz2 (qz2 F1 _ _) _ _)) Q6g rfl (qz4 _)
   ·exact Below.setCells (by omega) _ _ _ (Below.setCell (Below.setCell K1 (p := ⟨Q67 + 1, 17, none⟩) (by show Q67 <= Q67 + 1; omega) _) (p := ⟨Q67 + 1, 0, none⟩) (by show Q67 <= Q67 + 1; omega) _)
  go_upto_region 17 with fail
  by_cases kc : 0 <= h.curr
  case neg =>
   go_quiet (fail)
   have X2 : (Q0x).rangeAt Q67 0 [.int .i64 Q6e, .slice a0 Q6o c0, .slice a1 Q6p c1, .slice a2 Q69 c2, .slice (some ⟨bb, off, none⟩) Q6a c3] := qz3g X1 (a := ⟨Q67 + 1, 17, none⟩) (by show Q67 + 1 ≠ Q67; omega) _
   have H2 : (Q0x).rangeAt (Q67 + 1) 0 (hdC { h with currVer := h.ver }) := qza H1 17 (by simp [hdC]) _
   have G2 : (Q0x).there (Q67 + 1) 0 22 := qz2 G1 _ _
   have F2 : (Q0x).there (Q67 + 1 + 1) 0 22 := qz2 F1 _ _
   have KS := Below.setCell K1 (p := ⟨Q67 + 1, 17, none⟩) (by show Q67 <= Q67 + 1; omega) (.int .i64 h.ver)
   have K2 : Below Q67 w Q0x := ⟨KS.os, KS.tape, KS.output, KS.size, KS.block⟩
   have KT := Below.setCell (Q6c B w1) (p := ⟨Q67 + 1, 17, none⟩) (by show B <= Q67 + 1; omega) (.int .i64 h.ver)
   have I2 := I1.below (w' := Q0x) ⟨KT.os, KT.tape, KT.output, KT.size, KT.block⟩
   have V2 : (Q0x).cell? ⟨Q6n, 0, none⟩ = some (.int .i64 A.vers[v].next) := (World.cell?_setCell_other _ _ _ _ (by simp)).trans v0
   have hz2 : Q67 + 1 + 1 < (Q0x).heap.size := by show _ < (w1.setCell _ _).heap.size; rw [World.size_setCell]; exact hz1
   generalize hw2 : Q0x = w2 at *
   clear hw2 KS KT x0 x1 x2 x3 x4 q0 q1 q3 q9 q10 q11 q14 q15 q16 q17 q19 f0 f10 f14 f15 f17 v0 v1 v2 X1 H1 G1 F1 K1 I1
   obtain ⟨x0, x1, x2, x3, x4⟩ := row5 X2
   have q14 : w2.cell? ⟨Q67 + 1, 14, none⟩ = some (.int .i64 h.pred) := by simpa using H2 14 _ rfl
   have q15 : w2.cell? ⟨Q67 + 1, 15, none⟩ = some (.int .i64 h.predVer) := by simpa using H2 15 _ rfl
   have q16 : w2.cell? ⟨Q67 + 1, 16, none⟩ = some (.int .i64 h.curr) := by simpa using H2 16 _ rfl
   have q17 : w2.cell? ⟨Q67 + 1, 17, none⟩ = some (.int .i64 h.ver) := by simpa using H2 17 _ rfl
   have f14 : w2.frozen? ⟨Q67 + 1, 14, none⟩ = false := by simpa using (G2 14 (by decide)).2
   have f15 : w2.frozen? ⟨Q67 + 1, 15, none⟩ = false := by simpa using (G2 15 (by decide)).2
   obtain ⟨H', hH⟩ : ∃ H' : Hd, Hid (H' = { h with currVer := h.ver, pred := max h.curr 0, predVer := h.ver }) := by exact ⟨_, rfl⟩
   have hv : Hid (onH A h = qz58 A H' A.vers[v].next) := by show _ = _; rw [hH.out]; simp [onH, t2, hvr, kg, kc]
   go_upto_region 21 with (first | (go_at_call 103; refine (qz16 _ _ _).mono ?_; rintro e w' ⟨rfl, hw⟩; obtain rfl := hw.symm))
   go_wp2_with (first | (refine Q6h rfl 56 (.tmp 3) rfl (Q67 + 1) 0 ?hxln45 (hdC H') _ ?hcn45 Q6g rfl (qz4 H') ?_))
   try (case hxln45 => rfl)
   case hcn45 => rw [hH.out]; exact (qza (qza H2 14 (by simp [hdC]) _) 15 (by simp [hdC]) _)
   refine (qz5g B A H' A.vers[v].next _ _ _ _ _ _ _ _ _ (by first | omega | (simp; omega)) hA' (I2.below (Below.setCell (Below.setCell (Q6c B w2) (p := ⟨Q67 + 1, 14, none⟩) (by show B <= Q67 + 1; omega) _) (p := ⟨Q67 + 1, 15, none⟩) (by show B <= Q67 + 1; omega) _))).mono ?_
   rintro e w9 ⟨rfl, b9⟩
   have F9 := qz5 (qz2 (qz2 F2 _ _) _ _) b9 (by first | omega | (simp; omega))
   have K9 := (Below.setCell (Below.setCell K2 (p := ⟨Q67 + 1, 14, none⟩) (by show Q67 <= Q67 + 1; omega) _) (p := ⟨Q67 + 1, 15, none⟩) (by show Q67 <= Q67 + 1; omega) _).trans (b9.mono (by first | omega | (simp; omega)))
   go_wp2_with (refine Q6b rfl 56 (.tmp 4) _ rfl (Q67 + 1 + 1) 0 (Q3i).toArray ?hxn45 ?hyn45 ?htn45 (qzb _) (qzh _) ?_)
   try (case hxn45 => rfl)
   try (case hyn45 => rfl)
   case htn45 => exact F9
   refine bodyPost_ret (v := .agg (Q3i).toArray) ?_ rfl ⟨by rw [hv.out], ?_⟩
   ·exact qz3 Try.results116 _ _ (Q67 + 1 + 1) 0 rfl Q3i _ (Q6d _ _ _ _ F9) Q6g rfl (qz4 _)
   ·exact Below.setCells (by omega) _ _ _ K9
  obtain ⟨n, hn⟩ : ∃ n : Nat, h.curr = n := ⟨h.curr.toNat, by omega⟩
  have hnl : n < Q69 := by omega
  have hnl' : (n : Int) < (Q69 : Int) := by omega
  have hnl0 : (0 : Int) <= (n : Int) := by omega
  have hnd : ndOf A h.curr = A.nodes[n] := by rw [hn, qz25 A n hnl]
  obtain ⟨bn, on, rfl, hbn, RN⟩ := qzs.at I1.n (by omega)
  have e3 : ¬ (Q67 + 1 = bn) := by omega
  have m0 : w1.cell? ⟨bn, on + n * 3, none⟩ = some (.int .i64 A.nodes[n].key) := by simpa using (qzi (sz := 3) (fun _ => rfl) RN n hnl) 0 _ rfl
  rw [hn] at q16
  have hnH : Hid (h.curr = n) := hn
  clear RN hn
  by_cases kk : h.key <= A.nodes[n].key
  case neg =>
   go_quiet (fail)
   have X2 : (Q0x).rangeAt Q67 0 Q4p := qz3g X1 (a := ⟨Q67 + 1, 17, none⟩) (by show Q67 + 1 ≠ Q67; omega) _
   have H2 : (Q0x).rangeAt (Q67 + 1) 0 (hdC { h with currVer := h.ver }) := qza H1 17 (by simp [hdC]) _
   have G2 : (Q0x).there (Q67 + 1) 0 22 := qz2 G1 _ _
   have F2 : (Q0x).there (Q67 + 1 + 1) 0 22 := qz2 F1 _ _
   have KS := Below.setCell K1 (p := ⟨Q67 + 1, 17, none⟩) (by show Q67 <= Q67 + 1; omega) (.int .i64 h.ver)
   have K2 : Below Q67 w Q0x := ⟨KS.os, KS.tape, KS.output, KS.size, KS.block⟩
   have KT := Below.setCell (Q6c B w1) (p := ⟨Q67 + 1, 17, none⟩) (by show B <= Q67 + 1; omega) (.int .i64 h.ver)
   have I2 := I1.below (w' := Q0x) ⟨KT.os, KT.tape, KT.output, KT.size, KT.block⟩
   have V2 : (Q0x).cell? ⟨Q6n, 0, none⟩ = some (.int .i64 A.vers[v].next) := (World.cell?_setCell_other _ _ _ _ (by simp)).trans v0
   have hz2 : Q67 + 1 + 1 < (Q0x).heap.size := by show _ < (w1.setCell _ _).heap.size; rw [World.size_setCell]; exact hz1
   generalize hw2 : Q0x = w2 at *
   clear hw2 KS KT m0 x0 x1 x2 x3 x4 q0 q1 q3 q9 q10 q11 q14 q15 q16 q17 q19 f0 f10 f14 f15 f17 v0 v1 v2 X1 H1 G1 F1 K1 I1
   obtain ⟨x0, x1, x2, x3, x4⟩ := row5 X2
   have q14 : w2.cell? ⟨Q67 + 1, 14, none⟩ = some (.int .i64 h.pred) := by simpa using H2 14 _ rfl
   have q15 : w2.cell? ⟨Q67 + 1, 15, none⟩ = some (.int .i64 h.predVer) := by simpa using H2 15 _ rfl
   have q16 : w2.cell? ⟨Q67 + 1, 16, none⟩ = some (.int .i64 h.curr) := by simpa using H2 16 _ rfl
   have q17 : w2.cell? ⟨Q67 + 1, 17, none⟩ = some (.int .i64 h.ver) := by simpa using H2 17 _ rfl
   have f14 : w2.frozen? ⟨Q67 + 1, 14, none⟩ = false := by simpa using (G2 14 (by decide)).2
   have f15 : w2.frozen? ⟨Q67 + 1, 15, none⟩ = false := by simpa using (G2 15 (by decide)).2
   obtain ⟨H', hH⟩ : ∃ H' : Hd, Hid (H' = { h with currVer := h.ver, pred := max h.curr 0, predVer := h.ver }) := by exact ⟨_, rfl⟩
   have hv : Hid (onH A h = qz58 A H' A.vers[v].next) := by show _ = _; rw [hH.out]; simp [onH, t2, hvr, kg, hnd, kk]
   go_upto_region 21 with (first | (go_at_call 103; refine (qz16 _ _ _).mono ?_; rintro e w' ⟨rfl, hw⟩; obtain rfl := hw.symm))
   go_wp2_with (first | (refine Q6h rfl 56 (.tmp 3) rfl (Q67 + 1) 0 ?hxln46 (hdC H') _ ?hcn46 Q6g rfl (qz4 H') ?_))
   try (case hxln46 => rfl)
   case hcn46 => rw [hH.out]; exact (qza (qza H2 14 (by simp [hdC]) _) 15 (by simp [hdC]) _)
   refine (qz5g B A H' A.vers[v].next _ _ _ _ _ _ _ _ _ (by first | omega | (simp; omega)) hA' (I2.below (Below.setCell (Below.setCell (Q6c B w2) (p := ⟨Q67 + 1, 14, none⟩) (by show B <= Q67 + 1; omega) _) (p := ⟨Q67 + 1, 15, none⟩) (by show B <= Q67 + 1; omega) _))).mono ?_
   rintro e w9 ⟨rfl, b9⟩
   have F9 := qz5 (qz2 (qz2 F2 _ _) _ _) b9 (by first | omega | (simp; omega))
   have K9 := (Below.setCell (Below.setCell K2 (p := ⟨Q67 + 1, 14, none⟩) (by show Q67 <= Q67 + 1; omega) _) (p := ⟨Q67 + 1, 15, none⟩) (by show Q67 <= Q67 + 1; omega) _).trans (b9.mono (by first | omega | (simp; omega)))
   go_wp2_with (refine Q6b rfl 56 (.tmp 4) _ rfl (Q67 + 1 + 1) 0 (Q3i).toArray ?hxn46 ?hyn46 ?htn46 (qzb _) (qzh _) ?_)
   try (case hxn46 => rfl)
   try (case hyn46 => rfl)
   case htn46 => exact F9
   refine bodyPost_ret (v := .agg (Q3i).toArray) ?_ rfl ⟨by rw [hv.out], ?_⟩
   ·exact qz3 Try.results116 _ _ (Q67 + 1 + 1) 0 rfl Q3i _ (Q6d _ _ _ _ F9) Q6g rfl (qz4 _)
   ·exact Below.setCells (by omega) _ _ _ K9
  go_quiet (fail)
  have X2 : (Q0x).rangeAt Q67 0 Q4p := qz3g X1 (a := ⟨Q67 + 1, 17, none⟩) (by show Q67 + 1 ≠ Q67; omega) _
  have H2 : (Q0x).rangeAt (Q67 + 1) 0 (hdC { h with currVer := h.ver }) := qza H1 17 (by simp [hdC]) _
  have G2 : (Q0x).there (Q67 + 1) 0 22 := qz2 G1 _ _
  have F2 : (Q0x).there (Q67 + 1 + 1) 0 22 := qz2 F1 _ _
  have KS := Below.setCell K1 (p := ⟨Q67 + 1, 17, none⟩) (by show Q67 <= Q67 + 1; omega) (.int .i64 h.ver)
  have K2 : Below Q67 w Q0x := ⟨KS.os, KS.tape, KS.output, KS.size, KS.block⟩
  have KT := Below.setCell (Q6c B w1) (p := ⟨Q67 + 1, 17, none⟩) (by show B <= Q67 + 1; omega) (.int .i64 h.ver)
  have I2 := I1.below (w' := Q0x) ⟨KT.os, KT.tape, KT.output, KT.size, KT.block⟩
  have V2 : (Q0x).cell? ⟨Q6n, 0, none⟩ = some (.int .i64 A.vers[v].next) := (World.cell?_setCell_other _ _ _ _ (by simp)).trans v0
  have hz2 : Q67 + 1 + 1 < (Q0x).heap.size := by show _ < (w1.setCell _ _).heap.size; rw [World.size_setCell]; exact hz1
  generalize hw2 : Q0x = w2 at *
  clear hw2 KS KT m0 x0 x1 x2 x3 x4 q0 q1 q3 q9 q10 q11 q14 q15 q16 q17 q19 f0 f10 f14 f15 f17 v0 v1 v2 X1 H1 G1 F1 K1 I1
  obtain ⟨x0, x1, x2, x3, x4⟩ := row5 X2
  obtain ⟨H', hH⟩ : ∃ H' : Hd, Hid (H' = { h with currVer := h.ver }) := by exact ⟨_, rfl⟩
  have hv : Hid (onH A h = qz2a A H') := by show _ = _; rw [hH.out]; simp [onH, t2, hvr, kg, kc, hnd, kk]
  go_upto_region 18 with (first | (go_at_call 103; refine (qz16 _ _ _).mono ?_; rintro e w' ⟨rfl, hw⟩; obtain rfl := hw.symm))
  go_wp2_with (first | (refine Q6h rfl 56 (.tmp 3) rfl (Q67 + 1) 0 ?hxln47 (hdC H') _ ?hcn47 Q6g rfl (qz4 H') ?_))
  try (case hxln47 => rfl)
  case hcn47 => rw [hH.out]; exact H2
  refine (qz76 B A H' _ _ _ _ _ _ _ _ _ (by first | omega | (simp; omega)) hA' (I2.below (Q6c B w2)) (by rw [hH.out]; exact hcu)).mono ?_
  rintro e w9 ⟨rfl, b9⟩
  have F9 := qz5 F2 b9 (by first | omega | (simp; omega))
  have K9 := K2.trans (b9.mono (by first | omega | (simp; omega)))
  go_wp2_with (refine Q6b rfl 56 (.tmp 4) _ rfl (Q67 + 1 + 1) 0 (hdC (qz2a A H')).toArray ?hxn47 ?hyn47 ?htn47 (qzb _) (qzh _) ?_)
  try (case hxn47 => rfl)
  try (case hyn47 => rfl)
  case htn47 => exact F9
  refine bodyPost_ret (v := .agg (hdC (qz2a A H')).toArray) ?_ rfl ⟨by rw [hv.out], ?_⟩
  ·exact qz3 Try.results116 _ _ (Q67 + 1 + 1) 0 rfl (hdC (qz2a A H')) _ (Q6d _ _ _ _ F9) Q6g rfl (qz4 _)
  ·exact Below.setCells (by omega) _ _ _ K9
 have b2 : (h.then_ == 2) = false := by simp [t2]
 by_cases t3 : h.then_ = 3
 case pos =>
  obtain ⟨H', hH⟩ : ∃ H' : Hd, Hid (H' = { h with predVer := h.ver }) := by exact ⟨_, rfl⟩
  have hv : Hid (onH A h = qz58 A H' A.vers[v].next) := by show _ = _; rw [hH.out]; simp [onH, t3, hvr]
  go_upto_region 24 with (first | (go_at_call 103; refine (qz16 _ _ _).mono ?_; rintro e w' ⟨rfl, hw⟩; obtain rfl := hw.symm))
  go_wp2_with (first | (refine Q6h rfl 56 (.tmp 3) rfl (Q67 + 1) 0 ?hxln48 (hdC H') _ ?hcn48 Q6g rfl (qz4 H') ?_))
  try (case hxln48 => rfl)
  case hcn48 => rw [hH.out]; exact (qza H1 15 (by simp [hdC]) _)
  refine (qz5g B A H' A.vers[v].next _ _ _ _ _ _ _ _ _ (by first | omega | (simp; omega)) hA' (I1.below (Below.setCell (Q6c B w1) (p := ⟨Q67 + 1, 15, none⟩) (by show B <= Q67 + 1; omega) _))).mono ?_
  rintro e w9 ⟨rfl, b9⟩
  have F9 := qz5 (qz2 F1 _ _) b9 (by first | omega | (simp; omega))
  have K9 := (Below.setCell K1 (p := ⟨Q67 + 1, 15, none⟩) (by show Q67 <= Q67 + 1; omega) _).trans (b9.mono (by first | omega | (simp; omega)))
  go_wp2_with (refine Q6b rfl 56 (.tmp 4) _ rfl (Q67 + 1 + 1) 0 (Q3i).toArray ?hxn48 ?hyn48 ?htn48 (qzb _) (qzh _) ?_)
  try (case hxn48 => rfl)
  try (case hyn48 => rfl)
  case htn48 => exact F9
  refine bodyPost_ret (v := .agg (Q3i).toArray) ?_ rfl ⟨by rw [hv.out], ?_⟩
  ·exact qz3 Try.results116 _ _ (Q67 + 1 + 1) 0 rfl Q3i _ (Q6d _ _ _ _ F9) Q6g rfl (qz4 _)
  ·exact Below.setCells (by omega) _ _ _ K9
 have b3 : (h.then_ == 3) = false := by simp [t3]
 by_cases t4 : h.then_ = 4
 case pos =>
  obtain ⟨H', hH⟩ : ∃ H' : Hd, Hid (H' = { h with at_ := 10 }) := by exact ⟨_, rfl⟩
  have hv : Hid (onH A h = H') := by show _ = _; rw [hH.out]; simp [onH, t4]
  go_upto_region 37 with (first | (go_at_call 103; refine (qz16 _ _ _).mono ?_; rintro e w' ⟨rfl, hw⟩; obtain rfl := hw.symm))
  go_wp2_with (first | (refine Q6h rfl 56 (.tmp 3) rfl (Q67 + 1) 0 ?hxln49 (hdC H') _ ?hcn49 Q6g rfl (qz4 H') ?_) | (refine Q6b rfl 56 (.tmp 4) _ rfl (Q67 + 1 + 1) 0 (hdC H').toArray ?hxn49 ?hyn49 ?htn49 (qzb _) (qzh _) ?_))
  try (case hxln49 => rfl)
  case hcn49 => rw [hH.out]; exact (qza H1 0 (by simp [hdC]) _)
  try (case hxn49 => rfl)
  try (case hyn49 => rfl)
  case htn49 => exact (qz2 F1 _ _)
  refine bodyPost_ret (v := .agg (hdC H').toArray) ?_ rfl ⟨by rw [hv.out], ?_⟩
  ·exact qz3 Try.results116 _ _ (Q67 + 1 + 1) 0 rfl (hdC H') _ (Q6d _ _ _ _ (qz2 F1 _ _)) Q6g rfl (qz4 _)
  ·exact Below.setCells (by omega) _ _ _ (Below.setCell K1 (p := ⟨Q67 + 1, 0, none⟩) (by show Q67 <= Q67 + 1; omega) _)
 have b4 : (h.then_ == 4) = false := by simp [t4]
 by_cases t5 : h.then_ = 5
 case pos =>
  obtain ⟨H', hH⟩ : ∃ H' : Hd, Hid (H' = { h with at_ := 12 }) := by exact ⟨_, rfl⟩
  have hv : Hid (onH A h = H') := by show _ = _; rw [hH.out]; simp [onH, t5]
  go_upto_region 37 with (first | (go_at_call 103; refine (qz16 _ _ _).mono ?_; rintro e w' ⟨rfl, hw⟩; obtain rfl := hw.symm))
  go_wp2_with (first | (refine Q6h rfl 56 (.tmp 3) rfl (Q67 + 1) 0 ?hxln50 (hdC H') _ ?hcn50 Q6g rfl (qz4 H') ?_) | (refine Q6b rfl 56 (.tmp 4) _ rfl (Q67 + 1 + 1) 0 (hdC H').toArray ?hxn50 ?hyn50 ?htn50 (qzb _) (qzh _) ?_))
  try (case hxln50 => rfl)
  case hcn50 => rw [hH.out]; exact (qza H1 0 (by simp [hdC]) _)
  try (case hxn50 => rfl)
  try (case hyn50 => rfl)
  case htn50 => exact (qz2 F1 _ _)
  refine bodyPost_ret (v := .agg (hdC H').toArray) ?_ rfl ⟨by rw [hv.out], ?_⟩
  ·exact qz3 Try.results116 _ _ (Q67 + 1 + 1) 0 rfl (hdC H') _ (Q6d _ _ _ _ (qz2 F1 _ _)) Q6g rfl (qz4 _)
  ·exact Below.setCells (by omega) _ _ _ (Below.setCell K1 (p := ⟨Q67 + 1, 0, none⟩) (by show Q67 <= Q67 + 1; omega) _)
 have b5 : (h.then_ == 5) = false := by simp [t5]
 by_cases t6 : h.then_ = 6
 case pos =>
  by_cases ks : A.vers[v].stamp <= h.held
  ·obtain ⟨H', hH⟩ : ∃ H' : Hd, Hid (H' = h) := by exact ⟨_, rfl⟩
   have hv : Hid (onH A h = useH A H') := by show _ = _; rw [hH.out]; simp [onH, t6, hvr, ks]
   go_upto_region 31 with (first | (go_at_call 103; refine (qz16 _ _ _).mono ?_; rintro e w' ⟨rfl, hw⟩; obtain rfl := hw.symm))
   go_wp2_with (first | (refine Q6h rfl 56 (.tmp 3) rfl (Q67 + 1) 0 ?hxln51 (hdC H') _ ?hcn51 Q6g rfl (qz4 H') ?_))
   try (case hxln51 => rfl)
   case hcn51 => rw [hH.out]; exact H1
   refine (qz89 B A H' _ _ _ _ _ _ _ _ _ (by first | omega | (simp; omega)) hA' (I1.below (Q6c B w1)) x y z u hOk (by rw [hH.out]; exact hv0) (by rw [hH.out]; exact hv1) (by rw [hH.out]; exact hx0) (by rw [hH.out]; exact hx1) (by rw [hH.out]; exact ho0) (by rw [hH.out]; exact ho1) (by rw [hH.out]; exact hs0) (by rw [hH.out]; exact hs1)).mono ?_
   rintro e w9 ⟨rfl, b9⟩
   have F9 := qz5 F1 b9 (by first | omega | (simp; omega))
   have K9 := K1.trans (b9.mono (by first | omega | (simp; omega)))
   go_wp2_with (refine Q6b rfl 56 (.tmp 4) _ rfl (Q67 + 1 + 1) 0 (hdC (useH A H')).toArray ?hxn51 ?hyn51 ?htn51 (qzb _) (qzh _) ?_)
   try (case hxn51 => rfl)
   try (case hyn51 => rfl)
   case htn51 => exact F9
   refine bodyPost_ret (v := .agg (hdC (useH A H')).toArray) ?_ rfl ⟨by rw [hv.out], ?_⟩
   ·exact qz3 Try.results116 _ _ (Q67 + 1 + 1) 0 rfl (hdC (useH A H')) _ (Q6d _ _ _ _ F9) Q6g rfl (qz4 _)
   ·exact Below.setCells (by omega) _ _ _ K9
  obtain ⟨H', hH⟩ : ∃ H' : Hd, Hid (H' = { h with at_ := 19 }) := by exact ⟨_, rfl⟩
  have hv : Hid (onH A h = H') := by show _ = _; rw [hH.out]; simp [onH, t6, hvr, ks]
  go_upto_region 37 with (first | (go_at_call 103; refine (qz16 _ _ _).mono ?_; rintro e w' ⟨rfl, hw⟩; obtain rfl := hw.symm))
  go_wp2_with (first | (refine Q6h rfl 56 (.tmp 3) rfl (Q67 + 1) 0 ?hxln52 (hdC H') _ ?hcn52 Q6g rfl (qz4 H') ?_) | (refine Q6b rfl 56 (.tmp 4) _ rfl (Q67 + 1 + 1) 0 (hdC H').toArray ?hxn52 ?hyn52 ?htn52 (qzb _) (qzh _) ?_))
  try (case hxln52 => rfl)
  case hcn52 => rw [hH.out]; exact (qza H1 0 (by simp [hdC]) _)
  try (case hxn52 => rfl)
  try (case hyn52 => rfl)
  case htn52 => exact (qz2 F1 _ _)
  refine bodyPost_ret (v := .agg (hdC H').toArray) ?_ rfl ⟨by rw [hv.out], ?_⟩
  ·exact qz3 Try.results116 _ _ (Q67 + 1 + 1) 0 rfl (hdC H') _ (Q6d _ _ _ _ (qz2 F1 _ _)) Q6g rfl (qz4 _)
  ·exact Below.setCells (by omega) _ _ _ (Below.setCell K1 (p := ⟨Q67 + 1, 0, none⟩) (by show Q67 <= Q67 + 1; omega) _)
 have b6 : (h.then_ == 6) = false := by simp [t6]
 by_cases t7 : h.then_ = 7
 case pos =>
  by_cases ks : A.vers[v].stamp <= h.least
  ·obtain ⟨H', hH⟩ : ∃ H' : Hd, Hid (H' = { h with at_ := 23 }) := by exact ⟨_, rfl⟩
   have hv : Hid (onH A h = H') := by show _ = _; rw [hH.out]; simp [onH, t7, hvr, ks]
   go_upto_region 37 with (first | (go_at_call 103; refine (qz16 _ _ _).mono ?_; rintro e w' ⟨rfl, hw⟩; obtain rfl := hw.symm))
   go_wp2_with (first | (refine Q6h rfl 56 (.tmp 3) rfl (Q67 + 1) 0 ?hxln53 (hdC H') _ ?hcn53 Q6g rfl (qz4 H') ?_) | (refine Q6b rfl 56 (.tmp 4) _ rfl (Q67 + 1 + 1) 0 (hdC H').toArray ?hxn53 ?hyn53 ?htn53 (qzb _) (qzh _) ?_))
   try (case hxln53 => rfl)
   case hcn53 => rw [hH.out]; exact (qza (qza H1 0 (by simp [hdC]) _) 0 (by simp [hdC]) _)
   try (case hxn53 => rfl)
   try (case hyn53 => rfl)
   case htn53 => exact (qz2 (qz2 F1 _ _) _ _)
   refine bodyPost_ret (v := .agg (hdC H').toArray) ?_ rfl ⟨by rw [hv.out], ?_⟩
   ·exact qz3 Try.results116 _ _ (Q67 + 1 + 1) 0 rfl (hdC H') _ (Q6d _ _ _ _ (qz2 (qz2 F1 _ _) _ _)) Q6g rfl (qz4 _)
   ·exact Below.setCells (by omega) _ _ _ (Below.setCell (Below.setCell K1 (p := ⟨Q67 + 1, 0, none⟩) (by show Q67 <= Q67 + 1; omega) _) (p := ⟨Q67 + 1, 0, none⟩) (by show Q67 <= Q67 + 1; omega) _)
  obtain ⟨H', hH⟩ : ∃ H' : Hd, Hid (H' = { h with at_ := 22 }) := by exact ⟨_, rfl⟩
  have hv : Hid (onH A h = H') := by show _ = _; rw [hH.out]; simp [onH, t7, hvr, ks]
  go_upto_region 37 with (first | (go_at_call 103; refine (qz16 _ _ _).mono ?_; rintro e w' ⟨rfl, hw⟩; obtain rfl := hw.symm))
  go_wp2_with (first | (refine Q6h rfl 56 (.tmp 3) rfl (Q67 + 1) 0 ?hxln54 (hdC H') _ ?hcn54 Q6g rfl (qz4 H') ?_) | (refine Q6b rfl 56 (.tmp 4) _ rfl (Q67 + 1 + 1) 0 (hdC H').toArray ?hxn54 ?hyn54 ?htn54 (qzb _) (qzh _) ?_))
  try (case hxln54 => rfl)
  case hcn54 => rw [hH.out]; exact (qza H1 0 (by simp [hdC]) _)
  try (case hxn54 => rfl)
  try (case hyn54 => rfl)
  case htn54 => exact (qz2 F1 _ _)
  refine bodyPost_ret (v := .agg (hdC H').toArray) ?_ rfl ⟨by rw [hv.out], ?_⟩
  ·exact qz3 Try.results116 _ _ (Q67 + 1 + 1) 0 rfl (hdC H') _ (Q6d _ _ _ _ (qz2 F1 _ _)) Q6g rfl (qz4 _)
  ·exact Below.setCells (by omega) _ _ _ (Below.setCell K1 (p := ⟨Q67 + 1, 0, none⟩) (by show Q67 <= Q67 + 1; omega) _)
 have b7 : (h.then_ == 7) = false := by simp [t7]
 obtain ⟨H', hH⟩ : ∃ H' : Hd, Hid (H' = { h with at_ := 0 }) := by exact ⟨_, rfl⟩
 have hv : Hid (onH A h = H') := by show _ = _; rw [hH.out]; simp [onH, t1, t2, t3, t4, t5, t6, t7]
 go_upto_region 37 with (first | (go_at_call 103; refine (qz16 _ _ _).mono ?_; rintro e w' ⟨rfl, hw⟩; obtain rfl := hw.symm))
 go_wp2_with (first | (refine Q6h rfl 56 (.tmp 3) rfl (Q67 + 1) 0 ?hxln55 (hdC H') _ ?hcn55 Q6g rfl (qz4 H') ?_) | (refine Q6b rfl 56 (.tmp 4) _ rfl (Q67 + 1 + 1) 0 (hdC H').toArray ?hxn55 ?hyn55 ?htn55 (qzb _) (qzh _) ?_))
 try (case hxln55 => rfl)
 case hcn55 => rw [hH.out]; exact (qza H1 0 (by simp [hdC]) _)
 try (case hxn55 => rfl)
 try (case hyn55 => rfl)
 case htn55 => exact (qz2 F1 _ _)
 refine bodyPost_ret (v := .agg (hdC H').toArray) ?_ rfl ⟨by rw [hv.out], ?_⟩
 ·exact qz3 Try.results116 _ _ (Q67 + 1 + 1) 0 rfl (hdC H') _ (Q6d _ _ _ _ (qz2 F1 _ _)) Q6g rfl (qz4 _)
 ·exact Below.setCells (by omega) _ _ _ (Below.setCell K1 (p := ⟨Q67 + 1, 0, none⟩) (by show Q67 <= Q67 + 1; omega) _)
end
end Go.Proofs.Ythjkdnlmopafkaa
