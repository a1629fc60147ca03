/-
  What the law's proof goes by, part 22.
-/
import Derived.Lib.QuietBelow
import Derived.BigQuiet
import Derived.Test.YthjkdnlmopafkaaFnBlank00
import Derived.Test.YthjkdnlmopafkaaFnBlank11
import Derived.Test.YthjkdnlmopafkaaFnBlank13
namespace Go.Proofs.Ythjkdnlmopafkaa
open Go.ChangeShapes Go.WideShapes Go.ChangeAt Go.RowKit
set_option maxRecDepth 100000
set_option maxHeartbeats 16000000
set_option linter.unusedVariables false
set_option linter.unusedSimpArgs false
set_option linter.unnecessarySimpa false
set_option linter.unusedSectionVars false
section
open Go.ChangeShapes Go.WideShapes Go.ChangeAt Go.RowKit Go.Sort
attribute [local go_sem ↓] Go.wp_at_zero Go.wp_at_succ
theorem qzat (B : Nat) (A : Ar) (h : Hd) (d : Dd) (tk : Bool) (a0 a1 a2 a3 : Option Addr) (c0 c1 c2 c3 : Nat) (w : World) (hB : B <= Q67) (hA : A.size <= 1048576) (I : qz1i B w Q17 Q18 Q1b Q1t A) (x y z u : Int) (hOk : qz17 x y z u A = true) (hv0 : 0 <= h.ver) (hv1 : h.ver < (Q6a : Int)) (hx0 : 0 <= h.x_) (hx1 : h.x_ < (Q69 : Int)) (ho0 : 0 <= h.out) (ho1 : h.out <= 1000000) (hs0 : 0 <= h.sum) (hs1 : h.sum <= 1000000) :
  Calls Try.prog 110 #[.agg (Q45).toArray] w fun e w' => e = .returned (.agg (qz9 Q6e Q17 Q18 Q1b Q1t (qz9c A h) d tk).toArray) /\ Below Q67 w w' := by
 have hA' := hA
 unfold Ar.size at hA
 have X0 := Q6w (qz7 w Q45 143) (.cells Q01 143)
 have G0 := World.there_alloc (qzf w (Q45).toArray 143 33 (by rw [List.size_toArray, qz2j]; exact Q6f _)) (.cells Q01 143)
 have F0 := qzf (w.alloc (.cells (Q45).toArray 143)) Q01 143 33 (by decide)
 have K0 := ((Q6c Q67 w).alloc (Q6f _) (.cells (Q45).toArray 143)).alloc (by simp) (.cells Q01 143)
 have hz0 : Q67 + 1 < ((w.alloc (.cells (Q45).toArray 143)).alloc (.cells Q01 143)).heap.size := by simp
 simp only [World.size_alloc] at F0
 have I0 := I.below (K0.mono hB)
 go_enter Try.func110, Try.ntmps110
 have tok : True := trivial
 go_wp2_with (clear tok; refine qz2o ((w.alloc (.cells (Q45).toArray 143)).alloc (.cells Q01 143)) ?_)
 generalize hw0 : (w.alloc (.cells (Q45).toArray 143)).alloc (.cells Q01 143) = w0 at *
 clear hw0 I
 show wpList _ _ _ _ _ w0
 obtain ⟨XA, XH, XD, XT⟩ := qzt X0
 obtain ⟨x0, x1, x2, x3, x4⟩ := row5 XA
 obtain ⟨v, hv⟩ : ∃ v : Nat, h.ver = v := ⟨h.ver.toNat, by omega⟩
 have hvl : v < Q6a := by omega
 have hvl' : (v : Int) < (Q6a : Int) := by omega
 have hvl0 : (0 : Int) <= (v : Int) := by omega
 have hvr : vrOf A h.ver = A.vers[v] := by rw [hv, qz2x A v hvl]
 have hver := qz4o hOk v hvl
 obtain ⟨bb, off, rfl, hbb, R⟩ := qzs.at I0.r (by omega)
 have v3 : w0.cell? ⟨bb, off + v * 5 + 3, none⟩ = some (.int .i64 A.vers[v].prev) := (qzi (sz := 5) (fun _ => rfl) R v hvl) 3 _ rfl
 have q11 : w0.cell? ⟨Q67, 16, none⟩ = some (.int .i64 h.ver) := by simpa using XH 11 _ rfl
 have f11 : w0.frozen? ⟨Q67, 16, none⟩ = false := by simpa using (G0 16 (by decide)).2
 rw [hv] at q11
 by_cases hp : A.vers[v].prev < 0
 case pos =>
  have hd : Hid (qz9c A h = qz8 h 7 0 0) := by show _ = _; simp [qz9c, hvr, hp]
  go_upto_region 3 with fail
  go_wp2_with (refine Q6h rfl 56 (.tmp 15) rfl Q67 5 ?ax (hdC h) _ ?ac Q6g rfl (qz4 h) ?_)
  try (case ax => rfl)
  try (case ac => exact XH)
  refine (qzq h 7 0 0 _).mono ?_
  rintro e w1 ⟨rfl, b1⟩
  have X1 := qz0 X0 b1 (by omega)
  have G1 := qz5 G0 b1 (by omega)
  have F1 := qz5 F0 b1 (by omega)
  have K1 := K0.trans (b1.mono (by omega))
  have T1 := qz14 G1 5 22 (by omega)
  rw [Nat.zero_add] at T1
  go_wp2_with (first | (refine Q6b rfl 56 (.tmp 18) _ rfl Q67 5 (hdC (qz8 h 7 0 0)).toArray ?bx1 ?by1 ?bt1 (qzb _) (qzh _) ?_) | (refine Q6h rfl 143 (.tmp 1) rfl Q67 0 ?cx1 Q5b _ ?cc1 Q6k rfl (qz6 _ _ _ _ _ _ _ _) ?_) | (refine Q6b rfl 143 (.tmp 2) _ rfl (Q67 + 1) 0 (Q5b).toArray ?dx1 ?dy1 ?dt1 (qzp _ _ _ _ _ _ _ _) Q0v ?_))
  try (case bx1 => rfl)
  try (case by1 => rfl)
  try (case bt1 => exact T1)
  try (case cx1 => rfl)
  try (case cc1 => exact qz9z X1 T1 _)
  try (case dx1 => rfl)
  try (case dy1 => rfl)
  try (case dt1 => exact Q6z F1 _ _ _)
  refine bodyPost_ret (v := .agg (Q5b).toArray) ?_ rfl ⟨by rw [hd.out], ?_⟩
  ·exact qz3 Try.results110 _ _ (Q67 + 1) 0 rfl Q5b _ (Q6d _ _ _ _ (Q6z F1 _ _ _)) Q6k rfl (qz6 _ _ _ _ _ _ _ _)
  ·exact Below.setCells (by omega) _ _ _ (Below.setCells (Q6f _) _ _ _ K1)
 obtain ⟨p, hpp⟩ : ∃ p : Nat, A.vers[v].prev = p := ⟨A.vers[v].prev.toNat, by omega⟩
 have hpl : p < Q6a := by omega
 have hpl' : (p : Int) < (Q6a : Int) := by omega
 have hpl0 : (0 : Int) <= (p : Int) := by omega
 have hp3 : ¬ ((p : Int) < 0) := by omega
 have hpr : vrOf A (p : Int) = A.vers[p] := qz2x A p hpl
 rw [hpp] at v3
 have hbk : Hid (qz9c A h = if qz1z A (p : Int) = true /\ A.vers[p].stamp <= h.held then useH A { h with ver := (p : Int) } else { h with ver := (p : Int) }) := by
  show _ = _
  unfold qz9c
  rw [hvr, hpp, if_neg hp3, hpr]
 have hvH : Hid (h.ver = v) := hv
 clear hv
 go_upto_region 6 with fail
 have Xa : (w0.setCell ⟨Q67, 16, none⟩ (.int .i64 (p : Int))).rangeAt Q67 0 (qz9 Q6e Q17 Q18 Q1b Q1f { h with ver := (p : Int) } d tk) := qza X0 16 (by rw [qz2j]; omega) _
 have Ga : (w0.setCell ⟨Q67, 16, none⟩ (.int .i64 (p : Int))).there Q67 0 33 := qz2 G0 _ _
 have Fa : (w0.setCell ⟨Q67, 16, none⟩ (.int .i64 (p : Int))).there (Q67 + 1) 0 33 := qz2 F0 _ _
 have Ka := Below.setCell K0 (p := ⟨Q67, 16, none⟩) (Q6f _) (.int .i64 (p : Int))
 have Ia := I0.below (Below.setCell (Q6c B w0) (p := ⟨Q67, 16, none⟩) hB (.int .i64 (p : Int)))
 have hza : Q67 + 1 < (w0.setCell ⟨Q67, 16, none⟩ (.int .i64 (p : Int))).heap.size := by rw [World.size_setCell]; exact hz0
 generalize hwa : w0.setCell ⟨Q67, 16, none⟩ (.int .i64 (p : Int)) = wa at *
 clear hwa X0 G0 F0 K0 I0 hz0 XA XH XD XT x0 x1 x2 x3 x4 v3 q11 f11 R
 obtain ⟨XA, XH, -, -⟩ := qzt Xa
 obtain ⟨x0, x1, x2, x3, x4⟩ := row5 XA
 obtain ⟨bc, oc, e0, hbc, R⟩ := qzs.at Ia.r (by omega)
 cases e0
 have s2 : wa.cell? ⟨bb, off + p * 5 + 2, none⟩ = some (.int .i64 A.vers[p].stamp) := (qzi (sz := 5) (fun _ => rfl) R p hpl) 2 _ rfl
 have q9 : wa.cell? ⟨Q67, 14, none⟩ = some (.int .i64 h.held) := by simpa using XH 9 _ rfl
 cases hst : qz1z A (p : Int)
 case false =>
  have hd : Hid (qz9c A h = { h with ver := (p : Int) }) := by show _ = _; rw [hbk.out, if_neg (by rw [hst]; simp)]
  have y0 : ∀ (dq : Nat) (os : Array Obj), (grow (redrawn wa dq) os).cell? ⟨Q67, 0, none⟩ = some (.int .i64 Q6e) := fun dq os => cell_regrown x0 dq os
  have y1 : ∀ (dq : Nat) (os : Array Obj), (grow (redrawn wa dq) os).cell? ⟨Q67, 1, none⟩ = some Q17 := fun dq os => cell_regrown x1 dq os
  have y2 : ∀ (dq : Nat) (os : Array Obj), (grow (redrawn wa dq) os).cell? ⟨Q67, 2, none⟩ = some Q18 := fun dq os => cell_regrown x2 dq os
  have y3 : ∀ (dq : Nat) (os : Array Obj), (grow (redrawn wa dq) os).cell? ⟨Q67, 3, none⟩ = some Q1b := fun dq os => cell_regrown x3 dq os
  have y4 : ∀ (dq : Nat) (os : Array Obj), (grow (redrawn wa dq) os).cell? ⟨Q67, 4, none⟩ = some Q1f := fun dq os => cell_regrown x4 dq os
  have y9 : ∀ (dq : Nat) (os : Array Obj), (grow (redrawn wa dq) os).cell? ⟨Q67, 14, none⟩ = some (.int .i64 h.held) := fun dq os => cell_regrown q9 dq os
  have ys : ∀ (dq : Nat) (os : Array Obj), (grow (redrawn wa dq) os).cell? ⟨bb, off + p * 5 + 2, none⟩ = some (.int .i64 A.vers[p].stamp) := fun dq os => cell_regrown s2 dq os
  have cS : ∀ (dq : Nat) (os : Array Obj), Calls Try.prog 115 #[.agg Q3d, .int .i64 (p : Int)] (grow (redrawn wa dq) os) fun e w'' => e = .returned (.bool false) /\ ∃ q : Regrown, w'' = grow (redrawn wa q.d) q.os := fun dq os => by
   have hbq := below_regrown wa dq os
   have hcl := qz1n B A (p : Int) a0 a1 a2 (some ⟨bb, off, none⟩) c0 c1 c2 c3 (grow (redrawn wa dq) os) (Q6s hB (Q6s (Nat.le_of_lt (Nat.lt_of_succ_lt hza)) hbq.size)) hA' (Ia.below (hbq.mono (by omega)))
   rw [hst] at hcl
   exact Calls.regrown_of hcl
  refine wp_region_quiet_below (by kernel_rfl) (by kernel_rfl) ?_
  repeat (go_big_quiet_step (exact cS _ _))
  refine wpQuiet_nil ?_
  intro _ hw'
  obtain ⟨⟨dq, osq⟩, hw''⟩ := hw'
  subst hw''
  have BB := below_regrown wa dq osq
  generalize grow (redrawn wa dq) osq = wb at *
  clear cS y0 y1 y2 y3 y4 y9 ys
  have Xb := qz0 Xa BB (by omega)
  have Gb := qz5 Ga BB (by omega)
  have Fb := qz5 Fa BB (by omega)
  have Kb := Ka.trans (BB.mono (by omega))
  have Ib := Ia.below (BB.mono (by omega))
  have zb := BB.size
  go_upto_region 8 with fail
  go_wp2_with (first | (refine Q6h rfl 143 (.tmp 1) rfl Q67 0 ?cx4 (qz9 Q6e Q17 Q18 Q1b Q1f { h with ver := (p : Int) } d tk) _ ?cc4 Q6k rfl (qz6 _ _ _ _ _ _ _ _) ?_) | (refine Q6b rfl 143 (.tmp 2) _ rfl (Q67 + 1) 0 (qz9 Q6e Q17 Q18 Q1b Q1f { h with ver := (p : Int) } d tk).toArray ?dx4 ?dy4 ?dt4 (qzp _ _ _ _ _ _ _ _) Q0v ?_))
  try (case cx4 => rfl)
  try (case cc4 => exact Xb)
  try (case dx4 => rfl)
  try (case dy4 => rfl)
  try (case dt4 => exact Fb)
  refine bodyPost_ret (v := .agg (qz9 Q6e Q17 Q18 Q1b Q1f { h with ver := (p : Int) } d tk).toArray) ?_ rfl ⟨by rw [hd.out], ?_⟩
  ·exact qz3 Try.results110 _ _ (Q67 + 1) 0 rfl (qz9 Q6e Q17 Q18 Q1b Q1f { h with ver := (p : Int) } d tk) _ (Q6d _ _ _ _ Fb) Q6k rfl (qz6 _ _ _ _ _ _ _ _)
  ·exact Below.setCells (by omega) _ _ _ Kb
 by_cases hle : A.vers[p].stamp <= h.held
 case neg =>
  have hd : Hid (qz9c A h = { h with ver := (p : Int) }) := by show _ = _; rw [hbk.out, if_neg (fun hq => hle hq.2)]
  have y0 : ∀ (dq : Nat) (os : Array Obj), (grow (redrawn wa dq) os).cell? ⟨Q67, 0, none⟩ = some (.int .i64 Q6e) := fun dq os => cell_regrown x0 dq os
  have y1 : ∀ (dq : Nat) (os : Array Obj), (grow (redrawn wa dq) os).cell? ⟨Q67, 1, none⟩ = some Q17 := fun dq os => cell_regrown x1 dq os
  have y2 : ∀ (dq : Nat) (os : Array Obj), (grow (redrawn wa dq) os).cell? ⟨Q67, 2, none⟩ = some Q18 := fun dq os => cell_regrown x2 dq os
  have y3 : ∀ (dq : Nat) (os : Array Obj), (grow (redrawn wa dq) os).cell? ⟨Q67, 3, none⟩ = some Q1b := fun dq os => cell_regrown x3 dq os
  have y4 : ∀ (dq : Nat) (os : Array Obj), (grow (redrawn wa dq) os).cell? ⟨Q67, 4, none⟩ = some Q1f := fun dq os => cell_regrown x4 dq os
  have y9 : ∀ (dq : Nat) (os : Array Obj), (grow (redrawn wa dq) os).cell? ⟨Q67, 14, none⟩ = some (.int .i64 h.held) := fun dq os => cell_regrown q9 dq os
  have ys : ∀ (dq : Nat) (os : Array Obj), (grow (redrawn wa dq) os).cell? ⟨bb, off + p * 5 + 2, none⟩ = some (.int .i64 A.vers[p].stamp) := fun dq os => cell_regrown s2 dq os
  have cS : ∀ (dq : Nat) (os : Array Obj), Calls Try.prog 115 #[.agg Q3d, .int .i64 (p : Int)] (grow (redrawn wa dq) os) fun e w'' => e = .returned (.bool true) /\ ∃ q : Regrown, w'' = grow (redrawn wa q.d) q.os := fun dq os => by
   have hbq := below_regrown wa dq os
   have hcl := qz1n B A (p : Int) a0 a1 a2 (some ⟨bb, off, none⟩) c0 c1 c2 c3 (grow (redrawn wa dq) os) (Q6s hB (Q6s (Nat.le_of_lt (Nat.lt_of_succ_lt hza)) hbq.size)) hA' (Ia.below (hbq.mono (by omega)))
   rw [hst] at hcl
   exact Calls.regrown_of hcl
  refine wp_region_quiet_below (by kernel_rfl) (by kernel_rfl) ?_
  repeat (go_big_quiet_step (exact cS _ _))
  refine wpQuiet_nil ?_
  intro _ hw'
  obtain ⟨⟨dq, osq⟩, hw''⟩ := hw'
  subst hw''
  have BB := below_regrown wa dq osq
  generalize grow (redrawn wa dq) osq = wb at *
  clear cS y0 y1 y2 y3 y4 y9 ys
  have Xb := qz0 Xa BB (by omega)
  have Gb := qz5 Ga BB (by omega)
  have Fb := qz5 Fa BB (by omega)
  have Kb := Ka.trans (BB.mono (by omega))
  have Ib := Ia.below (BB.mono (by omega))
  have zb := BB.size
  go_upto_region 8 with fail
  go_wp2_with (first | (refine Q6h rfl 143 (.tmp 1) rfl Q67 0 ?cx5 (qz9 Q6e Q17 Q18 Q1b Q1f { h with ver := (p : Int) } d tk) _ ?cc5 Q6k rfl (qz6 _ _ _ _ _ _ _ _) ?_) | (refine Q6b rfl 143 (.tmp 2) _ rfl (Q67 + 1) 0 (qz9 Q6e Q17 Q18 Q1b Q1f { h with ver := (p : Int) } d tk).toArray ?dx5 ?dy5 ?dt5 (qzp _ _ _ _ _ _ _ _) Q0v ?_))
  try (case cx5 => rfl)
  try (case cc5 => exact Xb)
  try (case dx5 => rfl)
  try (case dy5 => rfl)
  try (case dt5 => exact Fb)
  refine bodyPost_ret (v := .agg (qz9 Q6e Q17 Q18 Q1b Q1f { h with ver := (p : Int) } d tk).toArray) ?_ rfl ⟨by rw [hd.out], ?_⟩
  ·exact qz3 Try.results110 _ _ (Q67 + 1) 0 rfl (qz9 Q6e Q17 Q18 Q1b Q1f { h with ver := (p : Int) } d tk) _ (Q6d _ _ _ _ Fb) Q6k rfl (qz6 _ _ _ _ _ _ _ _)
  ·exact Below.setCells (by omega) _ _ _ Kb
 have y0 : ∀ (dq : Nat) (os : Array Obj), (grow (redrawn wa dq) os).cell? ⟨Q67, 0, none⟩ = some (.int .i64 Q6e) := fun dq os => cell_regrown x0 dq os
 have y1 : ∀ (dq : Nat) (os : Array Obj), (grow (redrawn wa dq) os).cell? ⟨Q67, 1, none⟩ = some Q17 := fun dq os => cell_regrown x1 dq os
 have y2 : ∀ (dq : Nat) (os : Array Obj), (grow (redrawn wa dq) os).cell? ⟨Q67, 2, none⟩ = some Q18 := fun dq os => cell_regrown x2 dq os
 have y3 : ∀ (dq : Nat) (os : Array Obj), (grow (redrawn wa dq) os).cell? ⟨Q67, 3, none⟩ = some Q1b := fun dq os => cell_regrown x3 dq os
 have y4 : ∀ (dq : Nat) (os : Array Obj), (grow (redrawn wa dq) os).cell? ⟨Q67, 4, none⟩ = some Q1f := fun dq os => cell_regrown x4 dq os
 have y9 : ∀ (dq : Nat) (os : Array Obj), (grow (redrawn wa dq) os).cell? ⟨Q67, 14, none⟩ = some (.int .i64 h.held) := fun dq os => cell_regrown q9 dq os
 have ys : ∀ (dq : Nat) (os : Array Obj), (grow (redrawn wa dq) os).cell? ⟨bb, off + p * 5 + 2, none⟩ = some (.int .i64 A.vers[p].stamp) := fun dq os => cell_regrown s2 dq os
 have cS : ∀ (dq : Nat) (os : Array Obj), Calls Try.prog 115 #[.agg Q3d, .int .i64 (p : Int)] (grow (redrawn wa dq) os) fun e w'' => e = .returned (.bool true) /\ ∃ q : Regrown, w'' = grow (redrawn wa q.d) q.os := fun dq os => by
  have hbq := below_regrown wa dq os
  have hcl := qz1n B A (p : Int) a0 a1 a2 (some ⟨bb, off, none⟩) c0 c1 c2 c3 (grow (redrawn wa dq) os) (Q6s hB (Q6s (Nat.le_of_lt (Nat.lt_of_succ_lt hza)) hbq.size)) hA' (Ia.below (hbq.mono (by omega)))
  rw [hst] at hcl
  exact Calls.regrown_of hcl
 refine wp_region_quiet_below (by kernel_rfl) (by kernel_rfl) ?_
 repeat (go_big_quiet_step (exact cS _ _))
 refine wpQuiet_nil ?_
 intro _ hw'
 obtain ⟨⟨dq, osq⟩, hw''⟩ := hw'
 subst hw''
 have BB := below_regrown wa dq osq
 generalize grow (redrawn wa dq) osq = wb at *
 clear cS y0 y1 y2 y3 y4 y9 ys
 have Xb := qz0 Xa BB (by omega)
 have Gb := qz5 Ga BB (by omega)
 have Fb := qz5 Fa BB (by omega)
 have Kb := Ka.trans (BB.mono (by omega))
 have Ib := Ia.below (BB.mono (by omega))
 have zb := BB.size
 obtain ⟨H', hH⟩ : ∃ H' : Hd, Hid (H' = { h with ver := (p : Int) }) := by exact ⟨_, rfl⟩
 have hd : Hid (qz9c A h = useH A H') := by show _ = _; rw [hH.out, hbk.out, if_pos ⟨hst, hle⟩]
 rw [<- hH.out] at Xb
 have XHb := (qzt Xb).2.1
 obtain ⟨x0, x1, x2, x3, x4⟩ := row5 (qzt Xb).1
 go_upto_region 7 with fail
 go_wp2_with (refine Q6h rfl 56 (.tmp 42) rfl Q67 5 ?ex (hdC H') _ ?ec Q6g rfl (qz4 H') ?_)
 try (case ex => rfl)
 try (case ec => exact XHb)
 refine (qz89 B A H' _ _ _ _ _ _ _ _ _ (by omega) hA' Ib x y z u hOk (by rw [hH.out]; exact hpl0) (by rw [hH.out]; exact hpl') (by rw [hH.out]; exact hx0) (by rw [hH.out]; exact hx1) (by rw [hH.out]; exact ho0) (by rw [hH.out]; exact ho1) (by rw [hH.out]; exact hs0) (by rw [hH.out]; exact hs1)).mono ?_
 rintro e w1 ⟨rfl, b1⟩
 have X1 := qz0 Xb b1 (by omega)
 have G1 := qz5 Gb b1 (by omega)
 have F1 := qz5 Fb b1 (by omega)
 have K1 := Kb.trans (b1.mono (by omega))
 have T1 := qz14 G1 5 22 (by omega)
 rw [Nat.zero_add] at T1
 go_upto_region 8 with (refine Q6b rfl 56 (.tmp 45) _ rfl Q67 5 (hdC (useH A H')).toArray ?bx6 ?by6 ?bt6 (qzb _) (qzh _) ?_)
 try (case bx6 => rfl)
 try (case by6 => rfl)
 try (case bt6 => exact T1)
 go_wp2_with (first | (refine Q6h rfl 143 (.tmp 1) rfl Q67 0 ?cx6 Q5k _ ?cc6 Q6k rfl (qz6 _ _ _ _ _ _ _ _) ?_) | (refine Q6b rfl 143 (.tmp 2) _ rfl (Q67 + 1) 0 (Q5k).toArray ?dx6 ?dy6 ?dt6 (qzp _ _ _ _ _ _ _ _) Q0v ?_))
 try (case cx6 => rfl)
 try (case cc6 => exact qz9z X1 T1 _)
 try (case dx6 => rfl)
 try (case dy6 => rfl)
 try (case dt6 => exact Q6z F1 _ _ _)
 refine bodyPost_ret (v := .agg (Q5k).toArray) ?_ rfl ⟨by rw [hd.out], ?_⟩
 ·exact qz3 Try.results110 _ _ (Q67 + 1) 0 rfl Q5k _ (Q6d _ _ _ _ (Q6z F1 _ _ _)) Q6k rfl (qz6 _ _ _ _ _ _ _ _)
 ·exact Below.setCells (by omega) _ _ _ (Below.setCells (Q6f _) _ _ _ K1)
end
end Go.Proofs.Ythjkdnlmopafkaa
