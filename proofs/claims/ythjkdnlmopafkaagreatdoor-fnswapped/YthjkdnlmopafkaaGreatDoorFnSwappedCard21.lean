/-
  What the law's proof goes by, part 22.
-/
import Derived.Lib.QuietBelow
import Derived.BigQuiet
import Derived.Test.YthjkdnlmopafkaaGreatDoorFnSwappedCard00
import Derived.Test.YthjkdnlmopafkaaGreatDoorFnSwappedCard11
import Derived.Test.YthjkdnlmopafkaaGreatDoorFnSwappedCard13
namespace Go.Proofs.YthjkdnlmopafkaaGreatDoor
open Go.ChangeShapes Go.WideShapes Go.ChangeAt Go.RowKit
set_option maxRecDepth 100000
set_option maxHeartbeats 16000000
set_option linter.unusedVariables false
set_option linter.unusedSimpArgs false
set_option linter.unnecessarySimpa false
set_option linter.unusedSectionVars false
section
open Go.ChangeShapes Go.WideShapes Go.ChangeAt Go.RowKit Go.Sort
attribute [local go_sem ↓] Go.wp_at_zero Go.wp_at_succ
theorem qzce (B : Nat) (A : Ar) (h : Hd) (d : Dd) (tk : Bool) (a0 a1 a2 a3 : Option Addr) (c0 c1 c2 c3 : Nat) (w : World) (hB : B <= Q6o) (hA : A.size <= 1048576) (I : qz1j B w Q0x Q0w Q0t Q11 A) (x y z u : Int) (hOk : qz10 x y z u A = true) (hv0 : 0 <= h.ver) (hv1 : h.ver < (Q6r : Int)) (hx0 : 0 <= h.x_) (hx1 : h.x_ < (Q6q : Int)) (ho0 : 0 <= h.out) (ho1 : h.out <= 1000000) (hs0 : 0 <= h.sum) (hs1 : h.sum <= 1000000) :
  Calls Tryz.prog 150 #[.agg (Q4g).toArray] w fun e w' => e = .returned (.agg (qza Q6w Q0x Q0w Q0t Q11 (qzb0 A h) d tk).toArray) /\ Below Q6o w w' := by
 have hA' := hA
 unfold Ar.size at hA
 have X0 := Q7b (qz6 w Q4g 60) (.cells Q01 60)
 have G0 := Q7h (qzg w (Q4g).toArray 60 33 (by rw [List.size_toArray, qz2r]; exact Q6v _)) (.cells Q01 60)
 have F0 := qzg (w.alloc (.cells (Q4g).toArray 60)) Q01 60 33 (by decide)
 have K0 := ((Q6s Q6o w).alloc (Q6v _) (.cells (Q4g).toArray 60)).alloc (by simp) (.cells Q01 60)
 have hz0 : Q6o + 1 < ((w.alloc (.cells (Q4g).toArray 60)).alloc (.cells Q01 60)).heap.size := by simp
 simp only [World.size_alloc] at F0
 have I0 := I.below (K0.mono hB)
 go_enter Tryz.func150, Tryz.ntmps150
 have tok : True := trivial
 go_wp2_with (clear tok; refine qz2j ((w.alloc (.cells (Q4g).toArray 60)).alloc (.cells Q01 60)) ?_)
 generalize hw0 : (w.alloc (.cells (Q4g).toArray 60)).alloc (.cells Q01 60) = w0 at *
 clear hw0 I
 show wpList _ _ _ _ _ w0
 obtain ⟨XA, XH, XD, XT⟩ := qzv X0
 obtain ⟨x0, x1, x2, x3, x4⟩ := row5 XA
 obtain ⟨v, hv⟩ : ∃ v : Nat, h.ver = v := ⟨h.ver.toNat, by omega⟩
 have hvl : v < Q6r := by omega
 have hvl' : (v : Int) < (Q6r : Int) := by omega
 have hvl0 : (0 : Int) <= (v : Int) := by omega
 have hvr : vrOf A h.ver = A.vers[v] := by rw [hv, qz38 A v hvl]
 have hver := qz4t hOk v hvl
 obtain ⟨bb, off, rfl, hbb, R⟩ := qzu.at I0.r (by omega)
 have v3 : w0.cell? ⟨bb, off + v * 5 + 3, none⟩ = some (.int .i64 A.vers[v].prev) := (qzi (sz := 5) (fun _ => rfl) R v hvl) 3 _ rfl
 have q11 : w0.cell? ⟨Q6o, 16, none⟩ = some (.int .i64 h.ver) := by simpa using XH 11 _ rfl
 have f11 : w0.frozen? ⟨Q6o, 16, none⟩ = false := by simpa using (G0 16 (by decide)).2
 rw [hv] at q11
 by_cases hp : A.vers[v].prev < 0
 case pos =>
  have hd : Hid (qzb0 A h = qz9 h 7 0 0) := by show _ = _; simp [qzb0, hvr, hp]
  go_upto_region 3 with fail
  go_wp2_with (refine Q6z rfl 56 (.tmp 15) rfl Q6o 5 ?ax (hdC h) _ ?ac Q6x rfl (qz4 h) ?_)
  try (case ax => rfl)
  try (case ac => exact XH)
  refine (qzt h 7 0 0 _).mono ?_
  rintro e w1 ⟨rfl, b1⟩
  have X1 := qz0 X0 b1 (by omega)
  have G1 := qz5 G0 b1 (by omega)
  have F1 := qz5 F0 b1 (by omega)
  have K1 := K0.trans (b1.mono (by omega))
  have T1 := qz1d G1 5 22 (by omega)
  rw [Nat.zero_add] at T1
  go_wp2_with (first | (refine Q6t rfl 56 (.tmp 18) _ rfl Q6o 5 (hdC (qz9 h 7 0 0)).toArray ?bx1 ?by1 ?bt1 (qzc _) (qzk _) ?_) | (refine Q6z rfl 60 (.tmp 1) rfl Q6o 0 ?cx1 Q5o _ ?cc1 Q71 rfl (qz7 _ _ _ _ _ _ _ _) ?_) | (refine Q6t rfl 60 (.tmp 2) _ rfl (Q6o + 1) 0 (Q5o).toArray ?dx1 ?dy1 ?dt1 (qzs _ _ _ _ _ _ _ _) Q0v ?_))
  try (case bx1 => rfl)
  try (case by1 => rfl)
  try (case bt1 => exact T1)
  try (case cx1 => rfl)
  try (case cc1 => exact qzbh X1 T1 _)
  try (case dx1 => rfl)
  try (case dy1 => rfl)
  try (case dt1 => exact Q7f F1 _ _ _)
  refine bodyPost_ret (v := .agg (Q5o).toArray) ?_ rfl ⟨by rw [hd.out], ?_⟩
  ·exact qz3 Tryz.results150 _ _ (Q6o + 1) 0 rfl Q5o _ (Q6u _ _ _ _ (Q7f F1 _ _ _)) Q71 rfl (qz7 _ _ _ _ _ _ _ _)
  ·exact Below.setCells (by omega) _ _ _ (Below.setCells (Q6v _) _ _ _ K1)
 obtain ⟨p, hpp⟩ : ∃ p : Nat, A.vers[v].prev = p := ⟨A.vers[v].prev.toNat, by omega⟩
 have hpl : p < Q6r := by omega
 have hpl' : (p : Int) < (Q6r : Int) := by omega
 have hpl0 : (0 : Int) <= (p : Int) := by omega
 have hp3 : ¬ ((p : Int) < 0) := by omega
 have hpr : vrOf A (p : Int) = A.vers[p] := qz38 A p hpl
 rw [hpp] at v3
 have hbk : Hid (qzb0 A h = if qz32 A (p : Int) = true /\ A.vers[p].stamp <= h.held then useH A { h with ver := (p : Int) } else { h with ver := (p : Int) }) := by
  show _ = _
  unfold qzb0
  rw [hvr, hpp, if_neg hp3, hpr]
 have hvH : Hid (h.ver = v) := hv
 clear hv
 go_upto_region 6 with fail
 have Xa : (w0.setCell ⟨Q6o, 16, none⟩ (.int .i64 (p : Int))).rangeAt Q6o 0 (qza Q6w Q0x Q0w Q0t Q1e { h with ver := (p : Int) } d tk) := qzb X0 16 (by rw [qz2r]; omega) _
 have Ga : (w0.setCell ⟨Q6o, 16, none⟩ (.int .i64 (p : Int))).there Q6o 0 33 := qz2 G0 _ _
 have Fa : (w0.setCell ⟨Q6o, 16, none⟩ (.int .i64 (p : Int))).there (Q6o + 1) 0 33 := qz2 F0 _ _
 have Ka := Below.setCell K0 (p := ⟨Q6o, 16, none⟩) (Q6v _) (.int .i64 (p : Int))
 have Ia := I0.below (Below.setCell (Q6s B w0) (p := ⟨Q6o, 16, none⟩) hB (.int .i64 (p : Int)))
 have hza : Q6o + 1 < (w0.setCell ⟨Q6o, 16, none⟩ (.int .i64 (p : Int))).heap.size := by rw [World.size_setCell]; exact hz0
 generalize hwa : w0.setCell ⟨Q6o, 16, none⟩ (.int .i64 (p : Int)) = wa at *
 clear hwa X0 G0 F0 K0 I0 hz0 XA XH XD XT x0 x1 x2 x3 x4 v3 q11 f11 R
 obtain ⟨XA, XH, -, -⟩ := qzv Xa
 obtain ⟨x0, x1, x2, x3, x4⟩ := row5 XA
 obtain ⟨bc, oc, e0, hbc, R⟩ := qzu.at Ia.r (by omega)
 cases e0
 have s2 : wa.cell? ⟨bb, off + p * 5 + 2, none⟩ = some (.int .i64 A.vers[p].stamp) := (qzi (sz := 5) (fun _ => rfl) R p hpl) 2 _ rfl
 have q9 : wa.cell? ⟨Q6o, 14, none⟩ = some (.int .i64 h.held) := by simpa using XH 9 _ rfl
 cases hst : qz32 A (p : Int)
 case false =>
  have hd : Hid (qzb0 A h = { h with ver := (p : Int) }) := by show _ = _; rw [hbk.out, if_neg (by rw [hst]; simp)]
  have y0 : ∀ (dq : Nat) (os : Array Obj), (grow (redrawn wa dq) os).cell? ⟨Q6o, 0, none⟩ = some (.int .i64 Q6w) := fun dq os => cell_regrown x0 dq os
  have y1 : ∀ (dq : Nat) (os : Array Obj), (grow (redrawn wa dq) os).cell? ⟨Q6o, 1, none⟩ = some Q0x := fun dq os => cell_regrown x1 dq os
  have y2 : ∀ (dq : Nat) (os : Array Obj), (grow (redrawn wa dq) os).cell? ⟨Q6o, 2, none⟩ = some Q0w := fun dq os => cell_regrown x2 dq os
  have y3 : ∀ (dq : Nat) (os : Array Obj), (grow (redrawn wa dq) os).cell? ⟨Q6o, 3, none⟩ = some Q0t := fun dq os => cell_regrown x3 dq os
  have y4 : ∀ (dq : Nat) (os : Array Obj), (grow (redrawn wa dq) os).cell? ⟨Q6o, 4, none⟩ = some Q1e := fun dq os => cell_regrown x4 dq os
  have y9 : ∀ (dq : Nat) (os : Array Obj), (grow (redrawn wa dq) os).cell? ⟨Q6o, 14, none⟩ = some (.int .i64 h.held) := fun dq os => cell_regrown q9 dq os
  have ys : ∀ (dq : Nat) (os : Array Obj), (grow (redrawn wa dq) os).cell? ⟨bb, off + p * 5 + 2, none⟩ = some (.int .i64 A.vers[p].stamp) := fun dq os => cell_regrown s2 dq os
  have cS : ∀ (dq : Nat) (os : Array Obj), Calls Tryz.prog 153 #[.agg Q3g, .int .i64 (p : Int)] (grow (redrawn wa dq) os) fun e w'' => e = .returned (.bool false) /\ ∃ q : Regrown, w'' = grow (redrawn wa q.d) q.os := fun dq os => by
   have hbq := below_regrown wa dq os
   have hcl := qz1w B A (p : Int) a0 a1 a2 (some ⟨bb, off, none⟩) c0 c1 c2 c3 (grow (redrawn wa dq) os) (Q77 hB (Q77 (Nat.le_of_lt (Nat.lt_of_succ_lt hza)) hbq.size)) hA' (Ia.below (hbq.mono (by omega)))
   rw [hst] at hcl
   exact Calls.regrown_of hcl
  refine wp_region_quiet_below (by kernel_rfl) (by kernel_rfl) ?_
  repeat (go_big_quiet_step (exact cS _ _))
  refine wpQuiet_nil ?_
  intro _ hw'
  obtain ⟨⟨dq, osq⟩, hw''⟩ := hw'
  subst hw''
  have BB := below_regrown wa dq osq
  generalize grow (redrawn wa dq) osq = wb at *
  clear cS y0 y1 y2 y3 y4 y9 ys
  have Xb := qz0 Xa BB (by omega)
  have Gb := qz5 Ga BB (by omega)
  have Fb := qz5 Fa BB (by omega)
  have Kb := Ka.trans (BB.mono (by omega))
  have Ib := Ia.below (BB.mono (by omega))
  have zb := BB.size
  go_upto_region 8 with fail
  go_wp2_with (first | (refine Q6z rfl 60 (.tmp 1) rfl Q6o 0 ?cx4 (qza Q6w Q0x Q0w Q0t Q1e { h with ver := (p : Int) } d tk) _ ?cc4 Q71 rfl (qz7 _ _ _ _ _ _ _ _) ?_) | (refine Q6t rfl 60 (.tmp 2) _ rfl (Q6o + 1) 0 (qza Q6w Q0x Q0w Q0t Q1e { h with ver := (p : Int) } d tk).toArray ?dx4 ?dy4 ?dt4 (qzs _ _ _ _ _ _ _ _) Q0v ?_))
  try (case cx4 => rfl)
  try (case cc4 => exact Xb)
  try (case dx4 => rfl)
  try (case dy4 => rfl)
  try (case dt4 => exact Fb)
  refine bodyPost_ret (v := .agg (qza Q6w Q0x Q0w Q0t Q1e { h with ver := (p : Int) } d tk).toArray) ?_ rfl ⟨by rw [hd.out], ?_⟩
  ·exact qz3 Tryz.results150 _ _ (Q6o + 1) 0 rfl (qza Q6w Q0x Q0w Q0t Q1e { h with ver := (p : Int) } d tk) _ (Q6u _ _ _ _ Fb) Q71 rfl (qz7 _ _ _ _ _ _ _ _)
  ·exact Below.setCells (by omega) _ _ _ Kb
 by_cases hle : A.vers[p].stamp <= h.held
 case neg =>
  have hd : Hid (qzb0 A h = { h with ver := (p : Int) }) := by show _ = _; rw [hbk.out, if_neg (fun hq => hle hq.2)]
  have y0 : ∀ (dq : Nat) (os : Array Obj), (grow (redrawn wa dq) os).cell? ⟨Q6o, 0, none⟩ = some (.int .i64 Q6w) := fun dq os => cell_regrown x0 dq os
  have y1 : ∀ (dq : Nat) (os : Array Obj), (grow (redrawn wa dq) os).cell? ⟨Q6o, 1, none⟩ = some Q0x := fun dq os => cell_regrown x1 dq os
  have y2 : ∀ (dq : Nat) (os : Array Obj), (grow (redrawn wa dq) os).cell? ⟨Q6o, 2, none⟩ = some Q0w := fun dq os => cell_regrown x2 dq os
  have y3 : ∀ (dq : Nat) (os : Array Obj), (grow (redrawn wa dq) os).cell? ⟨Q6o, 3, none⟩ = some Q0t := fun dq os => cell_regrown x3 dq os
  have y4 : ∀ (dq : Nat) (os : Array Obj), (grow (redrawn wa dq) os).cell? ⟨Q6o, 4, none⟩ = some Q1e := fun dq os => cell_regrown x4 dq os
  have y9 : ∀ (dq : Nat) (os : Array Obj), (grow (redrawn wa dq) os).cell? ⟨Q6o, 14, none⟩ = some (.int .i64 h.held) := fun dq os => cell_regrown q9 dq os
  have ys : ∀ (dq : Nat) (os : Array Obj), (grow (redrawn wa dq) os).cell? ⟨bb, off + p * 5 + 2, none⟩ = some (.int .i64 A.vers[p].stamp) := fun dq os => cell_regrown s2 dq os
  have cS : ∀ (dq : Nat) (os : Array Obj), Calls Tryz.prog 153 #[.agg Q3g, .int .i64 (p : Int)] (grow (redrawn wa dq) os) fun e w'' => e = .returned (.bool true) /\ ∃ q : Regrown, w'' = grow (redrawn wa q.d) q.os := fun dq os => by
   have hbq := below_regrown wa dq os
   have hcl := qz1w B A (p : Int) a0 a1 a2 (some ⟨bb, off, none⟩) c0 c1 c2 c3 (grow (redrawn wa dq) os) (Q77 hB (Q77 (Nat.le_of_lt (Nat.lt_of_succ_lt hza)) hbq.size)) hA' (Ia.below (hbq.mono (by omega)))
   rw [hst] at hcl
   exact Calls.regrown_of hcl
  refine wp_region_quiet_below (by kernel_rfl) (by kernel_rfl) ?_
  repeat (go_big_quiet_step (exact cS _ _))
  refine wpQuiet_nil ?_
  intro _ hw'
  obtain ⟨⟨dq, osq⟩, hw''⟩ := hw'
  subst hw''
  have BB := below_regrown wa dq osq
  generalize grow (redrawn wa dq) osq = wb at *
  clear cS y0 y1 y2 y3 y4 y9 ys
  have Xb := qz0 Xa BB (by omega)
  have Gb := qz5 Ga BB (by omega)
  have Fb := qz5 Fa BB (by omega)
  have Kb := Ka.trans (BB.mono (by omega))
  have Ib := Ia.below (BB.mono (by omega))
  have zb := BB.size
  go_upto_region 8 with fail
  go_wp2_with (first | (refine Q6z rfl 60 (.tmp 1) rfl Q6o 0 ?cx5 (qza Q6w Q0x Q0w Q0t Q1e { h with ver := (p : Int) } d tk) _ ?cc5 Q71 rfl (qz7 _ _ _ _ _ _ _ _) ?_) | (refine Q6t rfl 60 (.tmp 2) _ rfl (Q6o + 1) 0 (qza Q6w Q0x Q0w Q0t Q1e { h with ver := (p : Int) } d tk).toArray ?dx5 ?dy5 ?dt5 (qzs _ _ _ _ _ _ _ _) Q0v ?_))
  try (case cx5 => rfl)
  try (case cc5 => exact Xb)
  try (case dx5 => rfl)
  try (case dy5 => rfl)
  try (case dt5 => exact Fb)
  refine bodyPost_ret (v := .agg (qza Q6w Q0x Q0w Q0t Q1e { h with ver := (p : Int) } d tk).toArray) ?_ rfl ⟨by rw [hd.out], ?_⟩
  ·exact qz3 Tryz.results150 _ _ (Q6o + 1) 0 rfl (qza Q6w Q0x Q0w Q0t Q1e { h with ver := (p : Int) } d tk) _ (Q6u _ _ _ _ Fb) Q71 rfl (qz7 _ _ _ _ _ _ _ _)
  ·exact Below.setCells (by omega) _ _ _ Kb
 have y0 : ∀ (dq : Nat) (os : Array Obj), (grow (redrawn wa dq) os).cell? ⟨Q6o, 0, none⟩ = some (.int .i64 Q6w) := fun dq os => cell_regrown x0 dq os
 have y1 : ∀ (dq : Nat) (os : Array Obj), (grow (redrawn wa dq) os).cell? ⟨Q6o, 1, none⟩ = some Q0x := fun dq os => cell_regrown x1 dq os
 have y2 : ∀ (dq : Nat) (os : Array Obj), (grow (redrawn wa dq) os).cell? ⟨Q6o, 2, none⟩ = some Q0w := fun dq os => cell_regrown x2 dq os
 have y3 : ∀ (dq : Nat) (os : Array Obj), (grow (redrawn wa dq) os).cell? ⟨Q6o, 3, none⟩ = some Q0t := fun dq os => cell_regrown x3 dq os
 have y4 : ∀ (dq : Nat) (os : Array Obj), (grow (redrawn wa dq) os).cell? ⟨Q6o, 4, none⟩ = some Q1e := fun dq os => cell_regrown x4 dq os
 have y9 : ∀ (dq : Nat) (os : Array Obj), (grow (redrawn wa dq) os).cell? ⟨Q6o, 14, none⟩ = some (.int .i64 h.held) := fun dq os => cell_regrown q9 dq os
 have ys : ∀ (dq : Nat) (os : Array Obj), (grow (redrawn wa dq) os).cell? ⟨bb, off + p * 5 + 2, none⟩ = some (.int .i64 A.vers[p].stamp) := fun dq os => cell_regrown s2 dq os
 have cS : ∀ (dq : Nat) (os : Array Obj), Calls Tryz.prog 153 #[.agg Q3g, .int .i64 (p : Int)] (grow (redrawn wa dq) os) fun e w'' => e = .returned (.bool true) /\ ∃ q : Regrown, w'' = grow (redrawn wa q.d) q.os := fun dq os => by
  have hbq := below_regrown wa dq os
  have hcl := qz1w B A (p : Int) a0 a1 a2 (some ⟨bb, off, none⟩) c0 c1 c2 c3 (grow (redrawn wa dq) os) (Q77 hB (Q77 (Nat.le_of_lt (Nat.lt_of_succ_lt hza)) hbq.size)) hA' (Ia.below (hbq.mono (by omega)))
  rw [hst] at hcl
  exact Calls.regrown_of hcl
 refine wp_region_quiet_below (by kernel_rfl) (by kernel_rfl) ?_
 repeat (go_big_quiet_step (exact cS _ _))
 refine wpQuiet_nil ?_
 intro _ hw'
 obtain ⟨⟨dq, osq⟩, hw''⟩ := hw'
 subst hw''
 have BB := below_regrown wa dq osq
 generalize grow (redrawn wa dq) osq = wb at *
 clear cS y0 y1 y2 y3 y4 y9 ys
 have Xb := qz0 Xa BB (by omega)
 have Gb := qz5 Ga BB (by omega)
 have Fb := qz5 Fa BB (by omega)
 have Kb := Ka.trans (BB.mono (by omega))
 have Ib := Ia.below (BB.mono (by omega))
 have zb := BB.size
 obtain ⟨H', hH⟩ : ∃ H' : Hd, Hid (H' = { h with ver := (p : Int) }) := by exact ⟨_, rfl⟩
 have hd : Hid (qzb0 A h = useH A H') := by show _ = _; rw [hH.out, hbk.out, if_pos ⟨hst, hle⟩]
 rw [<- hH.out] at Xb
 have XHb := (qzv Xb).2.1
 obtain ⟨x0, x1, x2, x3, x4⟩ := row5 (qzv Xb).1
 go_upto_region 7 with fail
 go_wp2_with (refine Q6z rfl 56 (.tmp 42) rfl Q6o 5 ?ex (hdC H') _ ?ec Q6x rfl (qz4 H') ?_)
 try (case ex => rfl)
 try (case ec => exact XHb)
 refine (qz9p B A H' _ _ _ _ _ _ _ _ _ (by omega) hA' Ib x y z u hOk (by rw [hH.out]; exact hpl0) (by rw [hH.out]; exact hpl') (by rw [hH.out]; exact hx0) (by rw [hH.out]; exact hx1) (by rw [hH.out]; exact ho0) (by rw [hH.out]; exact ho1) (by rw [hH.out]; exact hs0) (by rw [hH.out]; exact hs1)).mono ?_
 rintro e w1 ⟨rfl, b1⟩
 have X1 := qz0 Xb b1 (by omega)
 have G1 := qz5 Gb b1 (by omega)
 have F1 := qz5 Fb b1 (by omega)
 have K1 := Kb.trans (b1.mono (by omega))
 have T1 := qz1d G1 5 22 (by omega)
 rw [Nat.zero_add] at T1
 go_upto_region 8 with (refine Q6t rfl 56 (.tmp 45) _ rfl Q6o 5 (hdC (useH A H')).toArray ?bx6 ?by6 ?bt6 (qzc _) (qzk _) ?_)
 try (case bx6 => rfl)
 try (case by6 => rfl)
 try (case bt6 => exact T1)
 go_wp2_with (first | (refine Q6z rfl 60 (.tmp 1) rfl Q6o 0 ?cx6 Q5z _ ?cc6 Q71 rfl (qz7 _ _ _ _ _ _ _ _) ?_) | (refine Q6t rfl 60 (.tmp 2) _ rfl (Q6o + 1) 0 (Q5z).toArray ?dx6 ?dy6 ?dt6 (qzs _ _ _ _ _ _ _ _) Q0v ?_))
 try (case cx6 => rfl)
 try (case cc6 => exact qzbh X1 T1 _)
 try (case dx6 => rfl)
 try (case dy6 => rfl)
 try (case dt6 => exact Q7f F1 _ _ _)
 refine bodyPost_ret (v := .agg (Q5z).toArray) ?_ rfl ⟨by rw [hd.out], ?_⟩
 ·exact qz3 Tryz.results150 _ _ (Q6o + 1) 0 rfl Q5z _ (Q6u _ _ _ _ (Q7f F1 _ _ _)) Q71 rfl (qz7 _ _ _ _ _ _ _ _)
 ·exact Below.setCells (by omega) _ _ _ (Below.setCells (Q6v _) _ _ _ K1)
end
end Go.Proofs.YthjkdnlmopafkaaGreatDoor
