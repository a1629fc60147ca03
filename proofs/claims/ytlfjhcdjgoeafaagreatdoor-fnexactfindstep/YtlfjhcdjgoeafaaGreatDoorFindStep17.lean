/-
  What the law's proof goes by, part 18.
-/
import Derived.Deep.QuietTactic
import Derived.BigQuiet
import Derived.Test.YtlfjhcdjgoeafaaGreatDoorFindStep00
import Derived.Test.YtlfjhcdjgoeafaaGreatDoorFindStep06
import Derived.Test.YtlfjhcdjgoeafaaGreatDoorFindStep07
import Derived.Test.YtlfjhcdjgoeafaaGreatDoorFindStep16
namespace Go.Proofs.YtlfjhcdjgoeafaaGreatDoor
open Go.ChangeShapes Go.WideShapes Go.ChangeAt Go.RowKit
set_option linter.unusedVariables false
set_option linter.unusedSimpArgs false
set_option linter.unnecessarySimpa false
set_option linter.unusedSectionVars false
section
attribute [local go_sem ↓] Go.wp_at_zero Go.wp_at_succ
def findOf (x y z u : Int) (A : Ar) (h : Hd) : Ar × Hd :=
 if h.at_ = 1 then (A, { h with round := min (h.round + 1) 20000, x_ := startI x y z u A h.key, then_ := 1, at_ := 2 })
 else ((swapOf z A h.pred h.predVer (vrOf A h.currVer).next false 0).1, if (swapOf z A h.pred h.predVer (vrOf A h.currVer).next false 0).2 = -2 then restOf h 5 0 0 else if (swapOf z A h.pred h.predVer (vrOf A h.currVer).next false 0).2 = -1 then { h with at_ := 1 } else { h with ver := (swapOf z A h.pred h.predVer (vrOf A h.currVer).next false 0).2, then_ := 3, at_ := 3 })
theorem swapOf_code (z : Int) (A : Ar) (node v next : Int) (gone : Bool) (kind : Int) : (swapOf z A node v next gone kind).2 = -2 ∨ (swapOf z A node v next gone kind).2 = -1 ∨ 0 ≤ (swapOf z A node v next gone kind).2 := by
 unfold swapOf
 split
 ·exact Or.inl rfl
 ·split
  ·exact Or.inr (Or.inl rfl)
  ·exact Or.inr (Or.inr (by show (0 : Int) ≤ (A.vers.length : Int); omega))
theorem swapOf_camera (z : Int) (A : Ar) (node v next : Int) (gone : Bool) (kind : Int) : (swapOf z A node v next gone kind).1.camera = A.camera := by
 unfold swapOf
 split
 ·rfl
 ·split <;> rfl
set_option maxRecDepth 100000 in
set_option maxHeartbeats 4000000 in
theorem l9Find_any (base : Nat) (A : Ar) (h : Hd) (d : Dd) (tk : Bool) (s g n r : Value) (w : World) (hbase : base ≤ w.heap.size) (hA : A.size ≤ 1048576) (O : OwnAr base w s g n r A) (x y z u : Int) (hOk : arenaB x y z u A = true) (hp0 : 0 ≤ h.pred) (hp1 : h.pred < (A.nodes.length : Int)) (hc0 : 0 ≤ h.currVer) (hc1 : h.currVer < (A.vers.length : Int)) (hr0 : 0 ≤ h.round) (hr1 : h.round ≤ 20000) :
  Calls Tryz.prog 19 #[.agg #[.int .i64 x, .int .i64 y, .int .i64 z, .int .i64 u], .agg (doneC A.camera s g n r h d tk).toArray] w fun e w' => ∃ s' g' n' r', e = .returned (.agg (doneC A.camera s' g' n' r' (findOf x y z u A h).2 d tk).toArray) ∧ SwapEnd base w w' s g n r s' g' n' r' (findOf x y z u A h).1 := by
 have hA' := hA
 unfold Ar.size at hA
 obtain ⟨sa, sc, rfl⟩ := own_is O.rs
 obtain ⟨ga, gc, rfl⟩ := own_is O.rg
 obtain ⟨nb, nc, rfl⟩ := own_slice O.rn (by omega)
 obtain ⟨rb, rc, rfl⟩ := own_slice O.rr (by omega)
 obtain ⟨S0, P0⟩ := stp_new_plan base w (.slice sa A.slots.length sc) (.slice ga A.guides.length gc) (.slice (some ⟨nb, 0, none⟩) A.nodes.length nc) (.slice (some ⟨rb, 0, none⟩) A.vers.length rc) A (doneC A.camera (.slice sa A.slots.length sc) (.slice ga A.guides.length gc) (.slice (some ⟨nb, 0, none⟩) A.nodes.length nc) (.slice (some ⟨rb, 0, none⟩) A.vers.length rc) h d tk) [.int .i64 0, .slice none 0 0, .slice none 0 0, .slice none 0 0, .slice none 0 0, .int .i64 0, .int .i64 0, .int .i64 0, .int .i64 0, .int .i64 0, .int .i64 0, .int .i64 0, .int .i64 0, .int .i64 0, .int .i64 0, .int .i64 0, .int .i64 0, .int .i64 0, .int .i64 0, .int .i64 0, .int .i64 0, .int .i64 0, .int .i64 0, .int .i64 0, .int .i64 0, .int .i64 0, .int .i64 0, .int .i64 0, .int .i64 0, .int .i64 0, .int .i64 0, .int .i64 0, .bool false] 40 43 x y z u O rfl rfl
 obtain ⟨ck, hck⟩ : ∃ k : Nat, h.currVer = k := ⟨h.currVer.toNat, by omega⟩
 have hcl : ck < A.vers.length := by omega
 go_enter Tryz.func19, Tryz.ntmps19
 have tok : True := trivial
 go_wp2_with (clear tok; refine stopAt (((w.alloc (.cells #[.int .i64 x, .int .i64 y, .int .i64 z, .int .i64 u] 43)).alloc (.cells (doneC A.camera (.slice sa A.slots.length sc) (.slice ga A.guides.length gc) (.slice (some ⟨nb, 0, none⟩) A.nodes.length nc) (.slice (some ⟨rb, 0, none⟩) A.vers.length rc) h d tk).toArray 40)).alloc (.cells #[.int .i64 0, .slice none 0 0, .slice none 0 0, .slice none 0 0, .slice none 0 0, .int .i64 0, .int .i64 0, .int .i64 0, .int .i64 0, .int .i64 0, .int .i64 0, .int .i64 0, .int .i64 0, .int .i64 0, .int .i64 0, .int .i64 0, .int .i64 0, .int .i64 0, .int .i64 0, .int .i64 0, .int .i64 0, .int .i64 0, .int .i64 0, .int .i64 0, .int .i64 0, .int .i64 0, .int .i64 0, .int .i64 0, .int .i64 0, .int .i64 0, .int .i64 0, .int .i64 0, .bool false] 40)) ?_)
 generalize hw0 : ((w.alloc (.cells #[.int .i64 x, .int .i64 y, .int .i64 z, .int .i64 u] 43)).alloc (.cells (doneC A.camera (.slice sa A.slots.length sc) (.slice ga A.guides.length gc) (.slice (some ⟨nb, 0, none⟩) A.nodes.length nc) (.slice (some ⟨rb, 0, none⟩) A.vers.length rc) h d tk).toArray 40)).alloc (.cells #[.int .i64 0, .slice none 0 0, .slice none 0 0, .slice none 0 0, .slice none 0 0, .int .i64 0, .int .i64 0, .int .i64 0, .int .i64 0, .int .i64 0, .int .i64 0, .int .i64 0, .int .i64 0, .int .i64 0, .int .i64 0, .int .i64 0, .int .i64 0, .int .i64 0, .int .i64 0, .int .i64 0, .int .i64 0, .int .i64 0, .int .i64 0, .int .i64 0, .int .i64 0, .int .i64 0, .int .i64 0, .int .i64 0, .int .i64 0, .int .i64 0, .int .i64 0, .int .i64 0, .bool false] 40) = w0 at *
 clear hw0
 show wpList _ _ _ _ _ w0
 have hck0 : (0 : Int) ≤ (ck : Int) := by omega
 have hck1 : (ck : Int) < (A.vers.length : Int) := by omega
 have x0 := S0.cell 0 rfl
 have x1 := S0.cell 1 rfl
 have x2 := S0.cell 2 rfl
 have x3 := S0.cell 3 rfl
 have x4 := S0.cell 4 rfl
 have q0 := S0.cell 5 rfl
 have q1 := S0.cell 6 rfl
 have q3 := S0.cell 8 rfl
 have q10 := S0.cell 15 rfl
 have q14 := S0.cell 19 rfl
 have q15 := S0.cell 20 rfl
 have q17 := S0.cell 22 rfl
 have q21 := S0.cell 26 rfl
 have f21 := S0.free 26 (by decide)
 rw [hck] at q17
 have hw1 := S0.hi
 by_cases e1 : h.at_ = 1
 case pos =>
  have hd : Hid (findOf x y z u A h = (A, { h with round := min (h.round + 1) 20000, x_ := startI x y z u A h.key, then_ := 1, at_ := 2 })) := by show _ = _; rw [findOf, if_pos e1]
  rw [e1] at q0
  have hr2 : -9223372036854775808 ≤ h.round + 1 := by omega
  have hr3 : h.round + 1 ≤ 9223372036854775807 := by omega
  have S1 := S0.put 26 (by rw [doneC_length]; omega) (.int .i64 (min (h.round + 1) 20000))
  have P1 : PlanAt (w0.setCell ⟨w.heap.size + 1, 26, none⟩ (.int .i64 (min (h.round + 1) 20000))) w.heap.size x y z u := P0.under (Below.setCell (Below.refl (w.heap.size + 1) w0) (p := ⟨w.heap.size + 1, 26, none⟩) (Nat.le_refl _) _) (by omega)
  go_upto_region 3 with (go_at_call 43; refine (specMin_any _ _ _).mono ?_; rintro e w' ⟨rfl, hw⟩; obtain rfl := hw.symm)
  generalize w0.setCell ⟨w.heap.size + 1, 26, none⟩ (.int .i64 (min (h.round + 1) 20000)) = w1 at *
  clear x0 x1 x2 x3 x4 q0 q1 q3 q10 q14 q15 q17 q21 f21
  have x0 := S1.cell 0 rfl
  have x1 := S1.cell 1 rfl
  have x2 := S1.cell 2 rfl
  have x3 := S1.cell 3 rfl
  have x4 := S1.cell 4 rfl
  have q3 := S1.cell 8 rfl
  obtain ⟨p0, p1, p2, p3⟩ := P1
  go_upto_region 6 with (go_at_call 44; refine (l9Start_any w1.heap.size A x y z u h.key _ _ _ _ _ _ _ _ _ (Nat.le_refl _) hA' S1.is hOk).mono ?_; rintro e w2 ⟨rfl, b2⟩; have S2 := S1.below b2; have y0 := S2.cell 5 rfl; have y1 := S2.cell 6 rfl; have y10 := S2.cell 15 rfl; have g0 := S2.free 5 (by decide); have g1 := S2.free 6 (by decide); have g10 := S2.free 15 (by decide))
  have S3 : Stp base w _ (w.heap.size + 1) (w.heap.size + 1 + 1) (.slice sa A.slots.length sc) (.slice ga A.guides.length gc) (.slice (some ⟨nb, 0, none⟩) A.nodes.length nc) (.slice (some ⟨rb, 0, none⟩) A.vers.length rc) (.slice sa A.slots.length sc) (.slice ga A.guides.length gc) (.slice (some ⟨nb, 0, none⟩) A.nodes.length nc) (.slice (some ⟨rb, 0, none⟩) A.vers.length rc) A (doneC A.camera (.slice sa A.slots.length sc) (.slice ga A.guides.length gc) (.slice (some ⟨nb, 0, none⟩) A.nodes.length nc) (.slice (some ⟨rb, 0, none⟩) A.vers.length rc) { h with round := min (h.round + 1) 20000, x_ := startI x y z u A h.key, then_ := 1, at_ := 2 } d tk) := ((S2.put 15 (by simp [doneC, hdC, ddC]) (.int .i64 (startI x y z u A h.key))).put 6 (by simp [doneC, hdC, ddC]) (.int .i64 1)).put 5 (by simp [doneC, hdC, ddC]) (.int .i64 2)
  go_wp2_with (first | (refine wpList_load_mid rfl 40 (.tmp 3) rfl (w.heap.size + 1) 0 ?cx1 (doneC A.camera (.slice sa A.slots.length sc) (.slice ga A.guides.length gc) (.slice (some ⟨nb, 0, none⟩) A.nodes.length nc) (.slice (some ⟨rb, 0, none⟩) A.vers.length rc) { h with round := min (h.round + 1) 20000, x_ := startI x y z u A h.key, then_ := 1, at_ := 2 } d tk) _ ?cc1 Tryz.underlying40 rfl (sizeDoneL _ _ _ _ _ _ _ _) ?_) | (refine wpList_store_mid rfl 40 (.tmp 4) _ rfl (w.heap.size + 1 + 1) 0 (doneC A.camera (.slice sa A.slots.length sc) (.slice ga A.guides.length gc) (.slice (some ⟨nb, 0, none⟩) A.nodes.length nc) (.slice (some ⟨rb, 0, none⟩) A.vers.length rc) { h with round := min (h.round + 1) 20000, x_ := startI x y z u A h.key, then_ := 1, at_ := 2 } d tk).toArray ?dx1 ?dy1 ?dt1 (sizeDone _ _ _ _ _ _ _ _) (oneDone _ _ _ _ _ _ _ _ _ _ _ _ _ _ _ _) ?_))
  try (case cx1 => rfl)
  try (case cc1 => exact S3.row)
  try (case dx1 => rfl)
  try (case dy1 => rfl)
  try (case dt1 => exact S3.to)
  refine bodyPost_ret (v := .agg (doneC A.camera (.slice sa A.slots.length sc) (.slice ga A.guides.length gc) (.slice (some ⟨nb, 0, none⟩) A.nodes.length nc) (.slice (some ⟨rb, 0, none⟩) A.vers.length rc) { h with round := min (h.round + 1) 20000, x_ := startI x y z u A h.key, then_ := 1, at_ := 2 } d tk).toArray) ?_ rfl ⟨_, _, _, _, by rw [hd.out], by rw [hd.out]; exact S3.fin⟩
  exact results_row Tryz.results19 _ _ (w.heap.size + 1 + 1) 0 rfl (doneC A.camera (.slice sa A.slots.length sc) (.slice ga A.guides.length gc) (.slice (some ⟨nb, 0, none⟩) A.nodes.length nc) (.slice (some ⟨rb, 0, none⟩) A.vers.length rc) { h with round := min (h.round + 1) 20000, x_ := startI x y z u A h.key, then_ := 1, at_ := 2 } d tk) _ (S3.out rfl) Tryz.underlying40 rfl (sizeDoneL _ _ _ _ _ _ _ _)
 have hfo : Hid (findOf x y z u A h = ((swapOf z A h.pred h.predVer A.vers[ck].next false 0).1, if (swapOf z A h.pred h.predVer A.vers[ck].next false 0).2 = -2 then restOf h 5 0 0 else if (swapOf z A h.pred h.predVer A.vers[ck].next false 0).2 = -1 then { h with at_ := 1 } else { h with ver := (swapOf z A h.pred h.predVer A.vers[ck].next false 0).2, then_ := 3, at_ := 3 })) := by show _ = _; rw [findOf, if_neg e1, hck, vrOf_nat A ck hcl]
 have hcode := swapOf_code z A h.pred h.predVer A.vers[ck].next false 0
 have hcam := swapOf_camera z A h.pred h.predVer A.vers[ck].next false 0
 have c0 := (own_cell S0.own.rr (ck * 5) (.int .i64 A.vers[ck].next) (by have := cellsOf_at (f := vrC) (sz := 5) (fun _ => rfl) A.vers ck hcl 0 (by omega); rw [Nat.add_zero] at this; rw [this]; rfl)).1
 obtain ⟨p0, p1, p2, p3⟩ := id P0
 clear hck
 go_upto_region 8 with fail
 refine wp_region_call2 18 (by kernel_rfl) (by kernel_rfl) _ _ _ _ rfl rfl rfl rfl 50 31 (some 51) (some 52) rfl rfl rfl rfl rfl rfl rfl rfl rfl rfl rfl (by decide) (fun _ _ _ _ h => h) (fun _ _ _ _ h => h) ?_
 simp only [List.take_succ_cons, List.take_zero, List.drop_succ_cons, List.drop_zero]
 repeat (quiet_step (fail))
 refine wpQuiet_nil ?_
 rintro _ ⟨nr, rfl⟩
 have S1 := S0.below (w' := w0.drewN nr) ⟨rfl, rfl, rfl, Nat.le_refl _, fun _ _ => rfl⟩
 have hz1 := S1.hi
 refine ⟨by simp, by simp, 45, #[.agg #[.int .i64 x, .int .i64 y, .int .i64 z, .int .i64 u], .agg #[.int .i64 A.camera, .slice sa A.slots.length sc, .slice ga A.guides.length gc, .slice (some ⟨nb, 0, none⟩) A.nodes.length nc, .slice (some ⟨rb, 0, none⟩) A.vers.length rc], .int .i64 h.pred, .int .i64 h.predVer, .int .i64 A.vers[ck].next, .bool false, .int .i64 0], by go_simp, ?_⟩
 refine (l8Swap_any base A x y z u h.pred h.predVer A.vers[ck].next false 0 _ _ _ _ _ (Nat.le_trans hbase S1.but.size) hA' S1.own hp0 hp1).mono ?_
 rintro e w2 ⟨s2, g2, n2, r2, rfl, E⟩
 refine ⟨_, _, rfl, ?_⟩
 have S2 := S1.swap E
 clear x0 x1 x2 x3 x4 q0 q1 q3 q10 q14 q15 q17 q21 f21 c0 p0 p1 p2 p3 S0 P0 E
 generalize (swapOf z A h.pred h.predVer A.vers[ck].next false 0) = sw at *
 obtain ⟨A2, nv⟩ := sw
 obtain ⟨sa2, sc2, rfl⟩ := own_is S2.own.rs
 obtain ⟨ga2, gc2, rfl⟩ := own_is S2.own.rg
 obtain ⟨na2, nc2, rfl⟩ := own_is S2.own.rn
 obtain ⟨ra2, rc2, rfl⟩ := own_is S2.own.rr
 have x0 := S2.cell 0 rfl
 have x1 := S2.cell 1 rfl
 have x2 := S2.cell 2 rfl
 have x3 := S2.cell 3 rfl
 have x4 := S2.cell 4 rfl
 have k0 := S2.free 0 (by decide)
 have k1 := S2.free 1 (by decide)
 have k2 := S2.free 2 (by decide)
 have k3 := S2.free 3 (by decide)
 have k4 := S2.free 4 (by decide)
 dsimp only at hcode hfo
 go_upto_region 9 with fail
 have S3 : Stp base w (((((w2.setCell ⟨w.heap.size + 1, 0, none⟩ (.int .i64 A.camera)).setCell ⟨w.heap.size + 1, 1, none⟩ (.slice sa2 A2.slots.length sc2)).setCell ⟨w.heap.size + 1, 2, none⟩ (.slice ga2 A2.guides.length gc2)).setCell ⟨w.heap.size + 1, 3, none⟩ (.slice na2 A2.nodes.length nc2)).setCell ⟨w.heap.size + 1, 4, none⟩ (.slice ra2 A2.vers.length rc2)) (w.heap.size + 1) (w.heap.size + 1 + 1) (.slice sa A.slots.length sc) (.slice ga A.guides.length gc) (.slice (some ⟨nb, 0, none⟩) A.nodes.length nc) (.slice (some ⟨rb, 0, none⟩) A.vers.length rc) (.slice sa2 A2.slots.length sc2) (.slice ga2 A2.guides.length gc2) (.slice na2 A2.nodes.length nc2) (.slice ra2 A2.vers.length rc2) A2 (doneC A.camera (.slice sa2 A2.slots.length sc2) (.slice ga2 A2.guides.length gc2) (.slice na2 A2.nodes.length nc2) (.slice ra2 A2.vers.length rc2) h d tk) := S2.arena (cam' := A.camera)
 generalize ((((w2.setCell ⟨w.heap.size + 1, 0, none⟩ (.int .i64 A.camera)).setCell ⟨w.heap.size + 1, 1, none⟩ (.slice sa2 A2.slots.length sc2)).setCell ⟨w.heap.size + 1, 2, none⟩ (.slice ga2 A2.guides.length gc2)).setCell ⟨w.heap.size + 1, 3, none⟩ (.slice na2 A2.nodes.length nc2)).setCell ⟨w.heap.size + 1, 4, none⟩ (.slice ra2 A2.vers.length rc2) = w3 at *
 clear S2 S1 hz1 x0 x1 x2 x3 x4 k0 k1 k2 k3 k4
 rcases hcode with rfl | rfl | hnv
 ·have hd : Hid (findOf x y z u A h = (A2, restOf h 5 0 0)) := by show _ = _; rw [hfo.out, if_pos rfl]
  go_upto_region 17 with (first | (refine wpList_load_mid rfl 36 (.tmp 64) rfl (w.heap.size + 1) 5 ?ax81 (hdC h) _ ?ac81 Tryz.underlying36 rfl (sizeHandL h) ?_) | (go_at_call 46; refine (l7Reply_any h 5 0 0 _).mono ?_; rintro e w4 ⟨rfl, b4⟩; have S4 := S3.below b4) | (refine wpList_store_mid rfl 36 (.tmp 67) _ rfl (w.heap.size + 1) 5 (hdC (restOf h 5 0 0)).toArray ?bx82 ?by82 ?bt82 (sizeHand _) (oneHand _) ?_))
  try (case ax81 => rfl)
  try (case ac81 => exact (done_parts S3.row).2.1)
  try (case bx82 => rfl)
  try (case by82 => rfl)
  try (case bt82 => have T := there_part S4.th 5 22 (by omega); rw [Nat.zero_add] at T; exact T)
  have S5 := S4.hand (restOf h 5 0 0)
  go_wp2_with (first | (refine wpList_load_mid rfl 40 (.tmp 3) rfl (w.heap.size + 1) 0 ?cx83 (doneC A.camera (.slice sa2 A2.slots.length sc2) (.slice ga2 A2.guides.length gc2) (.slice na2 A2.nodes.length nc2) (.slice ra2 A2.vers.length rc2) (restOf h 5 0 0) d tk) _ ?cc83 Tryz.underlying40 rfl (sizeDoneL _ _ _ _ _ _ _ _) ?_) | (refine wpList_store_mid rfl 40 (.tmp 4) _ rfl (w.heap.size + 1 + 1) 0 (doneC A.camera (.slice sa2 A2.slots.length sc2) (.slice ga2 A2.guides.length gc2) (.slice na2 A2.nodes.length nc2) (.slice ra2 A2.vers.length rc2) (restOf h 5 0 0) d tk).toArray ?dx83 ?dy83 ?dt83 (sizeDone _ _ _ _ _ _ _ _) (oneDone _ _ _ _ _ _ _ _ _ _ _ _ _ _ _ _) ?_))
  try (case cx83 => rfl)
  try (case cc83 => exact S5.row)
  try (case dx83 => rfl)
  try (case dy83 => rfl)
  try (case dt83 => exact S5.to)
  refine bodyPost_ret (v := .agg (doneC A.camera (.slice sa2 A2.slots.length sc2) (.slice ga2 A2.guides.length gc2) (.slice na2 A2.nodes.length nc2) (.slice ra2 A2.vers.length rc2) (restOf h 5 0 0) d tk).toArray) ?_ rfl ⟨_, _, _, _, by rw [hd.out], by rw [hd.out]; exact S5.fin⟩
  exact results_row Tryz.results19 _ _ (w.heap.size + 1 + 1) 0 rfl (doneC A.camera (.slice sa2 A2.slots.length sc2) (.slice ga2 A2.guides.length gc2) (.slice na2 A2.nodes.length nc2) (.slice ra2 A2.vers.length rc2) (restOf h 5 0 0) d tk) _ (S5.out rfl) Tryz.underlying40 rfl (sizeDoneL _ _ _ _ _ _ _ _)
 ·have hd : Hid (findOf x y z u A h = (A2, { h with at_ := 1 })) := by show _ = _; rw [hfo.out, if_neg (by decide), if_pos rfl]
  have q0 := S3.cell 5 rfl
  have f0 := S3.free 5 (by decide)
  go_upto_region 17 with fail
  have S5 : Stp base w _ (w.heap.size + 1) (w.heap.size + 1 + 1) (.slice sa A.slots.length sc) (.slice ga A.guides.length gc) (.slice (some ⟨nb, 0, none⟩) A.nodes.length nc) (.slice (some ⟨rb, 0, none⟩) A.vers.length rc) (.slice sa2 A2.slots.length sc2) (.slice ga2 A2.guides.length gc2) (.slice na2 A2.nodes.length nc2) (.slice ra2 A2.vers.length rc2) A2 (doneC A.camera (.slice sa2 A2.slots.length sc2) (.slice ga2 A2.guides.length gc2) (.slice na2 A2.nodes.length nc2) (.slice ra2 A2.vers.length rc2) { h with at_ := 1 } d tk) := S3.put 5 (by simp [doneC, hdC, ddC]) (.int .i64 1)
  go_wp2_with (first | (refine wpList_load_mid rfl 40 (.tmp 3) rfl (w.heap.size + 1) 0 ?cx84 (doneC A.camera (.slice sa2 A2.slots.length sc2) (.slice ga2 A2.guides.length gc2) (.slice na2 A2.nodes.length nc2) (.slice ra2 A2.vers.length rc2) { h with at_ := 1 } d tk) _ ?cc84 Tryz.underlying40 rfl (sizeDoneL _ _ _ _ _ _ _ _) ?_) | (refine wpList_store_mid rfl 40 (.tmp 4) _ rfl (w.heap.size + 1 + 1) 0 (doneC A.camera (.slice sa2 A2.slots.length sc2) (.slice ga2 A2.guides.length gc2) (.slice na2 A2.nodes.length nc2) (.slice ra2 A2.vers.length rc2) { h with at_ := 1 } d tk).toArray ?dx84 ?dy84 ?dt84 (sizeDone _ _ _ _ _ _ _ _) (oneDone _ _ _ _ _ _ _ _ _ _ _ _ _ _ _ _) ?_))
  try (case cx84 => rfl)
  try (case cc84 => exact S5.row)
  try (case dx84 => rfl)
  try (case dy84 => rfl)
  try (case dt84 => exact S5.to)
  refine bodyPost_ret (v := .agg (doneC A.camera (.slice sa2 A2.slots.length sc2) (.slice ga2 A2.guides.length gc2) (.slice na2 A2.nodes.length nc2) (.slice ra2 A2.vers.length rc2) { h with at_ := 1 } d tk).toArray) ?_ rfl ⟨_, _, _, _, by rw [hd.out], by rw [hd.out]; exact S5.fin⟩
  exact results_row Tryz.results19 _ _ (w.heap.size + 1 + 1) 0 rfl (doneC A.camera (.slice sa2 A2.slots.length sc2) (.slice ga2 A2.guides.length gc2) (.slice na2 A2.nodes.length nc2) (.slice ra2 A2.vers.length rc2) { h with at_ := 1 } d tk) _ (S5.out rfl) Tryz.underlying40 rfl (sizeDoneL _ _ _ _ _ _ _ _)
 ·have m2 : ¬ (nv = -2) := by omega
  have m1 : ¬ (nv = -1) := by omega
  have hd : Hid (findOf x y z u A h = (A2, { h with ver := nv, then_ := 3, at_ := 3 })) := by show _ = _; rw [hfo.out, if_neg m2, if_neg m1]
  have q0 := S3.cell 5 rfl
  have q1 := S3.cell 6 rfl
  have q11 := S3.cell 16 rfl
  have f0 := S3.free 5 (by decide)
  have f1 := S3.free 6 (by decide)
  have f11 := S3.free 16 (by decide)
  go_upto_region 17 with fail
  have S5 : Stp base w _ (w.heap.size + 1) (w.heap.size + 1 + 1) (.slice sa A.slots.length sc) (.slice ga A.guides.length gc) (.slice (some ⟨nb, 0, none⟩) A.nodes.length nc) (.slice (some ⟨rb, 0, none⟩) A.vers.length rc) (.slice sa2 A2.slots.length sc2) (.slice ga2 A2.guides.length gc2) (.slice na2 A2.nodes.length nc2) (.slice ra2 A2.vers.length rc2) A2 (doneC A.camera (.slice sa2 A2.slots.length sc2) (.slice ga2 A2.guides.length gc2) (.slice na2 A2.nodes.length nc2) (.slice ra2 A2.vers.length rc2) { h with ver := nv, then_ := 3, at_ := 3 } d tk) := ((S3.put 16 (by simp [doneC, hdC, ddC]) (.int .i64 nv)).put 6 (by simp [doneC, hdC, ddC]) (.int .i64 3)).put 5 (by simp [doneC, hdC, ddC]) (.int .i64 3)
  go_wp2_with (first | (refine wpList_load_mid rfl 40 (.tmp 3) rfl (w.heap.size + 1) 0 ?cx85 (doneC A.camera (.slice sa2 A2.slots.length sc2) (.slice ga2 A2.guides.length gc2) (.slice na2 A2.nodes.length nc2) (.slice ra2 A2.vers.length rc2) { h with ver := nv, then_ := 3, at_ := 3 } d tk) _ ?cc85 Tryz.underlying40 rfl (sizeDoneL _ _ _ _ _ _ _ _) ?_) | (refine wpList_store_mid rfl 40 (.tmp 4) _ rfl (w.heap.size + 1 + 1) 0 (doneC A.camera (.slice sa2 A2.slots.length sc2) (.slice ga2 A2.guides.length gc2) (.slice na2 A2.nodes.length nc2) (.slice ra2 A2.vers.length rc2) { h with ver := nv, then_ := 3, at_ := 3 } d tk).toArray ?dx85 ?dy85 ?dt85 (sizeDone _ _ _ _ _ _ _ _) (oneDone _ _ _ _ _ _ _ _ _ _ _ _ _ _ _ _) ?_))
  try (case cx85 => rfl)
  try (case cc85 => exact S5.row)
  try (case dx85 => rfl)
  try (case dy85 => rfl)
  try (case dt85 => exact S5.to)
  refine bodyPost_ret (v := .agg (doneC A.camera (.slice sa2 A2.slots.length sc2) (.slice ga2 A2.guides.length gc2) (.slice na2 A2.nodes.length nc2) (.slice ra2 A2.vers.length rc2) { h with ver := nv, then_ := 3, at_ := 3 } d tk).toArray) ?_ rfl ⟨_, _, _, _, by rw [hd.out], by rw [hd.out]; exact S5.fin⟩
  exact results_row Tryz.results19 _ _ (w.heap.size + 1 + 1) 0 rfl (doneC A.camera (.slice sa2 A2.slots.length sc2) (.slice ga2 A2.guides.length gc2) (.slice na2 A2.nodes.length nc2) (.slice ra2 A2.vers.length rc2) { h with ver := nv, then_ := 3, at_ := 3 } d tk) _ (S5.out rfl) Tryz.underlying40 rfl (sizeDoneL _ _ _ _ _ _ _ _)
end
end Go.Proofs.YtlfjhcdjgoeafaaGreatDoor
