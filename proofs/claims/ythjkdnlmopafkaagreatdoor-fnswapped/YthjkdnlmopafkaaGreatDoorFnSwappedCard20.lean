/-
  What the law's proof goes by, part 21.
-/
import Derived.Test.YthjkdnlmopafkaaGreatDoorFnSwappedCard00
import Derived.Test.YthjkdnlmopafkaaGreatDoorFnSwappedCard08
import Derived.Test.YthjkdnlmopafkaaGreatDoorFnSwappedCard13
namespace Go.Proofs.YthjkdnlmopafkaaGreatDoor
open Go.ChangeShapes Go.WideShapes Go.ChangeAt Go.RowKit
set_option maxRecDepth 100000
set_option maxHeartbeats 16000000
set_option linter.unusedVariables false
set_option linter.unusedSimpArgs false
set_option linter.unnecessarySimpa false
set_option linter.unusedSectionVars false
section
attribute [local go_sem ↓] Go.wp_at_zero Go.wp_at_succ
def qzo (A : Ar) (h : Hd) (me : Int) (tk : Bool) : Ar × Hd × Bool :=
 if h.at_ = 13 then (A, { h with least := Q6w, at_ := 14 }, tk)
 else if h.at_ = 14 then ({ A with slots := A.slots.set me.toNat h.least }, { h with at_ := 15 }, tk)
 else if h.at_ = 15 then (if Q6w = 100 then (A, { h with cam := Q6w, at_ := 17 }, tk) else (A, { h with cam := Q6w, at_ := 16 }, tk))
 else if h.at_ = 16 then (if Q6w = h.cam /\ h.cam < 100 then ({ A with camera := Q6w + 1 }, qz9 { h with held := h.cam } 4 h.cam 0, true) else (A, qz9 { h with held := h.cam } 4 h.cam 0, tk))
 else if h.at_ = 17 then ({ A with slots := A.slots.set me.toNat (-1) }, qz9 h 6 0 0, tk)
 else if h.at_ = 18 then ({ A with slots := A.slots.set me.toNat (-1) }, qz9 { h with held := -1 } 4 0 0, tk)
 else (A, h, tk)
theorem qz8m (base : Nat) (A : Ar) (h : Hd) (d : Dd) (tk : Bool) (me : Int) (s g n r : Value) (w : World) (hbase : base <= Q6o) (hA : A.size <= 1048576) (O : qz1t base w s g n r A) (hm0 : 0 <= me) (hm1 : me < (Q74 : Int)) (hc0 : 0 <= Q6w) (hc1 : Q6w <= 100) :
  Calls Tryz.prog 149 #[.agg (Q6j).toArray, .int .i64 me] w fun e w' => ∃ s' g' n' r', e = .returned (.agg (qza (qzo A h me tk).1.camera s' g' n' r' (qzo A h me tk).2.1 d (qzo A h me tk).2.2).toArray) /\ qz29 base w w' s g n r s' g' n' r' (qzo A h me tk).1 := by
 unfold Ar.size at hA
 obtain ⟨sb, sc, rfl⟩ := qz12 O.rs (by omega)
 obtain ⟨ga, gc, rfl⟩ := qzf O.rg
 obtain ⟨na, nc, rfl⟩ := qzf O.rn
 obtain ⟨ra, rc, rfl⟩ := qzf O.rr
 have S0 := qza3 base w Q0e Q07 Q0c Q0h A Q4p Q0i 60 O rfl rfl
 have hsb := qz2d O.rs (j := sb) rfl
 obtain ⟨mk, rfl⟩ : ∃ k : Nat, me = k := ⟨me.toNat, by omega⟩
 have hml : mk < Q74 := by omega
 go_enter Tryz.func149, Tryz.ntmps149
 have tok : True := trivial
 go_wp2_with (clear tok; refine qz2j ((w.alloc (.cells (Q4p).toArray 60)).alloc (.cells Q01 60)) ?_)
 generalize hw0 : (w.alloc (.cells (Q4p).toArray 60)).alloc (.cells Q01 60) = w0 at *
 clear hw0
 show wpList _ _ _ _ _ w0
 have x0 := S0.cell 0 rfl
 have x1 := S0.cell 1 rfl
 have q0 := S0.cell 5 rfl
 have q9 := S0.cell 14 rfl
 have q12 := S0.cell 17 rfl
 have q19 := S0.cell 24 rfl
 have q32 := S0.cell 32 rfl
 have f0 := S0.free 0 (by decide)
 have f5 := S0.free 5 (by decide)
 have f14 := S0.free 14 (by decide)
 have f17 := S0.free 17 (by decide)
 have f24 := S0.free 24 (by decide)
 have f32 := S0.free 32 (by decide)
 obtain ⟨cs, csf⟩ := qz23 S0.own.rs mk (.int .i64 A.slots[mk]) (by have := qzy (f := intC) (sz := 1) (fun _ => rfl) A.slots mk hml 0 (by omega); rw [Nat.mul_one, Nat.add_zero] at this; rw [this]; rfl)
 have hne : ¬ (Q6o = sb) := by omega
 have hne' : ¬ (sb = Q6o) := by omega
 by_cases e13 : h.at_ = 13
 case pos =>
  have hd : Hid (qzo A h mk tk = (A, { h with least := Q6w, at_ := 14 }, tk)) := by show _ = _; rw [qzo, if_pos e13]
  rw [e13] at q0
  go_upto_region 26 with fail
  have S1 : Stp base w _ Q6o (Q6o + 1) Q0e Q07 Q0c Q0h Q0e Q07 Q0c Q0h A (qza Q6w Q0e Q07 Q0c Q0h { h with least := Q6w, at_ := 14 } d tk) := ((S0.put 24 (by simp [qza, hdC, ddC]) (.int .i64 Q6w)).put 5 (by simp [qza, hdC, ddC]) (.int .i64 14))
  go_wp2_with (first | (refine Q6z rfl 60 (.tmp 2) rfl Q6o 0 ?cx13 (qza Q6w Q0e Q07 Q0c Q0h { h with least := Q6w, at_ := 14 } d tk) _ ?cc13 Q71 rfl (qz7 _ _ _ _ _ _ _ _) ?_) | (refine Q6t rfl 60 (.tmp 4) _ rfl (Q6o + 1) 0 (qza Q6w Q0e Q07 Q0c Q0h { h with least := Q6w, at_ := 14 } d tk).toArray ?dx13 ?dy13 ?dt13 (qzs _ _ _ _ _ _ _ _) Q0v ?_))
  try (case cx13 => rfl)
  try (case cc13 => exact S1.row)
  try (case dx13 => rfl)
  try (case dy13 => rfl)
  try (case dt13 => exact S1.to)
  refine bodyPost_ret (v := .agg (qza Q6w Q0e Q07 Q0c Q0h { h with least := Q6w, at_ := 14 } d tk).toArray) ?_ rfl ⟨_, _, _, _, by rw [hd.out], by rw [hd.out]; exact S1.fin⟩
  exact qz3 Tryz.results149 _ _ (Q6o + 1) 0 rfl (qza Q6w Q0e Q07 Q0c Q0h { h with least := Q6w, at_ := 14 } d tk) _ (S1.out rfl) Q71 rfl (qz7 _ _ _ _ _ _ _ _)
 by_cases e14 : h.at_ = 14
 case pos =>
  have hd : Hid (qzo A h mk tk = ({ A with slots := A.slots.set mk h.least }, { h with at_ := 15 }, tk)) := by show _ = _; rw [qzo, if_neg e13, if_pos e14]; rfl
  rw [e14] at q0
  go_upto_region 26 with fail
  have S1 : Stp base w _ Q6o (Q6o + 1) Q0e Q07 Q0c Q0h Q0e Q07 Q0c Q0h { A with slots := A.slots.set mk h.least } (qza Q6w Q0e Q07 Q0c Q0h { h with at_ := 15 } d tk) := ((S0.slot mk hml h.least).put 5 (by simp [qza, hdC, ddC]) (.int .i64 15))
  go_wp2_with (first | (refine Q6z rfl 60 (.tmp 2) rfl Q6o 0 ?cx14 (qza Q6w Q0e Q07 Q0c Q0h { h with at_ := 15 } d tk) _ ?cc14 Q71 rfl (qz7 _ _ _ _ _ _ _ _) ?_) | (refine Q6t rfl 60 (.tmp 4) _ rfl (Q6o + 1) 0 (qza Q6w Q0e Q07 Q0c Q0h { h with at_ := 15 } d tk).toArray ?dx14 ?dy14 ?dt14 (qzs _ _ _ _ _ _ _ _) Q0v ?_))
  try (case cx14 => rfl)
  try (case cc14 => exact S1.row)
  try (case dx14 => rfl)
  try (case dy14 => rfl)
  try (case dt14 => exact S1.to)
  refine bodyPost_ret (v := .agg (qza Q6w Q0e Q07 Q0c Q0h { h with at_ := 15 } d tk).toArray) ?_ rfl ⟨_, _, _, _, by rw [hd.out], by rw [hd.out]; exact S1.fin⟩
  exact qz3 Tryz.results149 _ _ (Q6o + 1) 0 rfl (qza Q6w Q0e Q07 Q0c Q0h { h with at_ := 15 } d tk) _ (S1.out rfl) Q71 rfl (qz7 _ _ _ _ _ _ _ _)
 by_cases e15 : h.at_ = 15
 case pos =>
  rw [e15] at q0
  by_cases hcam : Q6w = 100
  case pos =>
   have hd : Hid (qzo A h mk tk = (A, { h with cam := Q6w, at_ := 17 }, tk)) := by show _ = _; rw [qzo, if_neg e13, if_neg e14, if_pos e15, if_pos hcam]
   have hcb : (Q6w == 100) = true := by simp [hcam]
   have hcH : Hid (Q6w = 100) := hcam
   clear hcam
   go_upto_region 26 with fail
   have S1 : Stp base w _ Q6o (Q6o + 1) Q0e Q07 Q0c Q0h Q0e Q07 Q0c Q0h A (qza Q6w Q0e Q07 Q0c Q0h { h with cam := Q6w, at_ := 17 } d tk) := (((S0.put 17 (by simp [qza, hdC, ddC]) (.int .i64 Q6w)).put 5 (by simp [qza, hdC, ddC]) (.int .i64 16)).put 5 (by simp [qza, hdC, ddC]) (.int .i64 17))
   go_wp2_with (first | (refine Q6z rfl 60 (.tmp 2) rfl Q6o 0 ?cx151 (qza Q6w Q0e Q07 Q0c Q0h { h with cam := Q6w, at_ := 17 } d tk) _ ?cc151 Q71 rfl (qz7 _ _ _ _ _ _ _ _) ?_) | (refine Q6t rfl 60 (.tmp 4) _ rfl (Q6o + 1) 0 (qza Q6w Q0e Q07 Q0c Q0h { h with cam := Q6w, at_ := 17 } d tk).toArray ?dx151 ?dy151 ?dt151 (qzs _ _ _ _ _ _ _ _) Q0v ?_))
   try (case cx151 => rfl)
   try (case cc151 => exact S1.row)
   try (case dx151 => rfl)
   try (case dy151 => rfl)
   try (case dt151 => exact S1.to)
   refine bodyPost_ret (v := .agg (qza Q6w Q0e Q07 Q0c Q0h { h with cam := Q6w, at_ := 17 } d tk).toArray) ?_ rfl ⟨_, _, _, _, by rw [hd.out], by rw [hd.out]; exact S1.fin⟩
   exact qz3 Tryz.results149 _ _ (Q6o + 1) 0 rfl (qza Q6w Q0e Q07 Q0c Q0h { h with cam := Q6w, at_ := 17 } d tk) _ (S1.out rfl) Q71 rfl (qz7 _ _ _ _ _ _ _ _)
  have hd : Hid (qzo A h mk tk = (A, { h with cam := Q6w, at_ := 16 }, tk)) := by show _ = _; rw [qzo, if_neg e13, if_neg e14, if_pos e15, if_neg hcam]
  have hcb : (Q6w == 100) = false := by simp [hcam]
  go_upto_region 26 with fail
  have S1 : Stp base w _ Q6o (Q6o + 1) Q0e Q07 Q0c Q0h Q0e Q07 Q0c Q0h A (qza Q6w Q0e Q07 Q0c Q0h { h with cam := Q6w, at_ := 16 } d tk) := ((S0.put 17 (by simp [qza, hdC, ddC]) (.int .i64 Q6w)).put 5 (by simp [qza, hdC, ddC]) (.int .i64 16))
  go_wp2_with (first | (refine Q6z rfl 60 (.tmp 2) rfl Q6o 0 ?cx152 (qza Q6w Q0e Q07 Q0c Q0h { h with cam := Q6w, at_ := 16 } d tk) _ ?cc152 Q71 rfl (qz7 _ _ _ _ _ _ _ _) ?_) | (refine Q6t rfl 60 (.tmp 4) _ rfl (Q6o + 1) 0 (qza Q6w Q0e Q07 Q0c Q0h { h with cam := Q6w, at_ := 16 } d tk).toArray ?dx152 ?dy152 ?dt152 (qzs _ _ _ _ _ _ _ _) Q0v ?_))
  try (case cx152 => rfl)
  try (case cc152 => exact S1.row)
  try (case dx152 => rfl)
  try (case dy152 => rfl)
  try (case dt152 => exact S1.to)
  refine bodyPost_ret (v := .agg (qza Q6w Q0e Q07 Q0c Q0h { h with cam := Q6w, at_ := 16 } d tk).toArray) ?_ rfl ⟨_, _, _, _, by rw [hd.out], by rw [hd.out]; exact S1.fin⟩
  exact qz3 Tryz.results149 _ _ (Q6o + 1) 0 rfl (qza Q6w Q0e Q07 Q0c Q0h { h with cam := Q6w, at_ := 16 } d tk) _ (S1.out rfl) Q71 rfl (qz7 _ _ _ _ _ _ _ _)
 by_cases e17 : h.at_ = 17
 case pos =>
  have e16 : ¬ (h.at_ = 16) := by omega
  have hd : Hid (qzo A h mk tk = ({ A with slots := A.slots.set mk (-1) }, qz9 h 6 0 0, tk)) := by show _ = _; rw [qzo, if_neg e13, if_neg e14, if_neg e15, if_neg e16, if_pos e17]; rfl
  rw [e17] at q0
  have S1 := S0.slot mk hml (-1)
  go_upto_region 26 with (first | (refine Q6z rfl 56 (.tmp 85) rfl Q6o 5 ?ax17 (hdC h) _ ?ac17 Q6x rfl (qz4 h) ?_) | (go_at_call 102; refine (qzt h 6 0 0 _).mono ?_; rintro e w17q ⟨rfl, b17q⟩; have S2 := S1.below b17q) | (refine Q6t rfl 56 (.tmp 88) _ rfl Q6o 5 (hdC (qz9 h 6 0 0)).toArray ?bx17 ?by17 ?bt17 (qzc _) (qzk _) ?_))
  try (case ax17 => rfl)
  try (case ac17 => exact (qzv S1.row).2.1)
  try (case bx17 => rfl)
  try (case by17 => rfl)
  try (case bt17 => have T := qz1d S2.th 5 22 (by omega); rw [Nat.zero_add] at T; exact T)
  have S9 := S2.hand (qz9 h 6 0 0)
  go_wp2_with (first | (refine Q6z rfl 60 (.tmp 2) rfl Q6o 0 ?cx171 Q5p _ ?cc171 Q71 rfl (qz7 _ _ _ _ _ _ _ _) ?_) | (refine Q6t rfl 60 (.tmp 4) _ rfl (Q6o + 1) 0 (Q5p).toArray ?dx171 ?dy171 ?dt171 (qzs _ _ _ _ _ _ _ _) Q0v ?_))
  try (case cx171 => rfl)
  try (case cc171 => exact S9.row)
  try (case dx171 => rfl)
  try (case dy171 => rfl)
  try (case dt171 => exact S9.to)
  refine bodyPost_ret (v := .agg (Q5p).toArray) ?_ rfl ⟨_, _, _, _, by rw [hd.out], by rw [hd.out]; exact S9.fin⟩
  exact qz3 Tryz.results149 _ _ (Q6o + 1) 0 rfl Q5p _ (S9.out rfl) Q71 rfl (qz7 _ _ _ _ _ _ _ _)
 by_cases e18 : h.at_ = 18
 case pos =>
  have e16 : ¬ (h.at_ = 16) := by omega
  obtain ⟨H', hH⟩ : ∃ H' : Hd, Hid (H' = { h with held := -1 }) := by exact ⟨_, rfl⟩
  have hd : Hid (qzo A h mk tk = ({ A with slots := A.slots.set mk (-1) }, qz9 H' 4 0 0, tk)) := by show _ = _; rw [qzo, if_neg e13, if_neg e14, if_neg e15, if_neg e16, if_neg e17, if_pos e18, hH.out]; rfl
  rw [e18] at q0
  have S1 : Stp base w _ Q6o (Q6o + 1) Q0e Q07 Q0c Q0h Q0e Q07 Q0c Q0h { A with slots := A.slots.set mk (-1) } (qza Q6w Q0e Q07 Q0c Q0h { h with held := -1 } d tk) := ((S0.slot mk hml (-1)).put 14 (by simp [qza, hdC, ddC]) (.int .i64 (-1)))
  rw [<- hH.out] at S1
  go_upto_region 26 with (first | (refine Q6z rfl 56 (.tmp 98) rfl Q6o 5 ?ax18 (hdC H') _ ?ac18 Q6x rfl (qz4 H') ?_) | (go_at_call 102; refine (qzt H' 4 0 0 _).mono ?_; rintro e w18q ⟨rfl, b18q⟩; have S2 := S1.below b18q) | (refine Q6t rfl 56 (.tmp 101) _ rfl Q6o 5 (hdC (qz9 H' 4 0 0)).toArray ?bx18 ?by18 ?bt18 (qzc _) (qzk _) ?_))
  try (case ax18 => rfl)
  try (case ac18 => exact (qzv S1.row).2.1)
  try (case bx18 => rfl)
  try (case by18 => rfl)
  try (case bt18 => have T := qz1d S2.th 5 22 (by omega); rw [Nat.zero_add] at T; exact T)
  have S9 := S2.hand (qz9 H' 4 0 0)
  go_wp2_with (first | (refine Q6z rfl 60 (.tmp 2) rfl Q6o 0 ?cx181 Q5h _ ?cc181 Q71 rfl (qz7 _ _ _ _ _ _ _ _) ?_) | (refine Q6t rfl 60 (.tmp 4) _ rfl (Q6o + 1) 0 (Q5h).toArray ?dx181 ?dy181 ?dt181 (qzs _ _ _ _ _ _ _ _) Q0v ?_))
  try (case cx181 => rfl)
  try (case cc181 => exact S9.row)
  try (case dx181 => rfl)
  try (case dy181 => rfl)
  try (case dt181 => exact S9.to)
  refine bodyPost_ret (v := .agg (Q5h).toArray) ?_ rfl ⟨_, _, _, _, by rw [hd.out], by rw [hd.out]; exact S9.fin⟩
  exact qz3 Tryz.results149 _ _ (Q6o + 1) 0 rfl Q5h _ (S9.out rfl) Q71 rfl (qz7 _ _ _ _ _ _ _ _)
 by_cases e16 : h.at_ = 16
 case neg =>
  have hd : Hid (qzo A h mk tk = (A, h, tk)) := by show _ = _; rw [qzo, if_neg e13, if_neg e14, if_neg e15, if_neg e16, if_neg e17, if_neg e18]
  go_upto_region 26 with fail
  go_wp2_with (first | (refine Q6z rfl 60 (.tmp 2) rfl Q6o 0 ?cx19 Q4p _ ?cc19 Q71 rfl (qz7 _ _ _ _ _ _ _ _) ?_) | (refine Q6t rfl 60 (.tmp 4) _ rfl (Q6o + 1) 0 (Q4p).toArray ?dx19 ?dy19 ?dt19 (qzs _ _ _ _ _ _ _ _) Q0v ?_))
  try (case cx19 => rfl)
  try (case cc19 => exact S0.row)
  try (case dx19 => rfl)
  try (case dy19 => rfl)
  try (case dt19 => exact S0.to)
  refine bodyPost_ret (v := .agg (Q4p).toArray) ?_ rfl ⟨_, _, _, _, by rw [hd.out], by rw [hd.out]; exact S0.fin⟩
  exact qz3 Tryz.results149 _ _ (Q6o + 1) 0 rfl Q4p _ (S0.out rfl) Q71 rfl (qz7 _ _ _ _ _ _ _ _)
 rw [e16] at q0
 obtain ⟨H', hH⟩ : ∃ H' : Hd, Hid (H' = { h with held := h.cam }) := by exact ⟨_, rfl⟩
 have hHc : H'.cam = h.cam := by rw [hH.out]
 by_cases htick : Q6w = h.cam /\ h.cam < 100
 case pos =>
  have hd : Hid (qzo A h mk tk = ({ A with camera := Q6w + 1 }, qz9 H' 4 h.cam 0, true)) := by show _ = _; rw [qzo, if_neg e13, if_neg e14, if_neg e15, if_pos e16, if_pos htick, hH.out]
  have t1 : (Q6w == h.cam) = true := by simp [htick.1]
  have t2 : h.cam < 100 := htick.2
  have v1 : -9223372036854775808 <= Q6w + 1 := by omega
  have v2 : Q6w + 1 <= 9223372036854775807 := by omega
  clear htick
  go_upto_region 18 with fail
  have S1 : Stp base w _ Q6o (Q6o + 1) Q0e Q07 Q0c Q0h Q0e Q07 Q0c Q0h { A with camera := Q6w + 1 } (qza (Q6w + 1) Q0e Q07 Q0c Q0h { h with held := h.cam } d true) := ((((S0.cam (Q6w + 1)).put 0 (by simp [qza, hdC, ddC]) (.int .i64 (Q6w + 1))).put 32 (by simp [qza, hdC, ddC]) (.bool true)).put 14 (by simp [qza, hdC, ddC]) (.int .i64 h.cam))
  rw [<- hH.out] at S1
  have y12 := S1.cell 17 rfl
  rw [hHc] at y12
  go_upto_region 26 with (first | (refine Q6z rfl 56 (.tmp 71) rfl Q6o 5 ?ax161 (hdC H') _ ?ac161 Q6x rfl (qz4 H') ?_) | (go_at_call 102; refine (qzt H' 4 h.cam 0 _).mono ?_; rintro e w161q ⟨rfl, b161q⟩; have S2 := S1.below b161q) | (refine Q6t rfl 56 (.tmp 77) _ rfl Q6o 5 (hdC (qz9 H' 4 h.cam 0)).toArray ?bx161 ?by161 ?bt161 (qzc _) (qzk _) ?_))
  try (case ax161 => rfl)
  try (case ac161 => exact (qzv S1.row).2.1)
  try (case bx161 => rfl)
  try (case by161 => rfl)
  try (case bt161 => have T := qz1d S2.th 5 22 (by omega); rw [Nat.zero_add] at T; exact T)
  have S9 := S2.hand (qz9 H' 4 h.cam 0)
  go_wp2_with (first | (refine Q6z rfl 60 (.tmp 2) rfl Q6o 0 ?cx162 Q4w _ ?cc162 Q71 rfl (qz7 _ _ _ _ _ _ _ _) ?_) | (refine Q6t rfl 60 (.tmp 4) _ rfl (Q6o + 1) 0 (Q4w).toArray ?dx162 ?dy162 ?dt162 (qzs _ _ _ _ _ _ _ _) Q0v ?_))
  try (case cx162 => rfl)
  try (case cc162 => exact S9.row)
  try (case dx162 => rfl)
  try (case dy162 => rfl)
  try (case dt162 => exact S9.to)
  refine bodyPost_ret (v := .agg (Q4w).toArray) ?_ rfl ⟨_, _, _, _, by rw [hd.out], by rw [hd.out]; exact S9.fin⟩
  exact qz3 Tryz.results149 _ _ (Q6o + 1) 0 rfl Q4w _ (S9.out rfl) Q71 rfl (qz7 _ _ _ _ _ _ _ _)
 have hd : Hid (qzo A h mk tk = (A, qz9 H' 4 h.cam 0, tk)) := by show _ = _; rw [qzo, if_neg e13, if_neg e14, if_neg e15, if_pos e16, if_neg htick, hH.out]
 have S1 : Stp base w _ Q6o (Q6o + 1) Q0e Q07 Q0c Q0h Q0e Q07 Q0c Q0h A (qza Q6w Q0e Q07 Q0c Q0h { h with held := h.cam } d tk) := (S0.put 14 (by simp [qza, hdC, ddC]) (.int .i64 h.cam))
 rw [<- hH.out] at S1
 by_cases t1 : Q6w = h.cam
 case pos =>
  have t1b : (Q6w == h.cam) = true := by simp [t1]
  have t2 : ¬ (h.cam < 100) := fun hq => htick ⟨t1, hq⟩
  have t1H : Hid (Q6w = h.cam) := t1
  clear t1 htick
  go_upto_region 18 with fail
  have y12 := S1.cell 17 rfl
  rw [hHc] at y12
  go_upto_region 26 with (first | (refine Q6z rfl 56 (.tmp 71) rfl Q6o 5 ?ax163 (hdC H') _ ?ac163 Q6x rfl (qz4 H') ?_) | (go_at_call 102; refine (qzt H' 4 h.cam 0 _).mono ?_; rintro e w163q ⟨rfl, b163q⟩; have S2 := S1.below b163q) | (refine Q6t rfl 56 (.tmp 77) _ rfl Q6o 5 (hdC (qz9 H' 4 h.cam 0)).toArray ?bx163 ?by163 ?bt163 (qzc _) (qzk _) ?_))
  try (case ax163 => rfl)
  try (case ac163 => exact (qzv S1.row).2.1)
  try (case bx163 => rfl)
  try (case by163 => rfl)
  try (case bt163 => have T := qz1d S2.th 5 22 (by omega); rw [Nat.zero_add] at T; exact T)
  have S9 := S2.hand (qz9 H' 4 h.cam 0)
  go_wp2_with (first | (refine Q6z rfl 60 (.tmp 2) rfl Q6o 0 ?cx164 Q2x _ ?cc164 Q71 rfl (qz7 _ _ _ _ _ _ _ _) ?_) | (refine Q6t rfl 60 (.tmp 4) _ rfl (Q6o + 1) 0 (Q2x).toArray ?dx164 ?dy164 ?dt164 (qzs _ _ _ _ _ _ _ _) Q0v ?_))
  try (case cx164 => rfl)
  try (case cc164 => exact S9.row)
  try (case dx164 => rfl)
  try (case dy164 => rfl)
  try (case dt164 => exact S9.to)
  refine bodyPost_ret (v := .agg (Q2x).toArray) ?_ rfl ⟨_, _, _, _, by rw [hd.out], by rw [hd.out]; exact S9.fin⟩
  exact qz3 Tryz.results149 _ _ (Q6o + 1) 0 rfl Q2x _ (S9.out rfl) Q71 rfl (qz7 _ _ _ _ _ _ _ _)
 have t1b : (Q6w == h.cam) = false := by simp [t1]
 go_upto_region 18 with fail
 have y12 := S1.cell 17 rfl
 rw [hHc] at y12
 go_upto_region 26 with (first | (refine Q6z rfl 56 (.tmp 71) rfl Q6o 5 ?ax165 (hdC H') _ ?ac165 Q6x rfl (qz4 H') ?_) | (go_at_call 102; refine (qzt H' 4 h.cam 0 _).mono ?_; rintro e w165q ⟨rfl, b165q⟩; have S2 := S1.below b165q) | (refine Q6t rfl 56 (.tmp 77) _ rfl Q6o 5 (hdC (qz9 H' 4 h.cam 0)).toArray ?bx165 ?by165 ?bt165 (qzc _) (qzk _) ?_))
 try (case ax165 => rfl)
 try (case ac165 => exact (qzv S1.row).2.1)
 try (case bx165 => rfl)
 try (case by165 => rfl)
 try (case bt165 => have T := qz1d S2.th 5 22 (by omega); rw [Nat.zero_add] at T; exact T)
 have S9 := S2.hand (qz9 H' 4 h.cam 0)
 go_wp2_with (first | (refine Q6z rfl 60 (.tmp 2) rfl Q6o 0 ?cx166 Q2x _ ?cc166 Q71 rfl (qz7 _ _ _ _ _ _ _ _) ?_) | (refine Q6t rfl 60 (.tmp 4) _ rfl (Q6o + 1) 0 (Q2x).toArray ?dx166 ?dy166 ?dt166 (qzs _ _ _ _ _ _ _ _) Q0v ?_))
 try (case cx166 => rfl)
 try (case cc166 => exact S9.row)
 try (case dx166 => rfl)
 try (case dy166 => rfl)
 try (case dt166 => exact S9.to)
 refine bodyPost_ret (v := .agg (Q2x).toArray) ?_ rfl ⟨_, _, _, _, by rw [hd.out], by rw [hd.out]; exact S9.fin⟩
 exact qz3 Tryz.results149 _ _ (Q6o + 1) 0 rfl Q2x _ (S9.out rfl) Q71 rfl (qz7 _ _ _ _ _ _ _ _)
end
end Go.Proofs.YthjkdnlmopafkaaGreatDoor
