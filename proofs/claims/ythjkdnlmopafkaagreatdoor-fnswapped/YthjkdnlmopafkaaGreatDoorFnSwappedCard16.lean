/-
  What the law's proof goes by, part 17.
-/
import Derived.Lib.QuietBelow
import Derived.Test.YthjkdnlmopafkaaGreatDoorFnSwappedCard00
import Derived.Test.YthjkdnlmopafkaaGreatDoorFnSwappedCard02
import Derived.Test.YthjkdnlmopafkaaGreatDoorFnSwappedCard14
namespace Go.Proofs.YthjkdnlmopafkaaGreatDoor
open Go.ChangeShapes Go.WideShapes Go.ChangeAt Go.RowKit
set_option maxRecDepth 100000
set_option maxHeartbeats 16000000
set_option linter.unusedVariables false
set_option linter.unusedSimpArgs false
set_option linter.unnecessarySimpa false
set_option linter.unusedSectionVars false
section
attribute [local go_sem ↓] Go.wp_at_zero Go.wp_at_succ
def qz79 (nv : Int) (h : Hd) (node thn : Int) : Hd := if nv = -2 then qz9 h 5 0 0 else if nv = -1 then { h with at_ := 1 } else { h with ver := nv, x_ := node, then_ := thn, at_ := 3 }
theorem qz85 (base : Nat) (A : Ar) (h : Hd) (d : Dd) (tk : Bool) (node v next : Int) (gone : Bool) (kind thn : Int) (s g n r : Value) (w : World) (hbase : base <= Q6o) (hA : A.size <= 1048576) (O : qz1t base w s g n r A) (x y z u : Int) (hp0 : 0 <= node) (hp1 : node < (Q6q : Int)) :
  Calls Tryz.prog 158 #[.agg Q06, .agg (Q6j).toArray, .int .i64 node, .int .i64 v, .int .i64 next, .bool gone, .int .i64 kind, .int .i64 thn] w fun e w' => ∃ s' g' n' r', e = .returned (.agg (qza Q6w s' g' n' r' (qz79 Q3z.2 h node thn) d tk).toArray) /\ qz29 base w w' s g n r s' g' n' r' Q3z.1 := by
 have hA' := hA
 unfold Ar.size at hA
 obtain ⟨sa, sc, rfl⟩ := qzf O.rs
 obtain ⟨ga, gc, rfl⟩ := qzf O.rg
 obtain ⟨na, nc, rfl⟩ := qzf O.rn
 obtain ⟨ra, rc, rfl⟩ := qzf O.rr
 obtain ⟨S0, P0⟩ := qz1i base w Q0a Q07 Q0c Q0h A Q18 Q0i 60 25 x y z u O rfl rfl
 have hcode := qz7r z A node v next gone kind
 go_enter Tryz.func158, Tryz.ntmps158
 have tok : True := trivial
 go_wp2_with (clear tok; refine qz2j Q2b ?_)
 generalize hw0 : (Q34).alloc (.cells Q01 60) = w0 at *
 clear hw0
 show wpList _ _ _ _ _ w0
 have x0 := S0.cell 0 rfl
 have x1 := S0.cell 1 rfl
 have x2 := S0.cell 2 rfl
 have x3 := S0.cell 3 rfl
 have x4 := S0.cell 4 rfl
 obtain ⟨p0, p1, p2, p3⟩ := id P0
 have hw1 := S0.hi
 go_upto_region 3 with (go_at_call 38; refine (qz5r base A x y z u node v next gone kind _ _ _ _ _ (Q77 hbase S0.but.size) hA' S0.own hp0 hp1).mono ?_; rintro e w2 ⟨s2, g2, n2, r2, rfl, E⟩; have S2 := S0.swap E; generalize hsw : Q3z = sw at *; obtain ⟨A2, nv⟩ := sw; obtain ⟨sa2, sc2, rfl⟩ := qzf S2.own.rs; obtain ⟨ga2, gc2, rfl⟩ := qzf S2.own.rg; obtain ⟨na2, nc2, rfl⟩ := qzf S2.own.rn; obtain ⟨ra2, rc2, rfl⟩ := qzf S2.own.rr; have x0 := S2.cell 0 rfl; have x1 := S2.cell 1 rfl; have x2 := S2.cell 2 rfl; have x3 := S2.cell 3 rfl; have x4 := S2.cell 4 rfl; have k0 := S2.free 0 (by decide); have k1 := S2.free 1 (by decide); have k2 := S2.free 2 (by decide); have k3 := S2.free 3 (by decide); have k4 := S2.free 4 (by decide); dsimp only at hcode)
 have S3 : Stp base w Q4d (Q6o + 1) (Q6o + 1 + 1) Q0a Q07 Q0c Q0h Q13 Q12 Q1d Q16 A2 (qza Q6w Q13 Q12 Q1d Q16 h d tk) := S2.arena (cam' := Q6w)
 generalize (Q53).setCell ⟨Q6o + 1, 4, none⟩ Q16 = w3 at *
 clear S2 S0 P0 x0 x1 x2 x3 x4 k0 k1 k2 k3 k4 p0 p1 p2 p3 E
 have hswH : Hid (Q3z = (A2, nv)) := hsw
 clear hsw
 rcases hcode with rfl | rfl | hnv
 ·have hd : Hid (qz79 (-2) h node thn = qz9 h 5 0 0) := by show _ = _; rw [qz79, if_pos rfl]
  go_upto_region 12 with (first | (refine Q6z rfl 56 (.tmp 45) rfl (Q6o + 1) 5 ?ax81 (hdC h) _ ?ac81 Q6x rfl (qz4 h) ?_) | (go_at_call 102; refine (qzt h 5 0 0 _).mono ?_; rintro e w4 ⟨rfl, b4⟩; have S4 := S3.below b4) | (refine Q6t rfl 56 (.tmp 48) _ rfl (Q6o + 1) 5 (hdC (qz9 h 5 0 0)).toArray ?bx82 ?by82 ?bt82 (qzc _) (qzk _) ?_))
  try (case ax81 => rfl)
  try (case ac81 => exact (qzv S3.row).2.1)
  try (case bx82 => rfl)
  try (case by82 => rfl)
  try (case bt82 => have T := qz1d S4.th 5 22 (by omega); rw [Nat.zero_add] at T; exact T)
  have S5 := S4.hand (qz9 h 5 0 0)
  go_wp2_with (first | (refine Q6z rfl 60 (.tmp 9) rfl (Q6o + 1) 0 ?cx83 Q3b _ ?cc83 Q71 rfl (qz7 _ _ _ _ _ _ _ _) ?_) | (refine Q6t rfl 60 (.tmp 16) _ rfl (Q6o + 1 + 1) 0 (Q3b).toArray ?dx83 ?dy83 ?dt83 (qzs _ _ _ _ _ _ _ _) Q0v ?_))
  try (case cx83 => rfl)
  try (case cc83 => exact S5.row)
  try (case dx83 => rfl)
  try (case dy83 => rfl)
  try (case dt83 => exact S5.to)
  refine bodyPost_ret (v := .agg (Q3b).toArray) ?_ rfl ⟨_, _, _, _, by first | rfl | (rw [hd.out]) | (rw [hswH.out]; exact congrArg _ (by rw [hd.out])), by first | exact S5.fin | (rw [hswH.out]; exact S5.fin)⟩
  exact qz3 Tryz.results158 _ _ (Q6o + 1 + 1) 0 rfl Q3b _ (S5.out rfl) Q71 rfl (qz7 _ _ _ _ _ _ _ _)
 ·have hd : Hid (qz79 (-1) h node thn = { h with at_ := 1 }) := by show _ = _; rw [qz79, if_neg (by decide), if_pos rfl]
  have q0 := S3.cell 5 rfl
  have f0 := S3.free 5 (by decide)
  go_upto_region 12 with fail
  have S5 : Stp base w _ (Q6o + 1) (Q6o + 1 + 1) Q0a Q07 Q0c Q0h Q13 Q12 Q1d Q16 A2 (qza Q6w Q13 Q12 Q1d Q16 { h with at_ := 1 } d tk) := S3.put 5 (by simp [qza, hdC, ddC]) (.int .i64 1)
  go_wp2_with (first | (refine Q6z rfl 60 (.tmp 9) rfl (Q6o + 1) 0 ?cx84 (qza Q6w Q13 Q12 Q1d Q16 { h with at_ := 1 } d tk) _ ?cc84 Q71 rfl (qz7 _ _ _ _ _ _ _ _) ?_) | (refine Q6t rfl 60 (.tmp 16) _ rfl (Q6o + 1 + 1) 0 (qza Q6w Q13 Q12 Q1d Q16 { h with at_ := 1 } d tk).toArray ?dx84 ?dy84 ?dt84 (qzs _ _ _ _ _ _ _ _) Q0v ?_))
  try (case cx84 => rfl)
  try (case cc84 => exact S5.row)
  try (case dx84 => rfl)
  try (case dy84 => rfl)
  try (case dt84 => exact S5.to)
  refine bodyPost_ret (v := .agg (qza Q6w Q13 Q12 Q1d Q16 { h with at_ := 1 } d tk).toArray) ?_ rfl ⟨_, _, _, _, by first | rfl | (rw [hd.out]) | (rw [hswH.out]; exact congrArg _ (by rw [hd.out])), by first | exact S5.fin | (rw [hswH.out]; exact S5.fin)⟩
  exact qz3 Tryz.results158 _ _ (Q6o + 1 + 1) 0 rfl (qza Q6w Q13 Q12 Q1d Q16 { h with at_ := 1 } d tk) _ (S5.out rfl) Q71 rfl (qz7 _ _ _ _ _ _ _ _)
 ·have m2 : ¬ (nv = -2) := by omega
  have m1 : ¬ (nv = -1) := by omega
  have hd : Hid (qz79 nv h node thn = { h with ver := nv, x_ := node, then_ := thn, at_ := 3 }) := by show _ = _; rw [qz79, if_neg m2, if_neg m1]
  have q0 := S3.cell 5 rfl
  have q1 := S3.cell 6 rfl
  have q10 := S3.cell 15 rfl
  have q11 := S3.cell 16 rfl
  have f0 := S3.free 5 (by decide)
  have f1 := S3.free 6 (by decide)
  have f10 := S3.free 15 (by decide)
  have f11 := S3.free 16 (by decide)
  go_upto_region 12 with fail
  have S5 : Stp base w _ (Q6o + 1) (Q6o + 1 + 1) Q0a Q07 Q0c Q0h Q13 Q12 Q1d Q16 A2 (qza Q6w Q13 Q12 Q1d Q16 { h with ver := nv, x_ := node, then_ := thn, at_ := 3 } d tk) := (((S3.put 16 (by simp [qza, hdC, ddC]) (.int .i64 nv)).put 15 (by simp [qza, hdC, ddC]) (.int .i64 node)).put 6 (by simp [qza, hdC, ddC]) (.int .i64 thn)).put 5 (by simp [qza, hdC, ddC]) (.int .i64 3)
  go_wp2_with (first | (refine Q6z rfl 60 (.tmp 9) rfl (Q6o + 1) 0 ?cx85 (qza Q6w Q13 Q12 Q1d Q16 { h with ver := nv, x_ := node, then_ := thn, at_ := 3 } d tk) _ ?cc85 Q71 rfl (qz7 _ _ _ _ _ _ _ _) ?_) | (refine Q6t rfl 60 (.tmp 16) _ rfl (Q6o + 1 + 1) 0 (qza Q6w Q13 Q12 Q1d Q16 { h with ver := nv, x_ := node, then_ := thn, at_ := 3 } d tk).toArray ?dx85 ?dy85 ?dt85 (qzs _ _ _ _ _ _ _ _) Q0v ?_))
  try (case cx85 => rfl)
  try (case cc85 => exact S5.row)
  try (case dx85 => rfl)
  try (case dy85 => rfl)
  try (case dt85 => exact S5.to)
  refine bodyPost_ret (v := .agg (qza Q6w Q13 Q12 Q1d Q16 { h with ver := nv, x_ := node, then_ := thn, at_ := 3 } d tk).toArray) ?_ rfl ⟨_, _, _, _, by first | rfl | (rw [hd.out]) | (rw [hswH.out]; exact congrArg _ (by rw [hd.out])), by first | exact S5.fin | (rw [hswH.out]; exact S5.fin)⟩
  exact qz3 Tryz.results158 _ _ (Q6o + 1 + 1) 0 rfl (qza Q6w Q13 Q12 Q1d Q16 { h with ver := nv, x_ := node, then_ := thn, at_ := 3 } d tk) _ (S5.out rfl) Q71 rfl (qz7 _ _ _ _ _ _ _ _)
end
section
open Go.ChangeShapes Go.WideShapes Go.ChangeAt Go.RowKit Go.Sort
theorem qz2i {P : Program} {id : Nat} {Q : Exit -> Act -> World -> Prop} {a : Act} {w : World} {l : List Oper} (k : Nat) (hm : P.follows .mixedOrders = true) (hB : qzee .any l.toArray k (l.length - k) = true)
  (h : wpQuiet P l.toArray (fun w' => ∃ p : Regrown, w' = grow (redrawn w p.d) p.os) (fun a' => ∀ w', (∃ p : Regrown, w' = grow (redrawn w p.d) p.os) -> wpList P l.toArray Q (l.drop k) a' w') (l.take k) a) : (Code.region id l.toArray true).wp P Q a w := by
 simp only [qzee, Bool.and_eq_true, beq_iff_eq] at hB
 obtain ⟨⟨⟨⟨hkm, hs⟩, hlex⟩, hw⟩, hseq⟩ := hB
 have hkl : k <= l.length := by simp at hkm; omega
 have hsz : Q70 = l.length := by simp
 refine wp_region_any hm ?_
 have hc0 : qz4r .any l.toArray (Array.replicate Q70 false) := by
  intro j o ho hj
  exfalso
  rcases Nat.lt_or_ge j Q70 with h' | h'
  ·simp at h'; simp [h'] at hj
  ·simp at h'; simp [h'] at hj
 have hT := qz5k (P := P) (md := .any) (C := fun w' => ∃ p : Regrown, w' = grow (redrawn w p.d) p.os) (Q := fun a' => ∀ w', (∃ p : Regrown, w' = grow (redrawn w p.d) p.os) -> wpList P l.toArray Q (l.drop k) a' w') hw hs (l.take k) 0 (Array.replicate Q70 false) a (by simp; omega) (fun j hj => by simp at hj; simp [hj]) hc0 (fun i hi => by omega) (by simp; omega) (by simpa [Nat.min_eq_left hkl] using hlex) h
 have hfin := qz5t (P := P) (md := .any) (Q' := Q) hw hkm (fun a' w' hC hq => by
  have := qz6c (P := P) (md := .any) (Q := Q) (l.drop k) k Q15 a' w' (fun j => by simp) (by simpa using hseq) (hq w' hC)
  simpa using this) (l.take k).length (Array.replicate l.toArray.size false) a { w with drawn := w.drawn + 1 } ⟨⟨w.drawn + 1, #[]⟩, by rw [grow_empty]; rfl⟩ hc0 (by simp) (fun j _ => by
   rcases Nat.lt_or_ge j Q70 with h' | h'
   ·simp at h'; simp [h']
   ·simp at h'; simp [h']) hT
 rw [show (l.take k).length + (l.length - k) = l.toArray.size by simp; omega] at hfin
 exact hfin
end
end Go.Proofs.YthjkdnlmopafkaaGreatDoor
