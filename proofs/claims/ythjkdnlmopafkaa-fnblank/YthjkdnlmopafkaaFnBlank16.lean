/-
  What the law's proof goes by, part 17.
-/
import Derived.Lib.QuietBelow
import Derived.Test.YthjkdnlmopafkaaFnBlank00
import Derived.Test.YthjkdnlmopafkaaFnBlank02
import Derived.Test.YthjkdnlmopafkaaFnBlank14
namespace Go.Proofs.Ythjkdnlmopafkaa
open Go.ChangeShapes Go.WideShapes Go.ChangeAt Go.RowKit
set_option maxRecDepth 100000
set_option maxHeartbeats 16000000
set_option linter.unusedVariables false
set_option linter.unusedSimpArgs false
set_option linter.unnecessarySimpa false
set_option linter.unusedSectionVars false
section
attribute [local go_sem ↓] Go.wp_at_zero Go.wp_at_succ
def qz6j (nv : Int) (h : Hd) (node thn : Int) : Hd := if nv = -2 then qz8 h 5 0 0 else if nv = -1 then { h with at_ := 1 } else { h with ver := nv, x_ := node, then_ := thn, at_ := 3 }
theorem qz71 (base : Nat) (A : Ar) (h : Hd) (d : Dd) (tk : Bool) (node v next : Int) (gone : Bool) (kind thn : Int) (s g n r : Value) (w : World) (hbase : base <= Q67) (hA : A.size <= 1048576) (O : qz21 base w s g n r A) (x y z u : Int) (hp0 : 0 <= node) (hp1 : node < (Q69 : Int)) :
  Calls Try.prog 120 #[.agg Q08, .agg (Q61).toArray, .int .i64 node, .int .i64 v, .int .i64 next, .bool gone, .int .i64 kind, .int .i64 thn] w fun e w' => ∃ s' g' n' r', e = .returned (.agg (qz9 Q6e s' g' n' r' (qz6j Q3s.2 h node thn) d tk).toArray) /\ qz2f base w w' s g n r s' g' n' r' Q3s.1 := by
 have hA' := hA
 unfold Ar.size at hA
 obtain ⟨sa, sc, rfl⟩ := qzg O.rs
 obtain ⟨ga, gc, rfl⟩ := qzg O.rg
 obtain ⟨na, nc, rfl⟩ := qzg O.rn
 obtain ⟨ra, rc, rfl⟩ := qzg O.rr
 obtain ⟨S0, P0⟩ := qz1e base w Q09 Q06 Q0a Q0h A Q14 Q0j 143 25 x y z u O rfl rfl
 have hcode := qz6u z A node v next gone kind
 go_enter Try.func120, Try.ntmps120
 have tok : True := trivial
 go_wp2_with (clear tok; refine qz2o Q2d ?_)
 generalize hw0 : (Q39).alloc (.cells Q01 143) = w0 at *
 clear hw0
 show wpList _ _ _ _ _ w0
 have x0 := S0.cell 0 rfl
 have x1 := S0.cell 1 rfl
 have x2 := S0.cell 2 rfl
 have x3 := S0.cell 3 rfl
 have x4 := S0.cell 4 rfl
 obtain ⟨p0, p1, p2, p3⟩ := id P0
 have hw1 := S0.hi
 go_upto_region 3 with (go_at_call 113; refine (qz64 base A x y z u node v next gone kind _ _ _ _ _ (Q6s hbase S0.but.size) hA' S0.own hp0 hp1).mono ?_; rintro e w2 ⟨s2, g2, n2, r2, rfl, E⟩; have S2 := S0.swap E; generalize hsw : Q3s = sw at *; obtain ⟨A2, nv⟩ := sw; obtain ⟨sa2, sc2, rfl⟩ := qzg S2.own.rs; obtain ⟨ga2, gc2, rfl⟩ := qzg S2.own.rg; obtain ⟨na2, nc2, rfl⟩ := qzg S2.own.rn; obtain ⟨ra2, rc2, rfl⟩ := qzg S2.own.rr; have x0 := S2.cell 0 rfl; have x1 := S2.cell 1 rfl; have x2 := S2.cell 2 rfl; have x3 := S2.cell 3 rfl; have x4 := S2.cell 4 rfl; have k0 := S2.free 0 (by decide); have k1 := S2.free 1 (by decide); have k2 := S2.free 2 (by decide); have k3 := S2.free 3 (by decide); have k4 := S2.free 4 (by decide); dsimp only at hcode)
 have S3 : Stp base w Q42 (Q67 + 1) (Q67 + 1 + 1) Q09 Q06 Q0a Q0h Q10 Q0z Q1e Q12 A2 (qz9 Q6e Q10 Q0z Q1e Q12 h d tk) := S2.arena (cam' := Q6e)
 generalize (Q4m).setCell ⟨Q67 + 1, 4, none⟩ Q12 = w3 at *
 clear S2 S0 P0 x0 x1 x2 x3 x4 k0 k1 k2 k3 k4 p0 p1 p2 p3 E
 have hswH : Hid (Q3s = (A2, nv)) := hsw
 clear hsw
 rcases hcode with rfl | rfl | hnv
 ·have hd : Hid (qz6j (-2) h node thn = qz8 h 5 0 0) := by show _ = _; rw [qz6j, if_pos rfl]
  go_upto_region 12 with (first | (refine Q6h rfl 56 (.tmp 45) rfl (Q67 + 1) 5 ?ax81 (hdC h) _ ?ac81 Q6g rfl (qz4 h) ?_) | (go_at_call 114; refine (qzq h 5 0 0 _).mono ?_; rintro e w4 ⟨rfl, b4⟩; have S4 := S3.below b4) | (refine Q6b rfl 56 (.tmp 48) _ rfl (Q67 + 1) 5 (hdC (qz8 h 5 0 0)).toArray ?bx82 ?by82 ?bt82 (qzb _) (qzh _) ?_))
  try (case ax81 => rfl)
  try (case ac81 => exact (qzt S3.row).2.1)
  try (case bx82 => rfl)
  try (case by82 => rfl)
  try (case bt82 => have T := qz14 S4.th 5 22 (by omega); rw [Nat.zero_add] at T; exact T)
  have S5 := S4.hand (qz8 h 5 0 0)
  go_wp2_with (first | (refine Q6h rfl 143 (.tmp 9) rfl (Q67 + 1) 0 ?cx83 Q38 _ ?cc83 Q6k rfl (qz6 _ _ _ _ _ _ _ _) ?_) | (refine Q6b rfl 143 (.tmp 16) _ rfl (Q67 + 1 + 1) 0 (Q38).toArray ?dx83 ?dy83 ?dt83 (qzp _ _ _ _ _ _ _ _) Q0v ?_))
  try (case cx83 => rfl)
  try (case cc83 => exact S5.row)
  try (case dx83 => rfl)
  try (case dy83 => rfl)
  try (case dt83 => exact S5.to)
  refine bodyPost_ret (v := .agg (Q38).toArray) ?_ rfl ⟨_, _, _, _, by first | rfl | (rw [hd.out]) | (rw [hswH.out]; exact congrArg _ (by rw [hd.out])), by first | exact S5.fin | (rw [hswH.out]; exact S5.fin)⟩
  exact qz3 Try.results120 _ _ (Q67 + 1 + 1) 0 rfl Q38 _ (S5.out rfl) Q6k rfl (qz6 _ _ _ _ _ _ _ _)
 ·have hd : Hid (qz6j (-1) h node thn = { h with at_ := 1 }) := by show _ = _; rw [qz6j, if_neg (by decide), if_pos rfl]
  have q0 := S3.cell 5 rfl
  have f0 := S3.free 5 (by decide)
  go_upto_region 12 with fail
  have S5 : Stp base w _ (Q67 + 1) (Q67 + 1 + 1) Q09 Q06 Q0a Q0h Q10 Q0z Q1e Q12 A2 (qz9 Q6e Q10 Q0z Q1e Q12 { h with at_ := 1 } d tk) := S3.put 5 (by simp [qz9, hdC, ddC]) (.int .i64 1)
  go_wp2_with (first | (refine Q6h rfl 143 (.tmp 9) rfl (Q67 + 1) 0 ?cx84 (qz9 Q6e Q10 Q0z Q1e Q12 { h with at_ := 1 } d tk) _ ?cc84 Q6k rfl (qz6 _ _ _ _ _ _ _ _) ?_) | (refine Q6b rfl 143 (.tmp 16) _ rfl (Q67 + 1 + 1) 0 (qz9 Q6e Q10 Q0z Q1e Q12 { h with at_ := 1 } d tk).toArray ?dx84 ?dy84 ?dt84 (qzp _ _ _ _ _ _ _ _) Q0v ?_))
  try (case cx84 => rfl)
  try (case cc84 => exact S5.row)
  try (case dx84 => rfl)
  try (case dy84 => rfl)
  try (case dt84 => exact S5.to)
  refine bodyPost_ret (v := .agg (qz9 Q6e Q10 Q0z Q1e Q12 { h with at_ := 1 } d tk).toArray) ?_ rfl ⟨_, _, _, _, by first | rfl | (rw [hd.out]) | (rw [hswH.out]; exact congrArg _ (by rw [hd.out])), by first | exact S5.fin | (rw [hswH.out]; exact S5.fin)⟩
  exact qz3 Try.results120 _ _ (Q67 + 1 + 1) 0 rfl (qz9 Q6e Q10 Q0z Q1e Q12 { h with at_ := 1 } d tk) _ (S5.out rfl) Q6k rfl (qz6 _ _ _ _ _ _ _ _)
 ·have m2 : ¬ (nv = -2) := by omega
  have m1 : ¬ (nv = -1) := by omega
  have hd : Hid (qz6j nv h node thn = { h with ver := nv, x_ := node, then_ := thn, at_ := 3 }) := by show _ = _; rw [qz6j, if_neg m2, if_neg m1]
  have q0 := S3.cell 5 rfl
  have q1 := S3.cell 6 rfl
  have q10 := S3.cell 15 rfl
  have q11 := S3.cell 16 rfl
  have f0 := S3.free 5 (by decide)
  have f1 := S3.free 6 (by decide)
  have f10 := S3.free 15 (by decide)
  have f11 := S3.free 16 (by decide)
  go_upto_region 12 with fail
  have S5 : Stp base w _ (Q67 + 1) (Q67 + 1 + 1) Q09 Q06 Q0a Q0h Q10 Q0z Q1e Q12 A2 (qz9 Q6e Q10 Q0z Q1e Q12 { h with ver := nv, x_ := node, then_ := thn, at_ := 3 } d tk) := (((S3.put 16 (by simp [qz9, hdC, ddC]) (.int .i64 nv)).put 15 (by simp [qz9, hdC, ddC]) (.int .i64 node)).put 6 (by simp [qz9, hdC, ddC]) (.int .i64 thn)).put 5 (by simp [qz9, hdC, ddC]) (.int .i64 3)
  go_wp2_with (first | (refine Q6h rfl 143 (.tmp 9) rfl (Q67 + 1) 0 ?cx85 (qz9 Q6e Q10 Q0z Q1e Q12 { h with ver := nv, x_ := node, then_ := thn, at_ := 3 } d tk) _ ?cc85 Q6k rfl (qz6 _ _ _ _ _ _ _ _) ?_) | (refine Q6b rfl 143 (.tmp 16) _ rfl (Q67 + 1 + 1) 0 (qz9 Q6e Q10 Q0z Q1e Q12 { h with ver := nv, x_ := node, then_ := thn, at_ := 3 } d tk).toArray ?dx85 ?dy85 ?dt85 (qzp _ _ _ _ _ _ _ _) Q0v ?_))
  try (case cx85 => rfl)
  try (case cc85 => exact S5.row)
  try (case dx85 => rfl)
  try (case dy85 => rfl)
  try (case dt85 => exact S5.to)
  refine bodyPost_ret (v := .agg (qz9 Q6e Q10 Q0z Q1e Q12 { h with ver := nv, x_ := node, then_ := thn, at_ := 3 } d tk).toArray) ?_ rfl ⟨_, _, _, _, by first | rfl | (rw [hd.out]) | (rw [hswH.out]; exact congrArg _ (by rw [hd.out])), by first | exact S5.fin | (rw [hswH.out]; exact S5.fin)⟩
  exact qz3 Try.results120 _ _ (Q67 + 1 + 1) 0 rfl (qz9 Q6e Q10 Q0z Q1e Q12 { h with ver := nv, x_ := node, then_ := thn, at_ := 3 } d tk) _ (S5.out rfl) Q6k rfl (qz6 _ _ _ _ _ _ _ _)
end
section
open Go.ChangeShapes Go.WideShapes Go.ChangeAt Go.RowKit Go.Sort
theorem qz2g {P : Program} {id : Nat} {Q : Exit -> Act -> World -> Prop} {a : Act} {w : World} {l : List Oper} (k : Nat) (hm : P.follows .mixedOrders = true) (hB : qzcl .any l.toArray k (l.length - k) = true)
  (h : wpQuiet P l.toArray (fun w' => ∃ p : Regrown, w' = grow (redrawn w p.d) p.os) (fun a' => ∀ w', (∃ p : Regrown, w' = grow (redrawn w p.d) p.os) -> wpList P l.toArray Q (l.drop k) a' w') (l.take k) a) : (Code.region id l.toArray true).wp P Q a w := by
 simp only [qzcl, Bool.and_eq_true, beq_iff_eq] at hB
 obtain ⟨⟨⟨⟨hkm, hs⟩, hlex⟩, hw⟩, hseq⟩ := hB
 have hkl : k <= l.length := by simp at hkm; omega
 have hsz : Q6i = l.length := by simp
 refine wp_region_any hm ?_
 have hc0 : qz4j .any l.toArray (Array.replicate Q6i false) := by
  intro j o ho hj
  exfalso
  rcases Nat.lt_or_ge j Q6i with h' | h'
  ·simp at h'; simp [h'] at hj
  ·simp at h'; simp [h'] at hj
 have hT := qz5a (P := P) (md := .any) (C := fun w' => ∃ p : Regrown, w' = grow (redrawn w p.d) p.os) (Q := fun a' => ∀ w', (∃ p : Regrown, w' = grow (redrawn w p.d) p.os) -> wpList P l.toArray Q (l.drop k) a' w') hw hs (l.take k) 0 (Array.replicate Q6i false) a (by simp; omega) (fun j hj => by simp at hj; simp [hj]) hc0 (fun i hi => by omega) (by simp; omega) (by simpa [Nat.min_eq_left hkl] using hlex) h
 have hfin := qz59 (P := P) (md := .any) (Q' := Q) hw hkm (fun a' w' hC hq => by
  have := qz5x (P := P) (md := .any) (Q := Q) (l.drop k) k Q11 a' w' (fun j => by simp) (by simpa using hseq) (hq w' hC)
  simpa using this) (l.take k).length (Array.replicate l.toArray.size false) a { w with drawn := w.drawn + 1 } ⟨⟨w.drawn + 1, #[]⟩, by rw [grow_empty]; rfl⟩ hc0 (by simp) (fun j _ => by
   rcases Nat.lt_or_ge j Q6i with h' | h'
   ·simp at h'; simp [h']
   ·simp at h'; simp [h']) hT
 rw [show (l.take k).length + (l.length - k) = l.toArray.size by simp; omega] at hfin
 exact hfin
end
end Go.Proofs.Ythjkdnlmopafkaa
