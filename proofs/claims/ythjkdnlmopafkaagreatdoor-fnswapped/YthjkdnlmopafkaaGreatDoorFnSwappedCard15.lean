/-
  What the law's proof goes by, part 16.
-/
import Derived.Test.YthjkdnlmopafkaaGreatDoorFnSwappedCard00
import Derived.Test.YthjkdnlmopafkaaGreatDoorFnSwappedCard03
import Derived.Test.YthjkdnlmopafkaaGreatDoorFnSwappedCard09
import Derived.Test.YthjkdnlmopafkaaGreatDoorFnSwappedCard14
namespace Go.Proofs.YthjkdnlmopafkaaGreatDoor
open Go.ChangeShapes Go.WideShapes Go.ChangeAt Go.RowKit
set_option maxRecDepth 100000
set_option maxHeartbeats 16000000
set_option linter.unusedVariables false
set_option linter.unusedSimpArgs false
set_option linter.unnecessarySimpa false
set_option linter.unusedSectionVars false
section
attribute [local go_sem ↓] Go.wp_at_zero Go.wp_at_succ
def qz3b (y z : Int) (A : Ar) (h : Hd) : Ar × Hd :=
 if y <= (Q6q : Int) ∨ z <= (Q6r : Int) then (A, qz9 h 5 0 0)
 else ({ A with vers := A.vers ++ [⟨aimI h, false, 0, -1, 0⟩], nodes := A.nodes ++ [⟨max h.key 0, h.value, (Q6r : Int)⟩] }, { h with new_ := (Q6q : Int), at_ := 9 })
section
variable {base : Nat} {w0 w w' : World} {b bo : Nat} {s0 g0 n0 r0 s g n r : Value} {A : Ar} {D : List Value}
theorem Stp.grow_r {r' : Value} {ys : List Vr} (S : Stp base w0 w b bo s0 g0 n0 r0 s g n r A D) (hown : w'.ownsRow base 40 5 r' ys.length (qz8 vrC ys)) (hB : But (fun q => r.ownBlock = some q) w w') (hat : r'.ownBlock = r.ownBlock ∨ ∃ q, r'.ownBlock = some q /\ Q6o <= q) : Stp base w0 w' b bo s0 g0 n0 r0 s g n r' { A with vers := ys } D := by
 have hb := Nat.lt_trans S.lt S.hi
 refine ⟨hB.range S.row hb (fun e => (S.ne b (Or.inr (Or.inr (Or.inr e)))).1 rfl), hB.there S.th hb (fun e => (S.ne b (Or.inr (Or.inr (Or.inr e)))).1 rfl), hB.there S.to S.hi (fun e => (S.ne bo (Or.inr (Or.inr (Or.inr e)))).2 rfl), S.lo, S.lt, Q72 S.hi hB.size, ⟨qz1x S.own.rs hB (fun j e h => qz2b S.own.rs S.own.rr (by decide) j e h), qz1x S.own.rg hB (fun j e h => qz2b S.own.rg S.own.rr (by decide) j e h), qz1x S.own.rn hB (fun j e h => qz2b S.own.rn S.own.rr (by decide) j e h), hown, S.own.ne⟩, ?_, ?_, ?_⟩
 ·refine ⟨hB.os.trans S.but.os, hB.tape.trans S.but.tape, hB.output.trans S.but.output, Q77 S.but.size hB.size, fun q hq hn => (hB.block q (Q72 hq S.but.size) (fun h => ?_)).trans (S.but.block q hq hn)⟩
  rcases S.blk q (Or.inr (Or.inr (Or.inr h))) with h1 | h1
  ·exact hn h1
  ·omega
 ·rintro q (h | h | h | h)
  ·exact S.blk q (Or.inl h)
  ·exact S.blk q (Or.inr (Or.inl h))
  ·exact S.blk q (Or.inr (Or.inr (Or.inl h)))
  ·rcases hat with h' | ⟨q', h', h2⟩
   ·rw [h'] at h; exact S.blk q (Or.inr (Or.inr (Or.inr h)))
   ·rw [h'] at h; cases h; exact Or.inr (Nat.le_trans S.but.size h2)
 ·have hi := S.hi
  have hlt := S.lt
  rintro q (h | h | h | h)
  ·exact S.ne q (Or.inl h)
  ·exact S.ne q (Or.inr (Or.inl h))
  ·exact S.ne q (Or.inr (Or.inr (Or.inl h)))
  ·rcases hat with h' | ⟨q', h', h2⟩
   ·rw [h'] at h; exact S.ne q (Or.inr (Or.inr (Or.inr h)))
   ·rw [h'] at h; cases h; omega
theorem Stp.grow_n {n' : Value} {ys : List Nd} (S : Stp base w0 w b bo s0 g0 n0 r0 s g n r A D) (hown : w'.ownsRow base 42 3 n' ys.length (qz8 ndC ys)) (hB : But (fun q => n.ownBlock = some q) w w') (hat : n'.ownBlock = n.ownBlock ∨ ∃ q, n'.ownBlock = some q /\ Q6o <= q) : Stp base w0 w' b bo s0 g0 n0 r0 s g n' r { A with nodes := ys } D := by
 have hb := Nat.lt_trans S.lt S.hi
 refine ⟨hB.range S.row hb (fun e => (S.ne b (Or.inr (Or.inr (Or.inl e)))).1 rfl), hB.there S.th hb (fun e => (S.ne b (Or.inr (Or.inr (Or.inl e)))).1 rfl), hB.there S.to S.hi (fun e => (S.ne bo (Or.inr (Or.inr (Or.inl e)))).2 rfl), S.lo, S.lt, Q72 S.hi hB.size, ⟨qz1x S.own.rs hB (fun j e h => qz2b S.own.rs S.own.rn (by decide) j e h), qz1x S.own.rg hB (fun j e h => qz2b S.own.rg S.own.rn (by decide) j e h), hown, qz1x S.own.rr hB (fun j e h => qz2b S.own.rr S.own.rn (by decide) j e h), S.own.ne⟩, ?_, ?_, ?_⟩
 ·refine ⟨hB.os.trans S.but.os, hB.tape.trans S.but.tape, hB.output.trans S.but.output, Q77 S.but.size hB.size, fun q hq hn => (hB.block q (Q72 hq S.but.size) (fun h => ?_)).trans (S.but.block q hq hn)⟩
  rcases S.blk q (Or.inr (Or.inr (Or.inl h))) with h1 | h1
  ·exact hn h1
  ·omega
 ·rintro q (h | h | h | h)
  ·exact S.blk q (Or.inl h)
  ·exact S.blk q (Or.inr (Or.inl h))
  ·rcases hat with h' | ⟨q', h', h2⟩
   ·rw [h'] at h; exact S.blk q (Or.inr (Or.inr (Or.inl h)))
   ·rw [h'] at h; cases h; exact Or.inr (Nat.le_trans S.but.size h2)
  ·exact S.blk q (Or.inr (Or.inr (Or.inr h)))
 ·have hi := S.hi
  have hlt := S.lt
  rintro q (h | h | h | h)
  ·exact S.ne q (Or.inl h)
  ·exact S.ne q (Or.inr (Or.inl h))
  ·rcases hat with h' | ⟨q', h', h2⟩
   ·rw [h'] at h; exact S.ne q (Or.inr (Or.inr (Or.inl h)))
   ·rw [h'] at h; cases h; omega
  ·exact S.ne q (Or.inr (Or.inr (Or.inr h)))
end
def qzh9 (b : Nat) (ra : Option Addr) (rl rc : Nat) (h : Hd) (lo : Nat) : Nat -> Value -> World -> Prop
 | 0, v, _ => v = .pointer (some ⟨b, 0, none⟩)
 | 1, v, _ => v = .pointer (some ⟨b, 4, none⟩)
 | 2, v, _ => v = .slice ra rl rc
 | 3, v, _ => v = .pointer (some ⟨b, 5, none⟩)
 | 4, v, _ => v = .agg (hdC h).toArray
 | 5, v, _ => v = .int .i64 (aimI h)
 | 6, v, _ => v = .agg (vrC ⟨aimI h, false, 0, -1, 0⟩).toArray
 | 7, v, w => ∃ q, v = .slice (some ⟨q, 0, none⟩) 1 1 /\ lo <= q /\ q < Q6o /\ w.rangeAt q 0 (vrC ⟨aimI h, false, 0, -1, 0⟩)
 | _, _, _ => True
theorem qzdt {b : Nat} {ra : Option Addr} {rl rc : Nat} {h : Hd} {lo : Nat} (i : Nat) (v : Value) (w w' : World) (H : qzh9 b ra rl rc h lo i v w) (hb : Below Q6o w w') : qzh9 b ra rl rc h lo i v w' := by
 match i, H with
 | 0, H => exact H
 | 1, H => exact H
 | 2, H => exact H
 | 3, H => exact H
 | 4, H => exact H
 | 5, H => exact H
 | 6, H => exact H
 | 7, H =>
  obtain ⟨q, e, h1, h2, h3⟩ := H
  exact ⟨q, e, h1, Q72 h2 hb.size, qz0 h3 hb h2⟩
 | i + 8, H => exact trivial
def qzfq (b : Nat) (na : Option Addr) (nl nc : Nat) (h : Hd) (nd : Nd) (lo : Nat) : Nat -> Value -> World -> Prop
 | 0, v, _ => v = .pointer (some ⟨b, 0, none⟩)
 | 1, v, _ => v = .pointer (some ⟨b, 3, none⟩)
 | 2, v, _ => v = .slice na nl nc
 | 3, v, _ => v = .pointer (some ⟨b, 5, none⟩)
 | 4, v, _ => v = .pointer (some ⟨b, 8, none⟩)
 | 5, v, _ => v = .int .i64 h.key
 | 6, v, _ => v = .int .i64 nd.key
 | 7, v, _ => v = .pointer (some ⟨b, 5, none⟩)
 | 8, v, _ => v = .pointer (some ⟨b, 9, none⟩)
 | 9, v, _ => v = .int .i64 nd.value
 | 10, v, _ => v = .int .i64 nd.head
 | 11, v, _ => v = .agg (ndC nd).toArray
 | 12, v, w => ∃ q, v = .slice (some ⟨q, 0, none⟩) 1 1 /\ lo <= q /\ q < Q6o /\ w.rangeAt q 0 (ndC nd)
 | _, _, _ => True
theorem qzbz {b : Nat} {na : Option Addr} {nl nc : Nat} {h : Hd} {nd : Nd} {lo : Nat} (i : Nat) (v : Value) (w w' : World) (H : qzfq b na nl nc h nd lo i v w) (hb : Below Q6o w w') : qzfq b na nl nc h nd lo i v w' := by
 match i, H with
 | 0, H => exact H
 | 1, H => exact H
 | 2, H => exact H
 | 3, H => exact H
 | 4, H => exact H
 | 5, H => exact H
 | 6, H => exact H
 | 7, H => exact H
 | 8, H => exact H
 | 9, H => exact H
 | 10, H => exact H
 | 11, H => exact H
 | 12, H =>
  obtain ⟨q, e, h1, h2, h3⟩ := H
  exact ⟨q, e, h1, Q72 h2 hb.size, qz0 h3 hb h2⟩
 | i + 13, H => exact trivial
theorem qzc7 (base : Nat) (A : Ar) (h : Hd) (d : Dd) (tk : Bool) (s g n r : Value) (w : World) (hbase : base <= Q6o) (hA : A.size <= 1048576) (O : qz1t base w s g n r A) (x y z u : Int) :
  Calls Tryz.prog 156 Q2n w fun e w' => ∃ s' g' n' r', e = .returned (.agg (qza Q6w s' g' n' r' (qz3b y z A h).2 d tk).toArray) /\ qz29 base w w' s g n r s' g' n' r' (qz3b y z A h).1 := by
 have hA' := hA
 unfold Ar.size at hA
 obtain ⟨sa, sc, rfl⟩ := qzf O.rs
 obtain ⟨ga, gc, rfl⟩ := qzf O.rg
 obtain ⟨na, nc, rfl⟩ := qzf O.rn
 obtain ⟨ra, rc, rfl⟩ := qzf O.rr
 obtain ⟨S0, P0⟩ := qz1i base w Q0a Q07 Q0c Q0h A Q18 Q0i 60 25 x y z u O rfl rfl
 go_enter Tryz.func156, Tryz.ntmps156
 have tok : True := trivial
 go_wp2_with (clear tok; refine qz2j Q2b ?_)
 generalize hw0 : (Q34).alloc (.cells Q01 60) = w0 at *
 clear hw0
 show wpList _ _ _ _ _ w0
 have x0 := S0.cell 0 rfl
 have x1 := S0.cell 1 rfl
 have x2 := S0.cell 2 rfl
 have x3 := S0.cell 3 rfl
 have x4 := S0.cell 4 rfl
 obtain ⟨p0, p1, p2, p3⟩ := id P0
 have hw1 := S0.hi
 by_cases hfull : y <= (Q6q : Int) ∨ z <= (Q6r : Int)
 ·have hd : Hid (qz3b y z A h = (A, qz9 h 5 0 0)) := by show _ = _; rw [qz3b, if_pos hfull]
  by_cases hf1 : y <= (Q6q : Int)
  ·clear hfull
   go_upto_region 5 with (first | (refine Q6z rfl 56 (.tmp 25) rfl (Q6o + 1) 5 ?ax11 (hdC h) _ ?ac11 Q6x rfl (qz4 h) ?_) | (go_at_call 102; refine (qzt h 5 0 0 _).mono ?_; rintro e w4 ⟨rfl, b4⟩; have S4 := S0.below b4) | (refine Q6t rfl 56 (.tmp 28) _ rfl (Q6o + 1) 5 (hdC (qz9 h 5 0 0)).toArray ?bx12 ?by12 ?bt12 (qzc _) (qzk _) ?_))
   try (case ax11 => rfl)
   try (case ac11 => exact (qzv S0.row).2.1)
   try (case bx12 => rfl)
   try (case by12 => rfl)
   try (case bt12 => have T := qz1d S4.th 5 22 (by omega); rw [Nat.zero_add] at T; exact T)
   have S5 := S4.hand (qz9 h 5 0 0)
   go_wp2_with (first | (refine Q6z rfl 60 (.tmp 3) rfl (Q6o + 1) 0 ?cx13 Q3c _ ?cc13 Q71 rfl (qz7 _ _ _ _ _ _ _ _) ?_) | (refine Q6t rfl 60 (.tmp 4) _ rfl (Q6o + 1 + 1) 0 (Q3c).toArray ?dx13 ?dy13 ?dt13 (qzs _ _ _ _ _ _ _ _) Q0v ?_))
   try (case cx13 => rfl)
   try (case cc13 => exact S5.row)
   try (case dx13 => rfl)
   try (case dy13 => rfl)
   try (case dt13 => exact S5.to)
   refine bodyPost_ret (v := .agg (Q3c).toArray) ?_ rfl ⟨_, _, _, _, by rw [hd.out], by rw [hd.out]; exact S5.fin⟩
   exact qz3 Tryz.results156 _ _ (Q6o + 1 + 1) 0 rfl Q3c _ (S5.out rfl) Q71 rfl (qz7 _ _ _ _ _ _ _ _)
  ·have hf2 : z <= (Q6r : Int) := hfull.resolve_left hf1
   clear hfull
   go_upto_region 5 with (first | (refine Q6z rfl 56 (.tmp 25) rfl (Q6o + 1) 5 ?ax14 (hdC h) _ ?ac14 Q6x rfl (qz4 h) ?_) | (go_at_call 102; refine (qzt h 5 0 0 _).mono ?_; rintro e w4 ⟨rfl, b4⟩; have S4 := S0.below b4) | (refine Q6t rfl 56 (.tmp 28) _ rfl (Q6o + 1) 5 (hdC (qz9 h 5 0 0)).toArray ?bx15 ?by15 ?bt15 (qzc _) (qzk _) ?_))
   try (case ax14 => rfl)
   try (case ac14 => exact (qzv S0.row).2.1)
   try (case bx15 => rfl)
   try (case by15 => rfl)
   try (case bt15 => have T := qz1d S4.th 5 22 (by omega); rw [Nat.zero_add] at T; exact T)
   have S5 := S4.hand (qz9 h 5 0 0)
   go_wp2_with (first | (refine Q6z rfl 60 (.tmp 3) rfl (Q6o + 1) 0 ?cx16 Q3c _ ?cc16 Q71 rfl (qz7 _ _ _ _ _ _ _ _) ?_) | (refine Q6t rfl 60 (.tmp 4) _ rfl (Q6o + 1 + 1) 0 (Q3c).toArray ?dx16 ?dy16 ?dt16 (qzs _ _ _ _ _ _ _ _) Q0v ?_))
   try (case cx16 => rfl)
   try (case cc16 => exact S5.row)
   try (case dx16 => rfl)
   try (case dy16 => rfl)
   try (case dt16 => exact S5.to)
   refine bodyPost_ret (v := .agg (Q3c).toArray) ?_ rfl ⟨_, _, _, _, by rw [hd.out], by rw [hd.out]; exact S5.fin⟩
   exact qz3 Tryz.results156 _ _ (Q6o + 1 + 1) 0 rfl Q3c _ (S5.out rfl) Q71 rfl (qz7 _ _ _ _ _ _ _ _)
 have hd : Hid (qz3b y z A h = ({ A with vers := A.vers ++ [⟨aimI h, false, 0, -1, 0⟩], nodes := A.nodes ++ [⟨max h.key 0, h.value, (Q6r : Int)⟩] }, { h with new_ := (Q6q : Int), at_ := 9 })) := by show _ = _; rw [qz3b, if_neg hfull]
 have hf1 : ¬ y <= (Q6q : Int) := fun h => hfull (Or.inl h)
 have hf2 : ¬ z <= (Q6r : Int) := fun h => hfull (Or.inr h)
 clear hfull
 go_upto_region 6 with fail
 clear x0 x1 x2 x3 x4 p0 p1 p2 p3
 refine qz2o 8 (by kernel_rfl) (qzh9 (Q6o + 1) ra Q6r rc h Q73) (fun _ => false) (by kernel_rfl) (by kernel_rfl) (by kernel_rfl) (by kernel_rfl) (by rfl) (fun i v w w' _ h hb => qzdt i v w w' h hb) (fun i v w q hf h hq => by cases hf) ?step ?final
 case step =>
  intro i o hik ho a W hb hnn hd K hK
  have SW := S0.below hb
  have x4 := SW.cell 4 rfl
  have hzW := hb.size
  match i, ho with
  | 0, ho =>
   obtain rfl := Q6p ho
   have e0 : a.eval (.tmp 3) = .pointer (some ⟨Q6o + 1, 0, none⟩) := hnn 3 rfl
   refine qz1 (v := .pointer (some ⟨Q6o + 1, 0, none⟩)) (w' := W) ?_ (hK _ _ rfl (Q6s _ _) (fun h => by cases h))
   generalize a.eval = ev at *
   go_simp
  | 1, ho =>
   obtain rfl := Q6p ho
   have e0 : a.eval (.tmp 30) = .pointer (some ⟨Q6o + 1, 0, none⟩) := hd ⟨0, .data⟩ (by simp) rfl 30 rfl
   refine qz1 (v := .pointer (some ⟨Q6o + 1, 4, none⟩)) (w' := W) ?_ (hK _ _ rfl (Q6s _ _) (fun h => by cases h))
   generalize a.eval = ev at *
   go_simp
  | 2, ho =>
   obtain rfl := Q6p ho
   have e0 : a.eval (.tmp 31) = .pointer (some ⟨Q6o + 1, 4, none⟩) := hd ⟨1, .data⟩ (by simp) rfl 31 rfl
   refine qz1 (v := .slice ra Q6r rc) (w' := W) ?_ (hK _ _ rfl (Q6s _ _) (fun h => by cases h))
   generalize a.eval = ev at *
   go_simp
  | 3, ho =>
   obtain rfl := Q6p ho
   have e0 : a.eval (.tmp 3) = .pointer (some ⟨Q6o + 1, 0, none⟩) := hnn 3 rfl
   refine qz1 (v := .pointer (some ⟨Q6o + 1, 5, none⟩)) (w' := W) ?_ (hK _ _ rfl (Q6s _ _) (fun h => by cases h))
   generalize a.eval = ev at *
   go_simp
  | 4, ho =>
   obtain rfl := Q6p ho
   have e1 : a.eval (.tmp 33) = .pointer (some ⟨Q6o + 1, 5, none⟩) := hd ⟨3, .data⟩ (by simp) rfl 33 rfl
   exact qz1s 56 (.tmp 33) rfl (Q6o + 1) 5 e1 (hdC h) _ (qzv SW.row).2.1 Q6x rfl (qz4 h) (hK _ _ rfl (Q6s _ _) (fun h => by cases h))
  | 5, ho =>
   obtain rfl := Q6p ho
   have e1 : a.eval (.tmp 34) = .agg (hdC h).toArray := hd ⟨4, .data⟩ (by simp) rfl 34 rfl
   have ef : a.eval (.func 157) = .func (.func 157) #[] #[] := rfl
   refine qz19 (f := 157) (args := #[.agg (hdC h).toArray]) (R := fun v w' => v = .int .i64 (aimI h) /\ Below W.heap.size W w') ?_ ((qza1 h W).mono (fun e w' h => ⟨_, h.1, rfl, h.2⟩)) (fun v w' h => hK v w' h.1 h.2 (fun h => by cases h))
   generalize a.eval = ev at *
   go_simp
  | 6, ho =>
   obtain rfl := Q6p ho
   have e0 : a.eval (.tmp 35) = .int .i64 (aimI h) := hd ⟨5, .data⟩ (by simp) rfl 35 rfl
   have ec : a.eval (.const (.int .i64 (-1))) = .int .i64 (-1) := rfl
   refine qz1 (v := .agg Q5e) (w' := W) ?_ (hK _ _ rfl (Q6s _ _) (fun h => by cases h))
   generalize a.eval = ev at *
   go_simp
  | 7, ho =>
   obtain rfl := Q6p ho
   have e1 : a.eval (.tmp 36) = .agg Q5e := hd ⟨6, .data⟩ (by simp) rfl 36 rfl
   refine qz1 (v := .slice (some ⟨W.heap.size, 0, none⟩) 1 1) (w' := W.alloc (.cells Q5e 40)) ?_ (hK _ _ ⟨_, rfl, hzW, by simp, qz6 W (vrC ⟨aimI h, false, 0, -1, 0⟩) 40⟩ ((Q6s _ _).alloc (Q6v _) _) (fun h => by cases h))
   generalize a.eval = ev at *
   go_simp
  | n + 8, ho => omega
 intro vs W hb hG _
 have SW := S0.below hb
 have g0 : vs 0 = .pointer (some ⟨Q6o + 1, 0, none⟩) := hG 0 (by decide)
 have g2 : vs 2 = .slice ra Q6r rc := hG 2 (by decide)
 obtain ⟨q, g7, hq0, hq1, news⟩ := hG 7 (by decide)
 have zW := hb.size
 generalize hl : laid _ vs _ _ _ = A'
 have hA2 : A' = { tmps := #[.agg Q06, .agg (Q18).toArray, .pointer (some ⟨Q6o, 0, none⟩), .pointer (some ⟨Q6o + 1, 0, none⟩), .pointer (some ⟨Q6o + 1 + 1, 0, none⟩), .int .i64 (Q6q : Int), .int .i64 (Q6r : Int), .pointer (some ⟨Q6o + 1, 0, none⟩), .pointer (some ⟨Q6o + 1, 3, none⟩), .slice na Q6q nc, .int .i64 (Q6q : Int), .pointer (some ⟨Q6o + 1, 0, none⟩), .pointer (some ⟨Q6o + 1, 4, none⟩), .slice ra Q6r rc, .int .i64 (Q6r : Int), .int .i64 (Q6q : Int), .pointer (some ⟨Q6o, 1, none⟩), .int .i64 y, .bool false, .bool false, .int .i64 (Q6r : Int), .pointer (some ⟨Q6o, 2, none⟩), .int .i64 z, .bool false, .bool false, undef, undef, undef, undef, undef, vs 0, vs 1, vs 2, vs 3, vs 4, vs 5, vs 6, vs 7, undef, undef, undef, undef, undef, undef, undef, undef, undef, undef, undef, undef, undef, undef, undef, undef, undef, undef, undef, undef, undef, undef, undef, undef, undef], defers := [] } := by
  rw [<- hl]
  kernel_rfl
 subst hA2
 rw [g2, g7]
 clear hl hG g0 g2 g7
 have hnl : (Q6r : Int) = ((Q6r : Nat) : Int) := rfl
 obtain ⟨i0, hi, hzr, hsz, hby⟩ := info_parts qz9i
 refine wpList_append_own_at _ rfl _ _ 28 rfl base 40 i0 _ 5 40 Tryz.underlying28 hi hzr hsz hby rfl (by decide) _ _ _ rfl SW.own.rr ⟨q, 0, none⟩ 1 1 (vrC ⟨aimI h, false, 0, -1, 0⟩) rfl rfl ?n1 ?n2 ?n3 ?n4 ?n5 ?_
 case n1 => exact fun j v hj => by have := news j v hj; rw [Nat.zero_add] at this; by_cases e0 : j = 0; (· subst e0; simpa [Addr.add] using this); (· simpa [Addr.add, e0] using this)
 case n2 => exact qzde _
 case n3 => unfold maxLen; omega
 case n4 => omega
 case n5 => exact Q77 hbase SW.but.size
 intro r2 w1 hown hgrow _ hat
 obtain ⟨ra2, rc2, rfl⟩ := qzf hown
 have B01 : But (fun q => Value.ownBlock Q0h = some q) W w1 := ⟨hgrow.os, hgrow.tape, hgrow.output, hgrow.size, fun q hq hn => hgrow.block q hq (fun e => hn e.symm)⟩
 have S1 := SW.grow_r (ys := A.vers ++ [⟨aimI h, false, 0, -1, 0⟩]) (r' := .slice ra2 (Q6r + 1) rc2) (by simpa [qz1p] using hown) B01 (hat.imp_right (fun h => ⟨_, h, Q6v _⟩))
 have x4 := S1.cell 4 rfl
 have f4 := S1.free 4 (by decide)
 clear hown hgrow hat B01 SW S0 hb news hi hzr hsz hby P0
 go_upto_region 7 with fail
 have S2 : Stp base w _ (Q6o + 1) (Q6o + 1 + 1) Q0a Q07 Q0c Q0h Q0a Q07 Q0c Q1w { A with vers := A.vers ++ [⟨aimI h, false, 0, -1, 0⟩] } (qza Q6w Q0a Q07 Q0c Q1w h d tk) := S1.put 4 (by simp [qza, hdC, ddC]) Q1w
 generalize w1.setCell ⟨Q6o + 1, 4, none⟩ Q1w = w2 at *
 clear S1 x4 f4
 have hz2 := S2.hi
 refine qz2o 13 (by kernel_rfl) (qzfq (Q6o + 1) na Q6q nc h ⟨max h.key 0, h.value, (Q6r : Int)⟩ Q78) (fun _ => false) (by kernel_rfl) (by kernel_rfl) (by kernel_rfl) (by kernel_rfl) (by rfl) (fun i v w w' _ h hb => qzbz i v w w' h hb) (fun i v w q hf h hq => by cases hf) ?step2 ?final2
 case step2 =>
  intro i o hik ho a W hb hnn hd K hK
  have SW := S2.below hb
  have x3 := SW.cell 3 rfl
  have x8 := SW.cell 8 rfl
  have x9 := SW.cell 9 rfl
  have hzW := hb.size
  match i, ho with
  | 0, ho =>
   obtain rfl := Q6p ho
   have e0 : a.eval (.tmp 3) = .pointer (some ⟨Q6o + 1, 0, none⟩) := hnn 3 rfl
   refine qz1 (v := .pointer (some ⟨Q6o + 1, 0, none⟩)) (w' := W) ?_ (hK _ _ rfl (Q6s _ _) (fun h => by cases h))
   generalize a.eval = ev at *
   go_simp
  | 1, ho =>
   obtain rfl := Q6p ho
   have e0 : a.eval (.tmp 41) = .pointer (some ⟨Q6o + 1, 0, none⟩) := hd ⟨0, .data⟩ (by simp) rfl 41 rfl
   refine qz1 (v := .pointer (some ⟨Q6o + 1, 3, none⟩)) (w' := W) ?_ (hK _ _ rfl (Q6s _ _) (fun h => by cases h))
   generalize a.eval = ev at *
   go_simp
  | 2, ho =>
   obtain rfl := Q6p ho
   have e0 : a.eval (.tmp 42) = .pointer (some ⟨Q6o + 1, 3, none⟩) := hd ⟨1, .data⟩ (by simp) rfl 42 rfl
   refine qz1 (v := .slice na Q6q nc) (w' := W) ?_ (hK _ _ rfl (Q6s _ _) (fun h => by cases h))
   generalize a.eval = ev at *
   go_simp
  | 3, ho =>
   obtain rfl := Q6p ho
   have e0 : a.eval (.tmp 3) = .pointer (some ⟨Q6o + 1, 0, none⟩) := hnn 3 rfl
   refine qz1 (v := .pointer (some ⟨Q6o + 1, 5, none⟩)) (w' := W) ?_ (hK _ _ rfl (Q6s _ _) (fun h => by cases h))
   generalize a.eval = ev at *
   go_simp
  | 4, ho =>
   obtain rfl := Q6p ho
   have e0 : a.eval (.tmp 44) = .pointer (some ⟨Q6o + 1, 5, none⟩) := hd ⟨3, .data⟩ (by simp) rfl 44 rfl
   refine qz1 (v := .pointer (some ⟨Q6o + 1, 8, none⟩)) (w' := W) ?_ (hK _ _ rfl (Q6s _ _) (fun h => by cases h))
   generalize a.eval = ev at *
   go_simp
  | 5, ho =>
   obtain rfl := Q6p ho
   have e0 : a.eval (.tmp 45) = .pointer (some ⟨Q6o + 1, 8, none⟩) := hd ⟨4, .data⟩ (by simp) rfl 45 rfl
   refine qz1 (v := .int .i64 h.key) (w' := W) ?_ (hK _ _ rfl (Q6s _ _) (fun h => by cases h))
   generalize a.eval = ev at *
   go_simp
  | 6, ho =>
   obtain rfl := Q6p ho
   have e1 : a.eval (.tmp 46) = .int .i64 h.key := hd ⟨5, .data⟩ (by simp) rfl 46 rfl
   have ef : a.eval (.func 138) = .func (.func 138) #[] #[] := rfl
   have e2 : a.eval (.const (.int .i64 0)) = .int .i64 0 := rfl
   refine qz19 (f := 138) (args := #[.int .i64 h.key, .int .i64 0]) (R := fun v w' => v = .int .i64 (max h.key 0) /\ Below W.heap.size W w') ?_ ((qz1e h.key 0 W).mono (fun e w' h => ⟨_, h.1, rfl, by rw [h.2]; exact Q6s _ _⟩)) (fun v w' h => hK v w' h.1 h.2 (fun h => by cases h))
   generalize a.eval = ev at *
   go_simp
  | 7, ho =>
   obtain rfl := Q6p ho
   have e0 : a.eval (.tmp 3) = .pointer (some ⟨Q6o + 1, 0, none⟩) := hnn 3 rfl
   refine qz1 (v := .pointer (some ⟨Q6o + 1, 5, none⟩)) (w' := W) ?_ (hK _ _ rfl (Q6s _ _) (fun h => by cases h))
   generalize a.eval = ev at *
   go_simp
  | 8, ho =>
   obtain rfl := Q6p ho
   have e0 : a.eval (.tmp 48) = .pointer (some ⟨Q6o + 1, 5, none⟩) := hd ⟨7, .data⟩ (by simp) rfl 48 rfl
   refine qz1 (v := .pointer (some ⟨Q6o + 1, 9, none⟩)) (w' := W) ?_ (hK _ _ rfl (Q6s _ _) (fun h => by cases h))
   generalize a.eval = ev at *
   go_simp
  | 9, ho =>
   obtain rfl := Q6p ho
   have e0 : a.eval (.tmp 49) = .pointer (some ⟨Q6o + 1, 9, none⟩) := hd ⟨8, .data⟩ (by simp) rfl 49 rfl
   refine qz1 (v := .int .i64 h.value) (w' := W) ?_ (hK _ _ rfl (Q6s _ _) (fun h => by cases h))
   generalize a.eval = ev at *
   go_simp
  | 10, ho =>
   obtain rfl := Q6p ho
   have e0 : a.eval (.tmp 6) = .int .i64 (Q6r : Int) := hnn 6 rfl
   refine qz1 (v := .int .i64 (Q6r : Int)) (w' := W) ?_ (hK _ _ rfl (Q6s _ _) (fun h => by cases h))
   generalize a.eval = ev at *
   go_simp
  | 11, ho =>
   obtain rfl := Q6p ho
   have e0 : a.eval (.tmp 47) = .int .i64 (max h.key 0) := hd ⟨6, .data⟩ (by simp) rfl 47 rfl
   have e1 : a.eval (.tmp 50) = .int .i64 h.value := hd ⟨9, .data⟩ (by simp) rfl 50 rfl
   have e2 : a.eval (.tmp 51) = .int .i64 (Q6r : Int) := hd ⟨10, .data⟩ (by simp) rfl 51 rfl
   refine qz1 (v := .agg #[.int .i64 (max h.key 0), .int .i64 h.value, .int .i64 (Q6r : Int)]) (w' := W) ?_ (hK _ _ rfl (Q6s _ _) (fun h => by cases h))
   generalize a.eval = ev at *
   go_simp
  | 12, ho =>
   obtain rfl := Q6p ho
   have e1 : a.eval (.tmp 52) = .agg #[.int .i64 (max h.key 0), .int .i64 h.value, .int .i64 (Q6r : Int)] := hd ⟨11, .data⟩ (by simp) rfl 52 rfl
   refine qz1 (v := .slice (some ⟨W.heap.size, 0, none⟩) 1 1) (w' := W.alloc (.cells #[.int .i64 (max h.key 0), .int .i64 h.value, .int .i64 (Q6r : Int)] 42)) ?_ (hK _ _ ⟨_, rfl, hzW, by simp, qz6 W (ndC ⟨max h.key 0, h.value, (Q6r : Int)⟩) 42⟩ ((Q6s _ _).alloc (Q6v _) _) (fun h => by cases h))
   generalize a.eval = ev at *
   go_simp
  | n + 13, ho => omega
 intro vs' W' hb hG _
 have SW := S2.below hb
 have g2 : vs' 2 = .slice na Q6q nc := hG 2 (by decide)
 obtain ⟨q', g12, hq0', hq1', news⟩ := hG 12 (by decide)
 have zW' := hb.size
 generalize hl : laid _ vs' _ _ _ = A'
 have hA2 : A' = { tmps := #[.agg Q06, .agg (Q18).toArray, .pointer (some ⟨Q6o, 0, none⟩), .pointer (some ⟨Q6o + 1, 0, none⟩), .pointer (some ⟨Q6o + 1 + 1, 0, none⟩), .int .i64 (Q6q : Int), .int .i64 (Q6r : Int), .pointer (some ⟨Q6o + 1, 0, none⟩), .pointer (some ⟨Q6o + 1, 3, none⟩), .slice na Q6q nc, .int .i64 (Q6q : Int), .pointer (some ⟨Q6o + 1, 0, none⟩), .pointer (some ⟨Q6o + 1, 4, none⟩), .slice ra Q6r rc, .int .i64 (Q6r : Int), .int .i64 (Q6q : Int), .pointer (some ⟨Q6o, 1, none⟩), .int .i64 y, .bool false, .bool false, .int .i64 (Q6r : Int), .pointer (some ⟨Q6o, 2, none⟩), .int .i64 z, .bool false, .bool false, undef, undef, undef, undef, undef, vs 0, vs 1, .slice ra Q6r rc, vs 3, vs 4, vs 5, vs 6, .slice (some ⟨q, 0, none⟩) 1 1, .slice ra2 (Q6r + 1) rc2, .pointer (some ⟨Q6o + 1, 0, none⟩), .pointer (some ⟨Q6o + 1, 4, none⟩), vs' 0, vs' 1, vs' 2, vs' 3, vs' 4, vs' 5, vs' 6, vs' 7, vs' 8, vs' 9, vs' 10, vs' 11, vs' 12, undef, undef, undef, undef, undef, undef, undef, undef, undef], defers := [] } := by
  rw [<- hl]
  kernel_rfl
 subst hA2
 rw [g2, g12]
 clear hl hG g2 g12
 obtain ⟨i0, hi, hzr, hsz, hby⟩ := info_parts qz6u
 refine wpList_append_own_at _ rfl _ _ 27 rfl base 42 i0 _ 3 24 Tryz.underlying27 hi hzr hsz hby rfl (by decide) _ _ _ rfl SW.own.rn ⟨q', 0, none⟩ 1 1 (ndC ⟨max h.key 0, h.value, (Q6r : Int)⟩) rfl rfl ?m1 ?m2 ?m3 ?m4 ?m5 ?_
 case m1 => exact fun j v hj => by have := news j v hj; rw [Nat.zero_add] at this; by_cases e0 : j = 0; (· subst e0; simpa [Addr.add] using this); (· simpa [Addr.add, e0] using this)
 case m2 => exact qzd5 _
 case m3 => unfold maxLen; simp only; omega
 case m4 => simp only; omega
 case m5 => exact Q77 hbase SW.but.size
 intro n2 w3 hown hgrow _ hat
 obtain ⟨na2, nc2, rfl⟩ := qzf hown
 have B23 : But (fun q => Value.ownBlock Q0c = some q) W' w3 := ⟨hgrow.os, hgrow.tape, hgrow.output, hgrow.size, fun q hq hn => hgrow.block q hq (fun e => hn e.symm)⟩
 have S3 := SW.grow_n (ys := A.nodes ++ [⟨max h.key 0, h.value, (Q6r : Int)⟩]) (n' := .slice na2 (Q6q + 1) nc2) (by simpa [qz1p] using hown) B23 (hat.imp_right (fun h => ⟨_, h, Q6v _⟩))
 have x3 := S3.cell 3 rfl
 have f3 := S3.free 3 (by decide)
 have x5 := S3.cell 5 rfl
 have f5 := S3.free 5 (by decide)
 have x23 := S3.cell 23 rfl
 have f23 := S3.free 23 (by decide)
 clear hown hgrow hat B23 SW S2 hb news hi hzr hsz hby
 go_upto_region 10 with fail
 have S4 : Stp base w _ (Q6o + 1) (Q6o + 1 + 1) Q0a Q07 Q0c Q0h Q0a Q07 Q4q Q1w { A with vers := A.vers ++ [⟨aimI h, false, 0, -1, 0⟩], nodes := A.nodes ++ [⟨max h.key 0, h.value, (Q6r : Int)⟩] } (qza Q6w Q0a Q07 Q4q Q1w { h with new_ := (Q6q : Int), at_ := 9 } d tk) := ((S3.put 3 (by simp [qza, hdC, ddC]) Q4q).put 23 (by simp [qza, hdC, ddC]) (.int .i64 (Q6q : Int))).put 5 (by simp [qza, hdC, ddC]) (.int .i64 9)
 go_wp2_with (first | (refine Q6z rfl 60 (.tmp 3) rfl (Q6o + 1) 0 ?cx19 (qza Q6w Q0a Q07 Q4q Q1w { h with new_ := (Q6q : Int), at_ := 9 } d tk) _ ?cc19 Q71 rfl (qz7 _ _ _ _ _ _ _ _) ?_) | (refine Q6t rfl 60 (.tmp 4) _ rfl (Q6o + 1 + 1) 0 (qza Q6w Q0a Q07 Q4q Q1w { h with new_ := (Q6q : Int), at_ := 9 } d tk).toArray ?dx19 ?dy19 ?dt19 (qzs _ _ _ _ _ _ _ _) Q0v ?_))
 try (case cx19 => rfl)
 try (case cc19 => exact S4.row)
 try (case dx19 => rfl)
 try (case dy19 => rfl)
 try (case dt19 => exact S4.to)
 refine bodyPost_ret (v := .agg (qza Q6w Q0a Q07 Q4q Q1w { h with new_ := (Q6q : Int), at_ := 9 } d tk).toArray) ?_ rfl ⟨_, _, _, _, by rw [hd.out], by rw [hd.out]; exact S4.fin⟩
 exact qz3 Tryz.results156 _ _ (Q6o + 1 + 1) 0 rfl (qza Q6w Q0a Q07 Q4q Q1w { h with new_ := (Q6q : Int), at_ := 9 } d tk) _ (S4.out rfl) Q71 rfl (qz7 _ _ _ _ _ _ _ _)
end
end Go.Proofs.YthjkdnlmopafkaaGreatDoor
