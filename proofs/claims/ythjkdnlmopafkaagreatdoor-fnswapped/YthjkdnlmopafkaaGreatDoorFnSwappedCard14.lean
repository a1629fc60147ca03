/-
  What the law's proof goes by, part 15.
-/
import Derived.Deep.QuietTactic
import Derived.BigQuiet
import Derived.Test.YthjkdnlmopafkaaGreatDoorFnSwappedCard00
import Derived.Test.YthjkdnlmopafkaaGreatDoorFnSwappedCard02
import Derived.Test.YthjkdnlmopafkaaGreatDoorFnSwappedCard07
import Derived.Test.YthjkdnlmopafkaaGreatDoorFnSwappedCard11
import Derived.Test.YthjkdnlmopafkaaGreatDoorFnSwappedCard13
namespace Go.Proofs.YthjkdnlmopafkaaGreatDoor
open Go.ChangeShapes Go.WideShapes Go.ChangeAt Go.RowKit
set_option maxRecDepth 100000
set_option maxHeartbeats 16000000
set_option linter.unusedVariables false
set_option linter.unusedSimpArgs false
set_option linter.unnecessarySimpa false
set_option linter.unusedSectionVars false
section
section
variable {P : Program}
def upTo (ops : Array Oper) (m : Nat) : Array Bool := qz3c m 0 (Array.replicate ops.size false)
theorem qzbq : ∀ (f k : Nat) (l : Array Bool), (qz3c f k l).setIfInBounds (k + f) true = qz3c (f + 1) k l
 | 0, k, l => by simp [qz3c]
 | f + 1, k, l => by
  rw [qz3c, show k + (f + 1) = (k + 1) + f by omega, qzbq f (k + 1)]
  rfl
theorem qz97 (ops : Array Oper) (m : Nat) : (upTo ops m).setIfInBounds m true = upTo ops (m + 1) := by
 have := qzbq m 0 (Array.replicate ops.size false)
 rw [Nat.zero_add] at this
 exact this
def qzgz (ops : Array Oper) (k : Nat) : Bool :=
 decide (k + 4 <= ops.size) && Region.noSelect ops && qzgj .any ops k 0 (Array.replicate ops.size false) && qzan .any ops k &&
  (Region.ready .any ops (upTo ops k) == [k]) && (Region.ready .any ops (upTo ops (k + 1)) == [k + 1]) &&
  ((Region.ready .any ops (upTo ops (k + 2))).contains (k + 2) && Region.free .any ops (upTo ops (k + 2)) (k + 2)) &&
  ((Region.ready .any ops (upTo ops (k + 3))).contains (k + 3) && Region.free .any ops (upTo ops (k + 3)) (k + 3)) &&
  qz4x .any ops (ops.size - (k + 4)) (k + 4) (upTo ops (k + 4))
theorem qz71 (v : Value) (ix : Nat) (v1 v2 : Value) (hv : v = .tuple #[v1, v2]) (o : Oper) (ev : Operand -> Value) (x : Operand) (ho : o.op = .extract x ix) (hx : ev x = v) (hi : ix < 2) (w : World) : (execOp ev o).run P w = .ok (.value (if ix = 0 then v1 else v2)) w := by
 subst hv
 rcases (show ix = 0 ∨ ix = 1 by omega) with rfl | rfl <;> simp [execOp, ho, hx, go_sem]
theorem qzg4 (o : Oper) (ev : Operand -> Value) (x : Operand) (ho : o.op = .move x) (w : World) : (execOp ev o).run P w = .ok (.value (ev x)) w := by
 simp [execOp, ho, go_sem]
end
theorem qz59 {P : Program} {id : Nat} {Q : Exit -> Act -> World -> Prop} {a : Act} {w : World} {l : List Oper} (k : Nat) (hm : P.follows .mixedOrders = true) (hB : qzgz l.toArray k = true)
  (o0 o1 o2 o3 : Oper) (h0 : l[k]? = some o0) (h1 : l[k + 1]? = some o1) (h2 : l[k + 2]? = some o2) (h3 : l[k + 3]? = some o3) (d0 d1 : Tmp) (d2 d3 : Option Tmp)
  (e0 : o0.dst = some d0) (e1 : o1.dst = some d1) (e2 : o2.dst = d2) (e3 : o3.dst = d3) (g0 : o0.guard = none) (g1 : o1.guard = none) (g2 : o2.guard = none) (g3 : o3.guard = none)
  (p1 : o1.op = .move (.tmp d0)) (p2 : o2.op = .extract (.tmp d1) 0) (p3 : o3.op = .extract (.tmp d1) 1) (hd2 : d2 ≠ some d1)
  (hQ2 : ∀ c (a : Act) v w, Q (.panic c) (a.put d2 v) w -> Q (.panic c) a w) (hQ3 : ∀ c (a : Act) v w, Q (.panic c) (a.put d3 v) w -> Q (.panic c) a w)
  (h : wpQuiet P l.toArray (fun w' => ∃ n, w' = w.drewN n) (fun a' => ∀ w', (∃ n, w' = w.drewN n) -> d0 < a'.tmps.size /\ d1 < a'.tmps.size /\ ∃ f args, (execOp a'.eval o0).run P w' = .ok (.enter f args) w' /\
   Calls P f args w' fun e w'' => ∃ v1 v2, e = .returned (.tuple #[v1, v2]) /\ wpList P l.toArray Q (l.drop (k + 4)) ((((a'.put (some d0) (.tuple #[v1, v2])).put (some d1) (.tuple #[v1, v2])).put d2 v1).put d3 v2) w'') (l.take k) a) : (Code.region id l.toArray true).wp P Q a w := by
 simp only [qzgz, Bool.and_eq_true, decide_eq_true_eq, beq_iff_eq] at hB
 obtain ⟨⟨⟨⟨⟨⟨⟨⟨hk4, hs⟩, hlex⟩, hw⟩, r0⟩, r1⟩, r2⟩, r3⟩, hseq⟩ := hB
 have hsz : Q70 = l.length := by simp
 rw [hsz] at hk4
 refine wp_region_any hm ?_
 have hc0 : qz4r .any l.toArray (Array.replicate Q70 false) := by
  intro j o ho hj
  exfalso
  rcases Nat.lt_or_ge j Q70 with h' | h'
  ·simp at h'; simp [h'] at hj
  ·simp at h'; simp [h'] at hj
 have hT := qz5k (P := P) (md := .any) (C := fun w' => ∃ n, w' = w.drewN n) (Q := fun a' => ∀ w', (∃ n, w' = w.drewN n) -> d0 < a'.tmps.size /\ d1 < a'.tmps.size /\ ∃ f args, (execOp a'.eval o0).run P w' = .ok (.enter f args) w' /\
   Calls P f args w' fun e w'' => ∃ v1 v2, e = .returned (.tuple #[v1, v2]) /\ wpList P l.toArray Q (l.drop (k + 4)) ((((a'.put (some d0) (.tuple #[v1, v2])).put (some d1) (.tuple #[v1, v2])).put d2 v1).put d3 v2) w'') hw hs (l.take k) 0 (Array.replicate l.toArray.size false) a (by simp; omega) (fun j hj => by simp at hj; simp [hj]) hc0 (fun i hi => by omega) (by simp; omega) (by simpa [Nat.min_eq_left (show k <= l.length by omega)] using hlex) h
 have hfin := qz5t (P := P) (md := .any) (Q' := Q) (m := l.length - k) hw (by rw [hsz]; omega) (fun a' w' hC hq => by
  obtain ⟨s0, s1, f, args, hrun, hcall⟩ := hq w' hC
  rw [show l.length - k = ((((l.length - (k + 4)) + 1) + 1) + 1) + 1 by omega]
  have hwant : ∀ (o : Oper) (b : Act), o.guard = none -> Region.wanted o (yielded l.toArray b.tmps) = true := fun o b hg => by simp [Region.wanted, hg]
  refine wpAny_all (rs := [k]) r0 (by simp) (fun i hi => ?_)
  obtain rfl := List.mem_singleton.1 hi
  have h0' : l.toArray[i]? = some o0 := by simpa using h0
  unfold wpOp
  simp only [h0', hwant o0 a' g0, if_true]
  refine Or.inl ?_
  unfold Oper.wp
  rw [hrun]
  simp only [Oper.upon]
  refine hcall.mono ?_
  rintro e w2 ⟨v1, v2, rfl, hrest⟩
  show wpAny P .any l.toArray Q _ ((upTo l.toArray i).setIfInBounds i true) _ _
  rw [qz97, e0]
  refine wpAny_all (rs := [i + 1]) r1 (by simp) (fun j hj => ?_)
  obtain rfl := List.mem_singleton.1 hj
  have h1' : l.toArray[i + 1]? = some o1 := by simpa using h1
  unfold wpOp
  simp only [h1', hwant o1 _ g1, if_true]
  refine Or.inl ?_
  unfold Oper.wp
  rw [qzg4 o1 _ _ p1]
  simp only [Oper.upon]
  rw [qz97, e1]
  have ev0 : (a'.put (some d0) (.tuple #[v1, v2])).eval (.tmp d0) = .tuple #[v1, v2] := qzdz _ _ _ s0
  rw [ev0]
  have ev1 : ((a'.put (some d0) (.tuple #[v1, v2])).put (some d1) (.tuple #[v1, v2])).eval (.tmp d1) = .tuple #[v1, v2] := qzdz _ _ _ (by rw [qzd2]; exact s1)
  have h2' : l.toArray[i + 2]? = some o2 := by simpa using h2
  have h3' : l.toArray[i + 3]? = some o3 := by simpa using h3
  refine wpAny_take (i := i + 2) (v := v1) h2' hs r2.2 r2.1 (fun c a w hh => hQ2 c a _ w (e2 ▸ hh)) (Or.inl ⟨hwant o2 _ g2, fun w => ?_⟩) ?_
  ·exact qz71 _ 0 v1 v2 rfl o2 _ _ p2 ev1 (by omega) w
  rw [qz97, e2]
  have ev2 : (((a'.put (some d0) (.tuple #[v1, v2])).put (some d1) (.tuple #[v1, v2])).put d2 v1).eval (.tmp d1) = .tuple #[v1, v2] := (qz9m _ _ _ _ hd2).trans ev1
  refine wpAny_take (i := i + 3) (v := v2) h3' hs r3.2 r3.1 (fun c a w hh => hQ3 c a _ w (e3 ▸ hh)) (Or.inl ⟨hwant o3 _ g3, fun w => ?_⟩) ?_
  ·exact qz71 _ 1 v1 v2 rfl o3 _ _ p3 ev2 (by omega) w
  rw [qz97, e3]
  have := qz6c (P := P) (md := .any) (Q := Q) (l.drop (i + 4)) (i + 4) (upTo l.toArray (i + 4)) _ w2 (fun j => by simp) (by simpa using hseq) hrest
  simpa using this) (l.take k).length (Array.replicate Q70 false) a { w with drawn := w.drawn + 1 } ⟨1, rfl⟩ hc0 (by simp) (fun j _ => by
   rcases Nat.lt_or_ge j Q70 with h' | h'
   ·simp at h'; simp [h']
   ·simp at h'; simp [h']) hT
 rw [show (l.take k).length + (l.length - k) = l.toArray.size by simp; omega] at hfin
 exact hfin
end
section
attribute [local go_sem ↓] Go.wp_at_zero Go.wp_at_succ
theorem qza5 (base : Nat) (A : Ar) (h : Hd) (d : Dd) (tk : Bool) (s g n r : Value) (w : World) (hbase : base <= Q6o) (hA : A.size <= 1048576) (O : qz1t base w s g n r A) (x y z u : Int) (hOk : qz10 x y z u A = true) (hp0 : 0 <= h.pred) (hp1 : h.pred < (Q6q : Int)) (hc0 : 0 <= h.currVer) (hc1 : h.currVer < (Q6r : Int)) (hr0 : 0 <= h.round) (hr1 : h.round <= 20000) :
  Calls Tryz.prog 53 Q2n w fun e w' => ∃ s' g' n' r', e = .returned (.agg (qza Q6w s' g' n' r' (qz22 x y z u A h).2 d tk).toArray) /\ qz29 base w w' s g n r s' g' n' r' (qz22 x y z u A h).1 := by
 have hA' := hA
 unfold Ar.size at hA
 obtain ⟨sa, sc, rfl⟩ := qzf O.rs
 obtain ⟨ga, gc, rfl⟩ := qzf O.rg
 obtain ⟨nb, nc, rfl⟩ := qz12 O.rn (by omega)
 obtain ⟨rb, rc, rfl⟩ := qz12 O.rr (by omega)
 obtain ⟨S0, P0⟩ := qz1i base w Q0a Q07 Q0b Q05 A Q3o Q0i 60 25 x y z u O rfl rfl
 obtain ⟨ck, hck⟩ : ∃ k : Nat, h.currVer = k := ⟨h.currVer.toNat, by omega⟩
 have hcl : ck < Q6r := by omega
 go_enter Tryz.func53, Tryz.ntmps53
 have tok : True := trivial
 go_wp2_with (clear tok; refine qz2j (((Q44).alloc (.cells (Q3o).toArray 60)).alloc (.cells Q01 60)) ?_)
 generalize hw0 : ((Q44).alloc (.cells (Q3o).toArray 60)).alloc (.cells Q01 60) = w0 at *
 clear hw0
 show wpList _ _ _ _ _ w0
 have hck0 : (0 : Int) <= (ck : Int) := by omega
 have hck1 : (ck : Int) < (Q6r : Int) := by omega
 have x0 := S0.cell 0 rfl
 have x1 := S0.cell 1 rfl
 have x2 := S0.cell 2 rfl
 have x3 := S0.cell 3 rfl
 have x4 := S0.cell 4 rfl
 have q0 := S0.cell 5 rfl
 have q1 := S0.cell 6 rfl
 have q3 := S0.cell 8 rfl
 have q10 := S0.cell 15 rfl
 have q14 := S0.cell 19 rfl
 have q15 := S0.cell 20 rfl
 have q17 := S0.cell 22 rfl
 have q21 := S0.cell 26 rfl
 have f21 := S0.free 26 (by decide)
 rw [hck] at q17
 have hw1 := S0.hi
 by_cases e1 : h.at_ = 1
 case pos =>
  have hd : Hid (qz22 x y z u A h = (A, { h with round := min (h.round + 1) 20000, x_ := qz4o x y z u A h.key, then_ := 1, at_ := 2 })) := by show _ = _; rw [qz22, if_pos e1]
  rw [e1] at q0
  have hr2 : -9223372036854775808 <= h.round + 1 := by omega
  have hr3 : h.round + 1 <= 9223372036854775807 := by omega
  have S1 := S0.put 26 (by rw [qz2r]; omega) (.int .i64 (min (h.round + 1) 20000))
  have P1 : qz45 (w0.setCell ⟨Q6o + 1, 26, none⟩ (.int .i64 (min (h.round + 1) 20000))) Q6o x y z u := P0.under (Below.setCell (Q6s (Q6o + 1) w0) (p := ⟨Q6o + 1, 26, none⟩) (Q6v _) _) (by omega)
  go_upto_region 3 with (go_at_call 101; refine (qzq _ _ _).mono ?_; rintro e w' ⟨rfl, hw⟩; obtain rfl := hw.symm)
  generalize w0.setCell ⟨Q6o + 1, 26, none⟩ (.int .i64 (min (h.round + 1) 20000)) = w1 at *
  clear x0 x1 x2 x3 x4 q0 q1 q3 q10 q14 q15 q17 q21 f21
  have x0 := S1.cell 0 rfl
  have x1 := S1.cell 1 rfl
  have x2 := S1.cell 2 rfl
  have x3 := S1.cell 3 rfl
  have x4 := S1.cell 4 rfl
  have q3 := S1.cell 8 rfl
  obtain ⟨p0, p1, p2, p3⟩ := P1
  go_upto_region 6 with (go_at_call 69; refine (qzcf Q6y A x y z u h.key _ _ _ _ _ _ _ _ _ (Q6v _) hA' S1.is hOk).mono ?_; rintro e w2 ⟨rfl, b2⟩; have S2 := S1.below b2; have y0 := S2.cell 5 rfl; have y1 := S2.cell 6 rfl; have y10 := S2.cell 15 rfl; have g0 := S2.free 5 (by decide); have g1 := S2.free 6 (by decide); have g10 := S2.free 15 (by decide))
  have S3 : Stp base w _ (Q6o + 1) (Q6o + 1 + 1) Q0a Q07 Q0b Q05 Q0a Q07 Q0b Q05 A (qza Q6w Q0a Q07 Q0b Q05 { h with round := min (h.round + 1) 20000, x_ := qz4o x y z u A h.key, then_ := 1, at_ := 2 } d tk) := ((S2.put 15 (by simp [qza, hdC, ddC]) (.int .i64 (qz4o x y z u A h.key))).put 6 (by simp [qza, hdC, ddC]) (.int .i64 1)).put 5 (by simp [qza, hdC, ddC]) (.int .i64 2)
  go_wp2_with (first | (refine Q6z rfl 60 (.tmp 3) rfl (Q6o + 1) 0 ?cx1 (qza Q6w Q0a Q07 Q0b Q05 { h with round := min (h.round + 1) 20000, x_ := qz4o x y z u A h.key, then_ := 1, at_ := 2 } d tk) _ ?cc1 Q71 rfl (qz7 _ _ _ _ _ _ _ _) ?_) | (refine Q6t rfl 60 (.tmp 4) _ rfl (Q6o + 1 + 1) 0 (qza Q6w Q0a Q07 Q0b Q05 { h with round := min (h.round + 1) 20000, x_ := qz4o x y z u A h.key, then_ := 1, at_ := 2 } d tk).toArray ?dx1 ?dy1 ?dt1 (qzs _ _ _ _ _ _ _ _) Q0v ?_))
  try (case cx1 => rfl)
  try (case cc1 => exact S3.row)
  try (case dx1 => rfl)
  try (case dy1 => rfl)
  try (case dt1 => exact S3.to)
  refine bodyPost_ret (v := .agg (qza Q6w Q0a Q07 Q0b Q05 { h with round := min (h.round + 1) 20000, x_ := qz4o x y z u A h.key, then_ := 1, at_ := 2 } d tk).toArray) ?_ rfl ⟨_, _, _, _, by rw [hd.out], by rw [hd.out]; exact S3.fin⟩
  exact qz3 Tryz.results53 _ _ (Q6o + 1 + 1) 0 rfl (qza Q6w Q0a Q07 Q0b Q05 { h with round := min (h.round + 1) 20000, x_ := qz4o x y z u A h.key, then_ := 1, at_ := 2 } d tk) _ (S3.out rfl) Q71 rfl (qz7 _ _ _ _ _ _ _ _)
 have hfo : Hid (qz22 x y z u A h = (Q30.1, if Q30.2 = -2 then qz9 h 5 0 0 else if Q30.2 = -1 then { h with at_ := 1 } else { h with ver := Q30.2, then_ := 3, at_ := 3 })) := by show _ = _; rw [qz22, if_neg e1, hck, qz38 A ck hcl]
 have hcode := qz7r z A h.pred h.predVer A.vers[ck].next false 0
 have hcam := qz2m z A h.pred h.predVer A.vers[ck].next false 0
 have c0 := (qz23 S0.own.rr (ck * 5) (.int .i64 A.vers[ck].next) (by have := qzy (f := vrC) (sz := 5) (fun _ => rfl) A.vers ck hcl 0 (by omega); rw [Nat.add_zero] at this; rw [this]; rfl)).1
 obtain ⟨p0, p1, p2, p3⟩ := id P0
 clear hck
 go_upto_region 8 with fail
 refine qz59 18 (by kernel_rfl) (by kernel_rfl) _ _ _ _ rfl rfl rfl rfl 50 31 (some 51) (some 52) rfl rfl rfl rfl rfl rfl rfl rfl rfl rfl rfl (by decide) (fun _ _ _ _ h => h) (fun _ _ _ _ h => h) ?_
 simp only [List.take_succ_cons, List.take_zero, List.drop_succ_cons, List.drop_zero]
 repeat (quiet_step (fail))
 refine wpQuiet_nil ?_
 rintro _ ⟨nr, rfl⟩
 have S1 := S0.below (w' := w0.drewN nr) ⟨rfl, rfl, rfl, Q6v _, fun _ _ => rfl⟩
 have hz1 := S1.hi
 refine ⟨by simp, by simp, 38, #[.agg Q06, .agg Q2w, .int .i64 h.pred, .int .i64 h.predVer, .int .i64 A.vers[ck].next, .bool false, .int .i64 0], by go_simp, ?_⟩
 refine (qz5r base A x y z u h.pred h.predVer A.vers[ck].next false 0 _ _ _ _ _ (Q77 hbase S1.but.size) hA' S1.own hp0 hp1).mono ?_
 rintro e w2 ⟨s2, g2, n2, r2, rfl, E⟩
 refine ⟨_, _, rfl, ?_⟩
 have S2 := S1.swap E
 clear x0 x1 x2 x3 x4 q0 q1 q3 q10 q14 q15 q17 q21 f21 c0 p0 p1 p2 p3 S0 P0 E
 generalize Q30 = sw at *
 obtain ⟨A2, nv⟩ := sw
 obtain ⟨sa2, sc2, rfl⟩ := qzf S2.own.rs
 obtain ⟨ga2, gc2, rfl⟩ := qzf S2.own.rg
 obtain ⟨na2, nc2, rfl⟩ := qzf S2.own.rn
 obtain ⟨ra2, rc2, rfl⟩ := qzf S2.own.rr
 have x0 := S2.cell 0 rfl
 have x1 := S2.cell 1 rfl
 have x2 := S2.cell 2 rfl
 have x3 := S2.cell 3 rfl
 have x4 := S2.cell 4 rfl
 have k0 := S2.free 0 (by decide)
 have k1 := S2.free 1 (by decide)
 have k2 := S2.free 2 (by decide)
 have k3 := S2.free 3 (by decide)
 have k4 := S2.free 4 (by decide)
 dsimp only at hcode hfo
 go_upto_region 9 with fail
 have S3 : Stp base w Q4d (Q6o + 1) (Q6o + 1 + 1) Q0a Q07 Q0b Q05 Q13 Q12 Q1d Q16 A2 (qza Q6w Q13 Q12 Q1d Q16 h d tk) := S2.arena (cam' := Q6w)
 generalize (Q53).setCell ⟨Q6o + 1, 4, none⟩ Q16 = w3 at *
 clear S2 S1 hz1 x0 x1 x2 x3 x4 k0 k1 k2 k3 k4
 rcases hcode with rfl | rfl | hnv
 ·have hd : Hid (qz22 x y z u A h = (A2, qz9 h 5 0 0)) := by show _ = _; rw [hfo.out, if_pos rfl]
  go_upto_region 17 with (first | (refine Q6z rfl 56 (.tmp 64) rfl (Q6o + 1) 5 ?ax81 (hdC h) _ ?ac81 Q6x rfl (qz4 h) ?_) | (go_at_call 102; refine (qzt h 5 0 0 _).mono ?_; rintro e w4 ⟨rfl, b4⟩; have S4 := S3.below b4) | (refine Q6t rfl 56 (.tmp 67) _ rfl (Q6o + 1) 5 (hdC (qz9 h 5 0 0)).toArray ?bx82 ?by82 ?bt82 (qzc _) (qzk _) ?_))
  try (case ax81 => rfl)
  try (case ac81 => exact (qzv S3.row).2.1)
  try (case bx82 => rfl)
  try (case by82 => rfl)
  try (case bt82 => have T := qz1d S4.th 5 22 (by omega); rw [Nat.zero_add] at T; exact T)
  have S5 := S4.hand (qz9 h 5 0 0)
  go_wp2_with (first | (refine Q6z rfl 60 (.tmp 3) rfl (Q6o + 1) 0 ?cx83 Q3b _ ?cc83 Q71 rfl (qz7 _ _ _ _ _ _ _ _) ?_) | (refine Q6t rfl 60 (.tmp 4) _ rfl (Q6o + 1 + 1) 0 (Q3b).toArray ?dx83 ?dy83 ?dt83 (qzs _ _ _ _ _ _ _ _) Q0v ?_))
  try (case cx83 => rfl)
  try (case cc83 => exact S5.row)
  try (case dx83 => rfl)
  try (case dy83 => rfl)
  try (case dt83 => exact S5.to)
  refine bodyPost_ret (v := .agg (Q3b).toArray) ?_ rfl ⟨_, _, _, _, by rw [hd.out], by rw [hd.out]; exact S5.fin⟩
  exact qz3 Tryz.results53 _ _ (Q6o + 1 + 1) 0 rfl Q3b _ (S5.out rfl) Q71 rfl (qz7 _ _ _ _ _ _ _ _)
 ·have hd : Hid (qz22 x y z u A h = (A2, { h with at_ := 1 })) := by show _ = _; rw [hfo.out, if_neg (by decide), if_pos rfl]
  have q0 := S3.cell 5 rfl
  have f0 := S3.free 5 (by decide)
  go_upto_region 17 with fail
  have S5 : Stp base w _ (Q6o + 1) (Q6o + 1 + 1) Q0a Q07 Q0b Q05 Q13 Q12 Q1d Q16 A2 (qza Q6w Q13 Q12 Q1d Q16 { h with at_ := 1 } d tk) := S3.put 5 (by simp [qza, hdC, ddC]) (.int .i64 1)
  go_wp2_with (first | (refine Q6z rfl 60 (.tmp 3) rfl (Q6o + 1) 0 ?cx84 (qza Q6w Q13 Q12 Q1d Q16 { h with at_ := 1 } d tk) _ ?cc84 Q71 rfl (qz7 _ _ _ _ _ _ _ _) ?_) | (refine Q6t rfl 60 (.tmp 4) _ rfl (Q6o + 1 + 1) 0 (qza Q6w Q13 Q12 Q1d Q16 { h with at_ := 1 } d tk).toArray ?dx84 ?dy84 ?dt84 (qzs _ _ _ _ _ _ _ _) Q0v ?_))
  try (case cx84 => rfl)
  try (case cc84 => exact S5.row)
  try (case dx84 => rfl)
  try (case dy84 => rfl)
  try (case dt84 => exact S5.to)
  refine bodyPost_ret (v := .agg (qza Q6w Q13 Q12 Q1d Q16 { h with at_ := 1 } d tk).toArray) ?_ rfl ⟨_, _, _, _, by rw [hd.out], by rw [hd.out]; exact S5.fin⟩
  exact qz3 Tryz.results53 _ _ (Q6o + 1 + 1) 0 rfl (qza Q6w Q13 Q12 Q1d Q16 { h with at_ := 1 } d tk) _ (S5.out rfl) Q71 rfl (qz7 _ _ _ _ _ _ _ _)
 ·have m2 : ¬ (nv = -2) := by omega
  have m1 : ¬ (nv = -1) := by omega
  have hd : Hid (qz22 x y z u A h = (A2, { h with ver := nv, then_ := 3, at_ := 3 })) := by show _ = _; rw [hfo.out, if_neg m2, if_neg m1]
  have q0 := S3.cell 5 rfl
  have q1 := S3.cell 6 rfl
  have q11 := S3.cell 16 rfl
  have f0 := S3.free 5 (by decide)
  have f1 := S3.free 6 (by decide)
  have f11 := S3.free 16 (by decide)
  go_upto_region 17 with fail
  have S5 : Stp base w _ (Q6o + 1) (Q6o + 1 + 1) Q0a Q07 Q0b Q05 Q13 Q12 Q1d Q16 A2 (qza Q6w Q13 Q12 Q1d Q16 { h with ver := nv, then_ := 3, at_ := 3 } d tk) := ((S3.put 16 (by simp [qza, hdC, ddC]) (.int .i64 nv)).put 6 (by simp [qza, hdC, ddC]) (.int .i64 3)).put 5 (by simp [qza, hdC, ddC]) (.int .i64 3)
  go_wp2_with (first | (refine Q6z rfl 60 (.tmp 3) rfl (Q6o + 1) 0 ?cx85 (qza Q6w Q13 Q12 Q1d Q16 { h with ver := nv, then_ := 3, at_ := 3 } d tk) _ ?cc85 Q71 rfl (qz7 _ _ _ _ _ _ _ _) ?_) | (refine Q6t rfl 60 (.tmp 4) _ rfl (Q6o + 1 + 1) 0 (qza Q6w Q13 Q12 Q1d Q16 { h with ver := nv, then_ := 3, at_ := 3 } d tk).toArray ?dx85 ?dy85 ?dt85 (qzs _ _ _ _ _ _ _ _) Q0v ?_))
  try (case cx85 => rfl)
  try (case cc85 => exact S5.row)
  try (case dx85 => rfl)
  try (case dy85 => rfl)
  try (case dt85 => exact S5.to)
  refine bodyPost_ret (v := .agg (qza Q6w Q13 Q12 Q1d Q16 { h with ver := nv, then_ := 3, at_ := 3 } d tk).toArray) ?_ rfl ⟨_, _, _, _, by rw [hd.out], by rw [hd.out]; exact S5.fin⟩
  exact qz3 Tryz.results53 _ _ (Q6o + 1 + 1) 0 rfl (qza Q6w Q13 Q12 Q1d Q16 { h with ver := nv, then_ := 3, at_ := 3 } d tk) _ (S5.out rfl) Q71 rfl (qz7 _ _ _ _ _ _ _ _)
end
section
attribute [local go_sem ↓] Go.wp_at_zero Go.wp_at_succ
def aimI (h : Hd) : Int := if h.curr = 0 then -1 else h.curr
def newI (h : Hd) : Int := if h.new_ <= 0 then -1 else h.new_
theorem qza1 (h : Hd) (w : World) :
  Calls Tryz.prog 157 #[.agg (hdC h).toArray] w fun e w' => e = .returned (.int .i64 (aimI h)) /\ Below Q6o w w' := by
 have X0 := qz6 w (hdC h) 56
 have K0 := (Q6s Q6o w).alloc (Q6v _) Q0p
 have q : (w.alloc Q0p).cell? ⟨Q6o, 16, none⟩ = some (.int .i64 h.curr) := by simpa using X0 16 _ rfl
 by_cases h0 : h.curr = 0
 ·have hv : Hid (aimI h = -1) := by show _ = _; rw [aimI, if_pos h0]
  rw [h0] at q
  clear h0
  go_enter Tryz.func157, Tryz.ntmps157
  go_wp2
  go_ret
  exact ⟨by rw [hv.out]; rfl, K0⟩
 ·have hv : Hid (aimI h = h.curr) := by show _ = _; rw [aimI, if_neg h0]
  go_enter Tryz.func157, Tryz.ntmps157
  go_wp2
  go_ret
  exact ⟨by rw [hv.out]; rfl, K0⟩
theorem qzdi (h : Hd) (w : World) :
  Calls Tryz.prog 159 #[.agg (hdC h).toArray] w fun e w' => e = .returned (.int .i64 (newI h)) /\ Below Q6o w w' := by
 have X0 := qz6 w (hdC h) 56
 have K0 := (Q6s Q6o w).alloc (Q6v _) Q0p
 have q : (w.alloc Q0p).cell? ⟨Q6o, 18, none⟩ = some (.int .i64 h.new_) := by simpa using X0 18 _ rfl
 by_cases h0 : h.new_ <= 0
 ·have hv : Hid (newI h = -1) := by show _ = _; rw [newI, if_pos h0]
  go_enter Tryz.func159, Tryz.ntmps159
  go_wp2
  go_ret
  exact ⟨by rw [hv.out]; rfl, K0⟩
 ·have hv : Hid (newI h = h.new_) := by show _ = _; rw [newI, if_neg h0]
  go_enter Tryz.func159, Tryz.ntmps159
  go_wp2
  go_ret
  exact ⟨by rw [hv.out]; rfl, K0⟩
end
end Go.Proofs.YthjkdnlmopafkaaGreatDoor
