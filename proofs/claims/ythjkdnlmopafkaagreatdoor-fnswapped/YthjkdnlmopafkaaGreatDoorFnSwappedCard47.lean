/-
  What the law's proof goes by, part 48.
-/
import Derived.Deep.Cut
import Derived.Test.YthjkdnlmopafkaaGreatDoorFnSwappedCard00
import Derived.Test.YthjkdnlmopafkaaGreatDoorFnSwappedCard04
import Derived.Test.YthjkdnlmopafkaaGreatDoorFnSwappedCard06
import Derived.Test.YthjkdnlmopafkaaGreatDoorFnSwappedCard45
import Derived.Test.YthjkdnlmopafkaaGreatDoorFnSwappedCard46
namespace Go.Proofs.YthjkdnlmopafkaaGreatDoor
open Go.ChangeShapes Go.WideShapes Go.ChangeAt Go.RowKit
set_option maxRecDepth 100000
set_option maxHeartbeats 16000000
set_option linter.unusedVariables false
set_option linter.unusedSimpArgs false
set_option linter.unnecessarySimpa false
set_option linter.unusedSectionVars false
section
attribute [local go_sem ↓] Go.wp_at_zero Go.wp_at_succ
def qz3z (x y z u : Int) (A : Ar) (node v nx : Int) (go : Bool) (kd : Int) : Ar × Int :=
 if hasB x y z u A node = true then (if qz10 x y z u (qz14 z A node v nx go kd).1 = true then qz14 z A node v nx go kd else (A, -2)) else (⟨0, [], [], [], []⟩, -2)
def qzb1 (w : World) (R : Ar × Int) (e : Ending) (w' : World) : Prop := ∃ s g n r, e = .returned (.tuple #[.agg #[.int .i64 R.1.camera, s, g, n, r], .int .i64 R.2]) /\ qz1t Q6o w' s g n r R.1 /\ Below Q6o w w'
theorem qzb1.of {w w' : World} {A : Ar} {k : Int} {e : Ending} {s g n r : Value} (h1 : e = .returned (.tuple #[.agg Q1t, .int .i64 k])) (h2 : qz1t Q6o w' s g n r A) (h3 : Below Q6o w w') : qzb1 w (A, k) e w' := ⟨s, g, n, r, h1, h2, h3⟩
theorem qzcr (z : Int) (A : Ar) (node v nx : Int) (go : Bool) (kd : Int) : (qz14 z A node v nx go kd).1.size <= A.size + 1 := by
 unfold qz14
 repeat' split
 all_goals (simp [Ar.size]; try omega)
def swG (lo : Nat) (x y z u : Int) (A : Ar) (a0 a1 a2 a3 : Option Addr) (c0 c1 c2 c3 : Nat) (node v nx : Int) (go : Bool) (kd : Int) (R : Ar × Int) (L : Nat -> Bool) : Nat -> Value -> World -> Prop
 | 0, c, _ => c = .agg Q06
 | 1, c, _ => c = .agg Q02
 | 2, c, w => ∃ s g n r, c = .agg Q1t /\ (L 8 = false -> qz1t lo w s g n r A)
 | 3, c, _ => c = .int .i64 node
 | 4, c, _ => c = .int .i64 v
 | 5, c, _ => c = .int .i64 nx
 | 6, c, _ => c = .bool go
 | 7, c, _ => c = .int .i64 kd
 | 8, c, w => ∃ s g n r, c = .tuple #[.agg Q1t, .int .i64 R.2] /\ qz1t lo w s g n r R.1
 | 9, c, w => ∃ s g n r, c = .tuple #[.agg Q1t, .int .i64 R.2] /\ qz1t lo w s g n r R.1
 | 10, c, w => ∃ s g n r, c = .agg Q1t /\ qz1t lo w s g n r R.1
 | 11, c, _ => c = .int .i64 R.2
 | 12, c, w => ∃ q, c = .pointer (some ⟨q, 0, none⟩) /\ lo <= q /\ Blk w q 30 5 /\ (L 13 = true -> ∃ s g n r, w.rangeAt q 0 Q2t /\ qz1t lo w s g n r R.1)
 | 14, c, _ => c = .int .i64 R.2
 | _, _, _ => True
theorem qz4u {L : Nat -> Bool} {i m : Nat} (h : m ≠ i) : onAt L i m = L m := by simp [onAt, h]
theorem qz4f {lo : Nat} {x y z u : Int} {A : Ar} {a0 a1 a2 a3 : Option Addr} {c0 c1 c2 c3 : Nat} {node v nx : Int} {go : Bool} {kd : Int} {R : Ar × Int} {L : Nat -> Bool} {w w' : World} (i : Nat) (h8 : i ≠ 8) (h13 : i ≠ 13) (hb : Below Q6o w w') (j : Nat) (c : Value) (hq : swG lo x y z u A a0 a1 a2 a3 c0 c1 c2 c3 node v nx go kd R L j c w) : swG lo x y z u A a0 a1 a2 a3 c0 c1 c2 c3 node v nx go kd R (onAt L i) j c w' := by
 match j, hq with
 | 0, h | 1, h | 3, h | 4, h | 5, h | 6, h | 7, h | 11, h | 14, h => exact h
 | 2, h =>
  obtain ⟨s, g, n, r, e, O⟩ := h
  exact ⟨s, g, n, r, e, fun q => (O (by rw [qz4u (Ne.symm h8)] at q; exact q)).below hb⟩
 | 8, h | 9, h | 10, h =>
  obtain ⟨s, g, n, r, e, O⟩ := h
  exact ⟨s, g, n, r, e, O.below hb⟩
 | 12, h =>
  obtain ⟨q, e, hl, B, O⟩ := h
  refine ⟨q, e, hl, B.grown hb, fun p => ?_⟩
  obtain ⟨s, g, n, r, R, O⟩ := O (by rw [qz4u (Ne.symm h13)] at p; exact p)
  exact ⟨s, g, n, r, qz0 R hb B.lt, O.below hb⟩
 | 13, h | n + 15, h => exact trivial
theorem qzhv {lo : Nat} {x y z u : Int} {A : Ar} {a0 a1 a2 a3 : Option Addr} {c0 c1 c2 c3 : Nat} {node v nx : Int} {go : Bool} {kd : Int} {R : Ar × Int} {L : Nat -> Bool} {w w' : World} {s g n r : Value} (O0 : qz1t lo w s g n r A) (hb : But (OwnB s g n r) w w') (h9 : L 9 = false) (h10 : L 10 = false) (h13 : L 13 = false) (j : Nat) (c : Value) (h8 : j ≠ 8) (hL : L j = true) (hq : swG lo x y z u A a0 a1 a2 a3 c0 c1 c2 c3 node v nx go kd R L j c w) : swG lo x y z u A a0 a1 a2 a3 c0 c1 c2 c3 node v nx go kd R (onAt L 8) j c w' := by
 match j, hq with
 | 0, h | 1, h | 3, h | 4, h | 5, h | 6, h | 7, h | 11, h | 14, h => exact h
 | 2, h =>
  obtain ⟨s, g, n, r, e, O⟩ := h
  exact ⟨s, g, n, r, e, fun q => by simp [onAt] at q⟩
 | 8, h => exact absurd rfl h8
 | 9, h => rw [h9] at hL; cases hL
 | 10, h => rw [h10] at hL; cases hL
 | 12, h =>
  obtain ⟨q, e, hl, B, O⟩ := h
  refine ⟨q, e, hl, B.but hb ?_, fun p => by rw [qz4u (by decide), h13] at p; cases p⟩
  rintro (h | h | h | h)
  ·obtain ⟨m, -, hm⟩ := qz4z O0.rs h
   exact (hm.ne B (by decide)) rfl
  ·obtain ⟨m, -, hm⟩ := qz4z O0.rg h
   exact (hm.ne B (by decide)) rfl
  ·obtain ⟨m, -, hm⟩ := qz4z O0.rn h
   exact (hm.ne B (by decide)) rfl
  ·obtain ⟨m, -, hm⟩ := qz4z O0.rr h
   exact (hm.ne B (by decide)) rfl
 | 13, h | n + 15, h => exact trivial
theorem qzhc {lo : Nat} {x y z u : Int} {A : Ar} {a0 a1 a2 a3 : Option Addr} {c0 c1 c2 c3 : Nat} {node v nx : Int} {go : Bool} {kd : Int} {R : Ar × Int} {L : Nat -> Bool} {w : World} {q : Nat} {s g n r : Value} (B0 : Blk w q 30 5) (O0 : qz1t lo w s g n r R.1) (j : Nat) (c : Value) (hL : L j = true) (h12 : j = 12 -> c = .pointer (some ⟨q, 0, none⟩)) (hq : swG lo x y z u A a0 a1 a2 a3 c0 c1 c2 c3 node v nx go kd R L j c w) : swG lo x y z u A a0 a1 a2 a3 c0 c1 c2 c3 node v nx go kd R (onAt L 13) j c (w.setCells q 0 Q2t) := by
 have k := qze q Q2t 0 w
 match j, hq with
 | 0, h | 1, h | 3, h | 4, h | 5, h | 6, h | 7, h | 11, h | 14, h => exact h
 | 2, h =>
  obtain ⟨s, g, n, r, e, O⟩ := h
  exact ⟨s, g, n, r, e, fun q => (O (by rw [qz4u (by decide)] at q; exact q)).aside B0 (by decide) (by decide) (by decide) k⟩
 | 8, h | 9, h | 10, h =>
  obtain ⟨s, g, n, r, e, O⟩ := h
  exact ⟨s, g, n, r, e, O.aside B0 (by decide) (by decide) (by decide) k⟩
 | 12, h =>
  obtain rfl := h12 rfl
  obtain ⟨q', e, hl, B, O⟩ := h
  cases e
  exact ⟨_, rfl, hl, B.setCells _ _ _, fun _ => ⟨s, g, n, r, Q6u _ _ _ _ (B0.there 0 5 (by decide)), O0.aside B0 (by decide) (by decide) (by decide) k⟩⟩
 | 13, h | n + 15, h => exact trivial
theorem qzhk : (Tryz.prog.info? 25).map (fun i => i.size) = some 4 := by kernel_rfl
theorem qzf8 : (Tryz.prog.info? 30).map (fun i => i.size) = some 5 := by kernel_rfl
theorem qz7k (B : Nat) (A : Ar) (x y z u : Int) (node v nx : Int) (go : Bool) (kd : Int) (a0 a1 a2 a3 : Option Addr) (c0 c1 c2 c3 : Nat) (w : World) (hB : B <= Q6o) (hA : A.size <= 1048576) (I : qz1j B w Q0x Q0w Q0t Q11 A) :
  Calls Tryz.prog 8 Q4z w (qzb1 w (qz3z x y z u A node v nx go kd)) := by
 have hA' := hA
 unfold Ar.size at hA
 have P0 := Q7b (Q7b (qz6 w Q0n 25) (.cells Q02 30)) (.cells Q09 30)
 have X0 := Q7b (qz6 Q44 Q0j 30) (.cells Q09 30)
 have F0 := qzg Q1s Q09 30 5 (by decide)
 have K0 := (((Q6s Q6o w).alloc (Q6v _) (.cells Q06 25)).alloc (by simp) (.cells Q02 30)).alloc (by simp; omega) (.cells Q09 30)
 have hz0 : Q6o + 1 + 1 < ((Q1s).alloc (.cells Q09 30)).heap.size := by simp
 simp only [World.size_alloc] at X0 F0
 have I0 := I.below (K0.mono hB)
 go_enter Tryz.func8, Tryz.ntmps8
 go_upto_region 1 with fail
 generalize hw0 : (Q1s).alloc (.cells Q09 30) = w0 at *
 clear hw0 I
 have hB0 : B <= Q73 := Q77 hB K0.size
 obtain ⟨x0, x1, x2, x3, x4⟩ := row5 X0
 obtain ⟨y0, y1, y2, y3⟩ : w0.cell? ⟨Q6o, 0, none⟩ = some (.int .i64 x) /\ w0.cell? ⟨Q6o, 1, none⟩ = some (.int .i64 y) /\ w0.cell? ⟨Q6o, 2, none⟩ = some (.int .i64 z) /\ w0.cell? ⟨Q6o, 3, none⟩ = some (.int .i64 u) := ⟨by simpa using P0 0 _ rfl, by simpa using P0 1 _ rfl, by simpa using P0 2 _ rfl, by simpa using P0 3 _ rfl⟩
 go_wp2_with fail
 refine (qzbu B A x y z u node a0 a1 a2 a3 c0 c1 c2 c3 w0 hB0 hA' I0).mono ?_
 rintro e w1 ⟨rfl, b0⟩
 have P1 := qz0 P0 b0 (by omega)
 have X1 := qz0 X0 b0 (by omega)
 have F1 := qz5 F0 b0 (by omega)
 have K1 := K0.trans (b0.mono (by omega))
 have I1 := I0.below (b0.mono hB0)
 have hz1 := Q72 hz0 b0.size
 have hB1 := Q77 hB0 b0.size
 clear P0 X0 F0 K0 I0 hz0 hB0 b0 x0 x1 x2 x3 x4 y0 y1 y2 y3
 cases eh : hasB x y z u A node
 case false =>
  have hr : Hid (qz3z x y z u A node v nx go kd = (⟨0, [], [], [], []⟩, -2)) := by show _ = _; simp [qz3z, eh]
  clear eh
  go_wp2_with (refine wpList_store_mid rfl 30 (.tmp 14) (.tmp 23) rfl (w.heap.size + 1 + 1) 0 Q09 ?hx1 ?hy1 ?ht1 (by exact qz1n) (by simp [Value.oneCell']) ?_)
  try (case hx1 => rfl)
  try (case hy1 => rfl)
  try (case ht1 => exact F1)
  refine bodyPost_ret (v := .tuple #[.agg Q09, .int .i64 (-2)]) ?_ rfl (by rw [hr.out]; exact qzb1.of rfl (qzem _ _) (Below.setCells (by omega) _ _ _ K1))
  exact qzl Tryz.results8 _ _ (Q6o + 1 + 1) 0 rfl Q4f _ (Q6u _ _ _ _ F1) Q7g rfl qz1n
 obtain ⟨hOk, hn0, hn1, -⟩ := qz9r eh
 obtain ⟨ps, pg, pn, pv⟩ := qzd4 hOk
 have hsm := (qzb3 hOk).1
 have hOk : Hid (qz10 x y z u A = true) := hOk
 have eh' : Hid (hasB x y z u A node = true) := eh
 clear eh
 obtain ⟨RR, hRR⟩ : ∃ q, Hid (qz14 z A node v nx go kd = q) := ⟨_, (rfl : qz14 z A node v nx go kd = _)⟩
 have hcam : RR.1.camera = Q6w := by rw [<- hRR.out]; exact qz2m z A node v nx go kd
 have hsz : RR.1.size <= 1048576 := by have := qzcr z A node v nx go kd; rw [hRR.out] at this; omega
 go_wp2_with fail
 refine qzct 15 (by kernel_rfl) (fun _ V => Below Q6y w1 V) ((Q6s _ _).drew) (swG Q6y x y z u A a0 a1 a2 a3 c0 c1 c2 c3 node v nx go kd RR) (by kernel_rfl) (by kernel_rfl) (by kernel_rfl) (by kernel_rfl) (by rfl) ?step ?final
 case step =>
  intro i o hik ho L a V hLi hLk hcl J hn hd K hK
  have PW := qz0 P1 J (by omega)
  have XW := qz0 X1 J (by omega)
  match i, ho with
  | 0, ho =>
   obtain rfl := Q6p ho
   exact qz1s 25 (.tmp 7) rfl (Q6o) 0 (hn 7 rfl) Q0n _ PW Tryz.underlying25 rfl qzhk (hK _ _ rfl J (fun j c _ _ _ q => qz4f 0 (by decide) (by decide) (Q6s _ _) j c q))
  | 1, ho =>
   obtain rfl := Q6p ho
   exact qz1s 30 (.tmp 8) rfl (Q6o + 1) 0 (hn 8 rfl) Q0j _ XW Q7g rfl qzf8 (hK _ _ rfl J (fun j c _ _ _ q => qz4f 1 (by decide) (by decide) (Q6s _ _) j c q))
  | 2, ho =>
   obtain rfl := Q6p ho
   have e1 : a.eval (.tmp 26) = .agg Q02 := (hd ⟨1, .data⟩ (by simp) rfl 26 rfl).2
   have ef : a.eval (.func 39) = .func (.func 39) #[] #[] := rfl
   refine qz19 (f := 39) (args := #[.agg Q02]) (R := fun c w' => (∃ s g n r, c = .agg Q1t /\ qz1t V.heap.size w' s g n r A) /\ Below V.heap.size V w') ?_ ((qz5p B A a0 a1 a2 a3 c0 c1 c2 c3 V (Q77 hB1 J.size) hA' (I1.below (J.mono hB1)) ps pg pn pv).mono (fun e w' h => by obtain ⟨s, g, n, r, e1, O, bO⟩ := h; exact ⟨_, e1, ⟨s, g, n, r, rfl, O⟩, bO⟩)) (fun c w' h => hK c w' (by obtain ⟨s, g, n, r, e, O⟩ := h.1; exact ⟨s, g, n, r, e, fun _ => O.lo J.size⟩) (J.trans (h.2.mono J.size)) (fun j c _ _ _ q => qz4f 2 (by decide) (by decide) h.2 j c q))
   generalize a.eval = ev at *
   go_simp
  | 3, ho =>
   obtain rfl := Q6p ho
   have e1 : a.eval (.tmp 2) = .int .i64 node := hn 2 rfl
   refine qz1 (v := .int .i64 node) (w' := V) ?_ (hK _ _ rfl J (fun j c _ _ _ q => qz4f 3 (by decide) (by decide) (Q6s _ _) j c q))
   generalize a.eval = ev at *
   go_simp
  | 4, ho =>
   obtain rfl := Q6p ho
   have e1 : a.eval (.tmp 3) = .int .i64 v := hn 3 rfl
   refine qz1 (v := .int .i64 v) (w' := V) ?_ (hK _ _ rfl J (fun j c _ _ _ q => qz4f 4 (by decide) (by decide) (Q6s _ _) j c q))
   generalize a.eval = ev at *
   go_simp
  | 5, ho =>
   obtain rfl := Q6p ho
   have e1 : a.eval (.tmp 4) = .int .i64 nx := hn 4 rfl
   refine qz1 (v := .int .i64 nx) (w' := V) ?_ (hK _ _ rfl J (fun j c _ _ _ q => qz4f 5 (by decide) (by decide) (Q6s _ _) j c q))
   generalize a.eval = ev at *
   go_simp
  | 6, ho =>
   obtain rfl := Q6p ho
   have e1 : a.eval (.tmp 5) = .bool go := hn 5 rfl
   refine qz1 (v := .bool go) (w' := V) ?_ (hK _ _ rfl J (fun j c _ _ _ q => qz4f 6 (by decide) (by decide) (Q6s _ _) j c q))
   generalize a.eval = ev at *
   go_simp
  | 7, ho =>
   obtain rfl := Q6p ho
   have e1 : a.eval (.tmp 6) = .int .i64 kd := hn 6 rfl
   refine qz1 (v := .int .i64 kd) (w' := V) ?_ (hK _ _ rfl J (fun j c _ _ _ q => qz4f 7 (by decide) (by decide) (Q6s _ _) j c q))
   generalize a.eval = ev at *
   go_simp
  | 8, ho =>
   obtain rfl := Q6p ho
   obtain ⟨hL2, s, g, n, r, eA, hO⟩ := (show L 2 = true /\ ∃ s g n r, a.eval (.tmp 27) = .agg Q1t /\ (L 8 = false -> qz1t Q6y V s g n r A) from hd ⟨2, .data⟩ (by simp) rfl 27 rfl)
   have O := hO hLi
   have e0 : a.eval (.tmp 25) = .agg Q06 := (hd ⟨0, .data⟩ (by simp) rfl 25 rfl).2
   have e3 : a.eval (.tmp 28) = .int .i64 node := (hd ⟨3, .data⟩ (by simp) rfl 28 rfl).2
   have e4 : a.eval (.tmp 29) = .int .i64 v := (hd ⟨4, .data⟩ (by simp) rfl 29 rfl).2
   have e5 : a.eval (.tmp 30) = .int .i64 nx := (hd ⟨5, .data⟩ (by simp) rfl 30 rfl).2
   have e6 : a.eval (.tmp 31) = .bool go := (hd ⟨6, .data⟩ (by simp) rfl 31 rfl).2
   have e7 : a.eval (.tmp 32) = .int .i64 kd := (hd ⟨7, .data⟩ (by simp) rfl 32 rfl).2
   have ef : a.eval (.func 38) = .func (.func 38) #[] #[] := rfl
   have h9 : L 9 = false := by
    cases q9 : L 9
    ·rfl
    ·have := hcl 9 _ rfl q9 ⟨8, .data⟩ (by simp) rfl
     rw [hLi] at this
     cases this
   have h10 : L 10 = false := by
    cases q10 : L 10
    ·rfl
    ·have := hcl 10 _ rfl q10 ⟨9, .data⟩ (by simp) rfl
     rw [h9] at this
     cases this
   have h13 : L 13 = false := by
    cases q13 : L 13
    ·rfl
    ·have := hcl 13 _ rfl q13 ⟨10, .data⟩ (by simp) rfl
     rw [h10] at this
     cases this
   refine qz19 (f := 38) (args := #[.agg Q06, .agg Q1t, .int .i64 node, .int .i64 v, .int .i64 nx, .bool go, .int .i64 kd]) (R := fun c w' => (∃ s' g' n' r', c = .tuple #[.agg #[.int .i64 Q6w, s', g', n', r'], .int .i64 RR.2] /\ qz29 Q6y V w' s g n r s' g' n' r' RR.1)) ?_ ((qz5r Q6y A x y z u node v nx go kd s g n r V J.size hA' O hn0 hn1).mono (fun e w' h => by rw [hRR.out] at h; obtain ⟨s', g', n', r', e1, E⟩ := h; exact ⟨_, e1, s', g', n', r', rfl, E⟩)) (fun c w' h => by
    obtain ⟨s', g', n', r', rfl, E⟩ := h
    exact hK _ w' ⟨s', g', n', r', rfl, E.own⟩ (J.trans (E.lower O J.size)) (fun j c hj hjL _ q => qzhv O E.but h9 h10 h13 j c hj hjL q))
   clear O hO
   generalize a.eval = ev at *
   go_simp
  | 9, ho =>
   obtain rfl := Q6p ho
   obtain ⟨-, s, g, n, r, e1, O⟩ := (show L 8 = true /\ ∃ s g n r, a.eval (.tmp 33) = .tuple #[.agg Q1t, .int .i64 RR.2] /\ qz1t Q6y V s g n r RR.1 from hd ⟨8, .data⟩ (by simp) rfl 33 rfl)
   refine qz1 (v := .tuple #[.agg Q1t, .int .i64 RR.2]) (w' := V) ?_ (hK _ _ ⟨s, g, n, r, rfl, O⟩ J (fun j c _ _ _ q => qz4f 9 (by decide) (by decide) (Q6s _ _) j c q))
   clear O
   generalize a.eval = ev at *
   go_simp
  | 10, ho =>
   obtain rfl := Q6p ho
   obtain ⟨-, s, g, n, r, e1, O⟩ := (show L 9 = true /\ ∃ s g n r, a.eval (.tmp 24) = .tuple #[.agg Q1t, .int .i64 RR.2] /\ qz1t Q6y V s g n r RR.1 from hd ⟨9, .data⟩ (by simp) rfl 24 rfl)
   refine qz1 (v := .agg Q1t) (w' := V) ?_ (hK _ _ ⟨s, g, n, r, rfl, O⟩ J (fun j c _ _ _ q => qz4f 10 (by decide) (by decide) (Q6s _ _) j c q))
   clear O
   generalize a.eval = ev at *
   go_simp
  | 11, ho =>
   obtain rfl := Q6p ho
   obtain ⟨-, s, g, n, r, e1, O⟩ := (show L 9 = true /\ ∃ s g n r, a.eval (.tmp 24) = .tuple #[.agg Q1t, .int .i64 RR.2] /\ qz1t Q6y V s g n r RR.1 from hd ⟨9, .data⟩ (by simp) rfl 24 rfl)
   refine qz1 (v := .int .i64 RR.2) (w' := V) ?_ (hK _ _ rfl J (fun j c _ _ _ q => qz4f 11 (by decide) (by decide) (Q6s _ _) j c q))
   clear O
   generalize a.eval = ev at *
   go_simp
  | 12, ho =>
   obtain rfl := Q6p ho
   refine qz1 (v := .pointer (some ⟨V.heap.size, 0, none⟩)) (w' := V.alloc (.cells Q09 30)) ?_ (hK _ _ ⟨V.heap.size, rfl, J.size, Blk.new _ _ _, fun p => by rw [qz4u (by decide)] at p; exact absurd (hcl 13 _ rfl p ⟨12, .data⟩ (by simp) rfl) (by rw [hLi]; decide)⟩ (J.alloc J.size _) (fun j c _ _ _ q => qz4f 12 (by decide) (by decide) ((Q6s _ _).alloc (Q6v _) _) j c q))
   generalize a.eval = ev at *
   go_simp
  | 13, ho =>
   obtain rfl := Q6p ho
   obtain ⟨-, q, eQ, hq, BQ, -⟩ := (show L 12 = true /\ ∃ q, a.eval (.tmp 16) = .pointer (some ⟨q, 0, none⟩) /\ Q6y <= q /\ Blk V q 30 5 /\ (L 13 = true -> ∃ s g n r, V.rangeAt q 0 Q2t /\ qz1t Q6y V s g n r RR.1) from hd ⟨12, .data⟩ (by simp) rfl 16 rfl)
   obtain ⟨-, s, g, n, r, e1, O⟩ := (show L 10 = true /\ ∃ s g n r, a.eval (.tmp 34) = .agg Q1t /\ qz1t Q6y V s g n r RR.1 from hd ⟨10, .data⟩ (by simp) rfl 34 rfl)
   obtain ⟨s0, t0, rfl⟩ := qzf O.rs
   obtain ⟨s1, t1, rfl⟩ := qzf O.rg
   obtain ⟨s2, t2, rfl⟩ := qzf O.rn
   obtain ⟨s3, t3, rfl⟩ := qzf O.rr
   refine wp_store_mid 30 (.tmp 16) (.tmp 34) rfl q 0 #[.int .i64 Q6w, .slice s0 RR.1.slots.length t0, .slice s1 RR.1.guides.length t1, .slice s2 RR.1.nodes.length t2, .slice s3 RR.1.vers.length t3] eQ e1 (BQ.there 0 5 (by decide)) qzf8 (by simp [Value.oneCell']) ?_
   refine hK _ _ trivial (Below.setCells hq _ _ _ J) (fun j c hj hjL he g' => qzhc BQ O j c hjL (fun e12 => by subst e12; exact (he 16 rfl).symm.trans eQ) g')
  | 14, ho =>
   obtain rfl := Q6p ho
   have e1 : a.eval (.tmp 35) = .int .i64 RR.2 := (hd ⟨11, .data⟩ (by simp) rfl 35 rfl).2
   refine qz1 (v := .int .i64 RR.2) (w' := V) ?_ (hK _ _ rfl J (fun j c _ _ _ q => qz4f 14 (by decide) (by decide) (Q6s _ _) j c q))
   generalize a.eval = ev at *
   go_simp
  | n + 15, ho => omega
 case final =>
  intro L vs V hLall J hG
  obtain ⟨q, g1, hq, BQ, hS⟩ := (show ∃ q, vs 12 = .pointer (some ⟨q, 0, none⟩) /\ Q6y <= q /\ Blk V q 30 5 /\ (L 13 = true -> ∃ s g n r, V.rangeAt q 0 Q2t /\ qz1t Q6y V s g n r RR.1) from hG 12 (by decide))
  obtain ⟨s, g, n, r, Q1, O1⟩ := hS (hLall 13 (by decide))
  have g2 : vs 14 = .int .i64 RR.2 := hG 14 (by decide)
  generalize hl : laid _ vs _ _ _ = A'
  have hA' : A' = { tmps := #[.agg Q06, .agg Q02, .int .i64 node, .int .i64 v, .int .i64 nx, .bool go, .int .i64 kd, .pointer (some ⟨Q6o, 0, none⟩), .pointer (some ⟨Q6o + 1, 0, none⟩), undef, undef, undef, undef, undef, .pointer (some ⟨Q6o + 1 + 1, 0, none⟩), .int .i64 0, vs 12, vs 14, .agg Q06, .agg Q02, .int .i64 node, .bool true, .bool false, undef, vs 9, vs 0, vs 1, vs 2, vs 3, vs 4, vs 5, vs 6, vs 7, vs 8, vs 10, vs 11, undef, undef, undef, undef, undef, undef, undef, undef], defers := [] } := by
   rw [<- hl]
   kernel_rfl
  subst hA'
  rw [g1, g2]
  clear hl hG g1 g2 hS
  simp only [List.drop_succ_cons, List.drop_zero]
  obtain ⟨s0, t0, rfl⟩ := qzf O1.rs
  obtain ⟨s1, t1, rfl⟩ := qzf O1.rg
  obtain ⟨s2, t2, rfl⟩ := qzf O1.rn
  obtain ⟨s3, t3, rfl⟩ := qzf O1.rr
  have P2 := qz0 P1 J (by omega)
  have X2 := qz0 X1 J (by omega)
  have F2 := qz5 F1 J (by omega)
  have K2 := K1.trans (J.mono (by omega))
  have I2 := I1.below (J.mono hB1)
  have hz2 := J.size
  have lq := BQ.lt
  clear P1 X1 F1 K1 I1 BQ
  rw [<- hcam] at Q1
  clear J hcam
  obtain ⟨A9, nv⟩ := RR
  dsimp only at Q1 O1 hsz ⊢
  obtain ⟨q0, q1, q2, q3, q4⟩ := row5 Q1
  obtain ⟨y0, y1, y2, y3⟩ : V.cell? ⟨Q6o, 0, none⟩ = some (.int .i64 x) /\ V.cell? ⟨Q6o, 1, none⟩ = some (.int .i64 y) /\ V.cell? ⟨Q6o, 2, none⟩ = some (.int .i64 z) /\ V.cell? ⟨Q6o, 3, none⟩ = some (.int .i64 u) := ⟨by simpa using P2 0 _ rfl, by simpa using P2 1 _ rfl, by simpa using P2 2 _ rfl, by simpa using P2 3 _ rfl⟩
  go_wp2_with fail
  refine (qz35 V.heap.size A9 x y z u s0 s1 s2 s3 t0 t1 t2 t3 V (Q6v _) hsz O1.is).mono ?_
  rintro e w3 ⟨rfl, b3⟩
  have X3 := qz0 X2 b3 (by omega)
  have F3 := qz5 F2 b3 (by omega)
  have K3 := K2.trans (b3.mono (by omega))
  have I3 := I2.below (b3.mono (by omega))
  have Q3 := qz0 Q1 b3 (by omega)
  have O3 := O1.below b3
  have hs3 := b3.size
  clear P2 X2 F2 K2 I2 Q1 O1 b3 q0 q1 q2 q3 q4 y0 y1 y2 y3
  cases ek : qz10 x y z u A9
  case false =>
   have hr : Hid (qz3z x y z u A node v nx go kd = (A, -2)) := by show _ = _; simp [qz3z, eh'.out, hRR.out, ek]
   clear ek
   obtain ⟨x0, x1, x2, x3, x4⟩ := row5 X3
   go_wp2_with fail
   refine (qz5p B A a0 a1 a2 a3 c0 c1 c2 c3 w3 (by omega) hA' I3 ps pg pn pv).mono ?_
   rintro e w4 ⟨s', g', n', r', rfl, O4, b4⟩
   have F4 := qz5 F3 b4 (by omega)
   have K4 := K3.trans (b4.mono (by omega))
   have hs4 := b4.size
   obtain ⟨d0, f0, rfl⟩ := qzf O4.rs
   obtain ⟨d1, f1, rfl⟩ := qzf O4.rg
   obtain ⟨d2, f2, rfl⟩ := qzf O4.rn
   obtain ⟨d3, f3, rfl⟩ := qzf O4.rr
   clear F3 K3 I3 Q3 O3 X3 x0 x1 x2 x3 x4 b4
   go_wp2_with (refine wpList_store_mid rfl 30 (.tmp 14) (.tmp 41) rfl (w.heap.size + 1 + 1) 0 Q5t ?hx2 ?hy2 ?ht2 (by exact qz1n) (by simp [Value.oneCell']) ?_)
   try (case hx2 => rfl)
   try (case hy2 => rfl)
   try (case ht2 => exact F4)
   refine bodyPost_ret (v := .tuple #[.agg Q5t, .int .i64 (-2)]) ?_ rfl (by rw [hr.out]; exact qzb1.of rfl ((O4.only (qze _ _ _ _) (by omega)).lo (by omega)) (Below.setCells (by omega) _ _ _ K4))
   exact qzl Tryz.results8 _ _ (Q6o + 1 + 1) 0 rfl [.int .i64 Q6w, .slice d0 Q74 f0, .slice d1 Q75 f1, .slice d2 Q6q f2, .slice d3 Q6r f3] _ (Q6u _ _ _ _ F4) Q7g rfl qz1n
  have hr : Hid (qz3z x y z u A node v nx go kd = (A9, nv)) := by show _ = _; simp [qz3z, eh'.out, hRR.out, ek]
  clear ek
  obtain ⟨q0, q1, q2, q3, q4⟩ := row5 Q3
  go_wp2_with (refine wpList_store_mid rfl 30 (.tmp 14) (.tmp 42) rfl (w.heap.size + 1 + 1) 0 Q5m ?hx3 ?hy3 ?ht3 (by exact qz1n) (by simp [Value.oneCell']) ?_)
  try (case hx3 => rfl)
  try (case hy3 => rfl)
  try (case ht3 => exact F3)
  refine bodyPost_ret (v := .tuple #[.agg Q5m, .int .i64 nv]) ?_ rfl (by rw [hr.out]; exact qzb1.of rfl ((O3.only (qze _ _ _ _) (by omega)).lo (by omega)) (Below.setCells (by omega) _ _ _ K3))
  exact qzl Tryz.results8 _ _ (Q6o + 1 + 1) 0 rfl [.int .i64 A9.camera, .slice s0 A9.slots.length t0, .slice s1 A9.guides.length t1, .slice s2 A9.nodes.length t2, .slice s3 A9.vers.length t3] _ (Q6u _ _ _ _ F3) Q7g rfl qz1n
theorem qzad {x y z u : Int} {A : Ar} (h : qz10 x y z u A = true) (k : Nat) (hk : k < Q6q) (hz : (Q6r : Int) < z) (V : Vr) :
  qz10 x y z u { A with vers := A.vers ++ [V], nodes := A.nodes.set k { A.nodes[k] with head := (Q6r : Int) } } = verB Q6q Q6w Q6r V := by
 obtain ⟨h1, h2, h3, h4, h5⟩ := qz1r h
 have n4 := (qz1k _ _).1 h4
 have n5 := (qz1k _ _).1 h5
 cases hv : verB Q6q Q6w Q6r V
 ·have : qz2l (verB (A.nodes.set k { A.nodes[k] with head := (Q6r : Int) }).length Q6w) (A.vers ++ [V]) = false := qz3t (i := Q6r) (by simp) (by simpa using hv)
  simp only [qz10, this, Bool.and_false]
 ·have g4 : qz2l (qz46 (A.vers ++ [V]).length) (A.nodes.set k { A.nodes[k] with head := (Q6r : Int) }) = true := by
   refine (qz1k _ _).2 fun i hi => ?_
   have hi' : i < Q6q := by simpa using hi
   have q := n4 i hi'
   rw [List.getElem_set]
   by_cases e : k = i
   ·subst e
    rw [if_pos rfl]
    simp only [qz46, qz13, List.length_append, List.length_singleton] at q ⊢
    split at q <;> rename_i e0 <;> (first | rw [if_pos e0] | rw [if_neg e0]) <;> simp only [Bool.and_eq_true, qz13] at q ⊢ <;> (refine ⟨q.1, ?_⟩; omega)
   ·rw [if_neg e]
    simp only [qz46, qz13, List.length_append, List.length_singleton] at q ⊢
    split at q <;> rename_i e0 <;> (first | rw [if_pos e0] | rw [if_neg e0]) <;> simp only [Bool.and_eq_true, qz13] at q ⊢ <;> (refine ⟨q.1, ?_⟩; omega)
  have g5 : qz2l (verB (A.nodes.set k { A.nodes[k] with head := (Q6r : Int) }).length Q6w) (A.vers ++ [V]) = true := by
   refine (qz1k _ _).2 fun i hi => ?_
   rw [List.length_set]
   by_cases e : i < Q6r
   ·rw [List.getElem_append_left e]; exact n5 i e
   ·have : i = Q6r := by simp at hi; omega
    subst this
    simpa using hv
  have g1 : qz6r x y z u { A with vers := A.vers ++ [V], nodes := A.nodes.set k { A.nodes[k] with head := (Q6r : Int) } } = true := by
   simp only [qz6r, Bool.and_eq_true, qz13, List.length_set, List.length_append, List.length_singleton] at h1 ⊢
   refine ⟨⟨h1.1.1, h1.1.2⟩, ?_⟩
   omega
  rw [List.length_set] at g5
  simp only [qz10, g1, g4, h2, List.length_set, h3, g5, Bool.and_self]
theorem qzay (x y z u : Int) (A : Ar) (node v nx : Int) (go : Bool) (kd : Int) : qz3z x y z u A node v nx go kd = qz3n x y z u A node v nx go kd := by
 unfold qz3z qz3n
 by_cases h : hasB x y z u A node = true
 case neg => rw [if_neg h, if_neg h]
 rw [if_pos h, if_pos h]
 obtain ⟨hok, hn0, hn1, -⟩ := qz9r h
 obtain ⟨k, rfl⟩ : ∃ k : Nat, node = k := ⟨node.toNat, by omega⟩
 have hk : k < Q6q := by omega
 by_cases hfull : z <= (Q6r : Int)
 ·have hc : qz5a z A (k : Int) ⟨nx, go, -1, v, kd⟩ = 0 := by simp [qz5a, hfull]
  have hs : qz14 z A (k : Int) v nx go kd = (A, -2) := by simp [qz14, hfull]
  rw [hc, hs]
  simp [hok, qzar, qzek]
 by_cases hh : (ndOf A (k : Int)).head = v
 case neg =>
  have hc : qz5a z A (k : Int) ⟨nx, go, -1, v, kd⟩ = 1 := by simp [qz5a, hfull, hh]
  have hs : qz14 z A (k : Int) v nx go kd = (A, -1) := by simp [qz14, hfull, hh]
  rw [hc, hs]
  simp [hok, qzar, qzek]
 have hs : qz14 z A (k : Int) v nx go kd = ({ A with vers := A.vers ++ [⟨nx, go, -1, v, kd⟩], nodes := A.nodes.set k { A.nodes[k] with head := (Q6r : Int) } }, (Q6r : Int)) := by
  have hh' : A.nodes[k].head = v := by rw [<- qz1l A k hk]; exact hh
  simp [qz14, hfull, hh', qz1l A k hk]
 rw [hs]
 dsimp only
 rw [qzad hok k hk (by omega) ⟨nx, go, -1, v, kd⟩, <- qzf7]
 cases hv : verR Q6q Q6w (Q6r : Int) ⟨nx, go, -1, v, kd⟩
 ·have hc : qz5a z A (k : Int) ⟨nx, go, -1, v, kd⟩ = 2 := by simp [qz5a, hfull, hh, hv]
  rw [hc]
  simp [qzar, qzek]
 ·have hc : qz5a z A (k : Int) ⟨nx, go, -1, v, kd⟩ = 3 := by simp [qz5a, hfull, hh, hv]
  rw [hc]
  simp [qzar, qzek, qzgk, qz1l A k hk]
theorem qz9n (x y z u : Int) (A : Ar) (node v nx : Int) (go : Bool) (kd : Int) : (qz3n x y z u A node v nx go kd).1.size <= 1048576 := by
 unfold qz3n
 by_cases h : hasB x y z u A node = true
 ·rw [if_pos h]
  have := (qzb3 (qz9r h).1).1
  have := qza0 A node ⟨nx, go, -1, v, kd⟩ Q4c
  dsimp only
  omega
 ·rw [if_neg h]
  decide
theorem qz6o (B : Nat) (A : Ar) (x y z u : Int) (node v nx : Int) (go : Bool) (kd : Int) (a0 a1 a2 a3 : Option Addr) (c0 c1 c2 c3 : Nat) (w : World) (hB : B <= Q6o) (hA : A.size <= 1048576) (I : qz1j B w Q0x Q0w Q0t Q11 A) :
  Calls Tryz.prog 8 Q4z w (qzb1 w (qz3n x y z u A node v nx go kd)) := by
 rw [<- qzay]
 exact qz7k B A x y z u node v nx go kd a0 a1 a2 a3 c0 c1 c2 c3 w hB hA I
end
end Go.Proofs.YthjkdnlmopafkaaGreatDoor
