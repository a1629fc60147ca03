/-
  What the law's proof goes by, part 15.
-/
import Derived.Deep.Cut
import Derived.Test.YtlfjhcdjgoeafaaDoorSwapped00
import Derived.Test.YtlfjhcdjgoeafaaDoorSwapped08
import Derived.Test.YtlfjhcdjgoeafaaDoorSwapped11
import Derived.Test.YtlfjhcdjgoeafaaDoorSwapped13
namespace Go.Proofs.YtlfjhcdjgoeafaaDoor
open Go.ChangeShapes Go.WideShapes Go.ChangeAt Go.RowKit
set_option maxRecDepth 100000
set_option maxHeartbeats 16000000
set_option linter.unusedVariables false
set_option linter.unusedSimpArgs false
set_option linter.unnecessarySimpa false
set_option linter.unusedSectionVars false
section
attribute [local go_sem ↓] Go.wp_at_zero Go.wp_at_succ
def qz1b (x y z u : Int) (A : Ar) (node v nx : Int) (go : Bool) (kd : Int) : Ar × Int :=
 if hasB x y z u A node = true then (if qzi x y z u (qz1k z A node v nx go kd).1 = true then qz1k z A node v nx go kd else (A, -2)) else (⟨0, [], [], [], []⟩, -2)
def qz5v (w : World) (R : Ar × Int) (e : Ending) (w' : World) : Prop := ∃ s g n r, e = .returned (.tuple #[.agg #[.int .i64 R.1.camera, s, g, n, r], .int .i64 R.2]) /\ qz19 w.heap.size w' s g n r R.1 /\ Below w.heap.size w w'
theorem qz5v.of {w w' : World} {A : Ar} {k : Int} {e : Ending} {s g n r : Value} (h1 : e = .returned (.tuple #[.agg #[.int .i64 A.camera, s, g, n, r], .int .i64 k])) (h2 : qz19 w.heap.size w' s g n r A) (h3 : Below w.heap.size w w') : qz5v w (A, k) e w' := ⟨s, g, n, r, h1, h2, h3⟩
theorem qz55 (z : Int) (A : Ar) (node v nx : Int) (go : Bool) (kd : Int) : (qz1k z A node v nx go kd).1.camera = A.camera := by
 unfold qz1k
 repeat' split
 all_goals rfl
theorem qz6m (z : Int) (A : Ar) (node v nx : Int) (go : Bool) (kd : Int) : (qz1k z A node v nx go kd).1.size <= A.size + 1 := by
 unfold qz1k
 repeat' split
 all_goals (simp [Ar.size]; try omega)
def swG (lo : Nat) (x y z u : Int) (A : Ar) (a0 a1 a2 a3 : Option Addr) (c0 c1 c2 c3 : Nat) (node v nx : Int) (go : Bool) (kd : Int) (R : Ar × Int) (L : Nat -> Bool) : Nat -> Value -> World -> Prop
 | 0, c, _ => c = .agg #[.int .i64 x, .int .i64 y, .int .i64 z, .int .i64 u]
 | 1, c, _ => c = .agg #[.int .i64 A.camera, .slice a0 A.slots.length c0, .slice a1 A.guides.length c1, .slice a2 A.nodes.length c2, .slice a3 A.vers.length c3]
 | 2, c, w => ∃ s g n r, c = .agg #[.int .i64 A.camera, s, g, n, r] /\ (L 8 = false -> qz19 lo w s g n r A)
 | 3, c, _ => c = .int .i64 node
 | 4, c, _ => c = .int .i64 v
 | 5, c, _ => c = .int .i64 nx
 | 6, c, _ => c = .bool go
 | 7, c, _ => c = .int .i64 kd
 | 8, c, w => ∃ s g n r, c = .tuple #[.agg #[.int .i64 A.camera, s, g, n, r], .int .i64 R.2] /\ qz19 lo w s g n r R.1
 | 9, c, w => ∃ s g n r, c = .tuple #[.agg #[.int .i64 A.camera, s, g, n, r], .int .i64 R.2] /\ qz19 lo w s g n r R.1
 | 10, c, w => ∃ s g n r, c = .agg #[.int .i64 A.camera, s, g, n, r] /\ qz19 lo w s g n r R.1
 | 11, c, _ => c = .int .i64 R.2
 | 12, c, w => ∃ q, c = .pointer (some ⟨q, 0, none⟩) /\ lo <= q /\ Blk w q 33 5 /\ (L 13 = true -> ∃ s g n r, w.rangeAt q 0 [.int .i64 A.camera, s, g, n, r] /\ qz19 lo w s g n r R.1)
 | 14, c, _ => c = .int .i64 R.2
 | _, _, _ => True
theorem qz24 {L : Nat -> Bool} {i m : Nat} (h : m ≠ i) : onAt L i m = L m := by simp [onAt, h]
theorem qz1q {lo : Nat} {x y z u : Int} {A : Ar} {a0 a1 a2 a3 : Option Addr} {c0 c1 c2 c3 : Nat} {node v nx : Int} {go : Bool} {kd : Int} {R : Ar × Int} {L : Nat -> Bool} {w w' : World} (i : Nat) (h8 : i ≠ 8) (h13 : i ≠ 13) (hb : Below w.heap.size w w') (j : Nat) (c : Value) (hq : swG lo x y z u A a0 a1 a2 a3 c0 c1 c2 c3 node v nx go kd R L j c w) : swG lo x y z u A a0 a1 a2 a3 c0 c1 c2 c3 node v nx go kd R (onAt L i) j c w' := by
 match j, hq with
 | 0, h | 1, h | 3, h | 4, h | 5, h | 6, h | 7, h | 11, h | 14, h => exact h
 | 2, h =>
  obtain ⟨s, g, n, r, e, O⟩ := h
  exact ⟨s, g, n, r, e, fun q => (O (by rw [qz24 (Ne.symm h8)] at q; exact q)).below hb⟩
 | 8, h | 9, h | 10, h =>
  obtain ⟨s, g, n, r, e, O⟩ := h
  exact ⟨s, g, n, r, e, O.below hb⟩
 | 12, h =>
  obtain ⟨q, e, hl, B, O⟩ := h
  refine ⟨q, e, hl, B.grown hb, fun p => ?_⟩
  obtain ⟨s, g, n, r, R, O⟩ := O (by rw [qz24 (Ne.symm h13)] at p; exact p)
  exact ⟨s, g, n, r, qz0 R hb B.lt, O.below hb⟩
 | 13, h | n + 15, h => exact trivial
theorem qzaj {lo : Nat} {x y z u : Int} {A : Ar} {a0 a1 a2 a3 : Option Addr} {c0 c1 c2 c3 : Nat} {node v nx : Int} {go : Bool} {kd : Int} {R : Ar × Int} {L : Nat -> Bool} {w w' : World} {s g n r : Value} (O0 : qz19 lo w s g n r A) (hb : But (OwnB s g n r) w w') (h9 : L 9 = false) (h10 : L 10 = false) (h13 : L 13 = false) (j : Nat) (c : Value) (h8 : j ≠ 8) (hL : L j = true) (hq : swG lo x y z u A a0 a1 a2 a3 c0 c1 c2 c3 node v nx go kd R L j c w) : swG lo x y z u A a0 a1 a2 a3 c0 c1 c2 c3 node v nx go kd R (onAt L 8) j c w' := by
 match j, hq with
 | 0, h | 1, h | 3, h | 4, h | 5, h | 6, h | 7, h | 11, h | 14, h => exact h
 | 2, h =>
  obtain ⟨s, g, n, r, e, O⟩ := h
  exact ⟨s, g, n, r, e, fun q => by simp [onAt] at q⟩
 | 8, h => exact absurd rfl h8
 | 9, h => rw [h9] at hL; cases hL
 | 10, h => rw [h10] at hL; cases hL
 | 12, h =>
  obtain ⟨q, e, hl, B, O⟩ := h
  refine ⟨q, e, hl, B.but hb ?_, fun p => by rw [qz24 (by decide), h13] at p; cases p⟩
  rintro (h | h | h | h)
  ·obtain ⟨m, -, hm⟩ := qz26 O0.rs h
   exact (hm.ne B (by decide)) rfl
  ·obtain ⟨m, -, hm⟩ := qz26 O0.rg h
   exact (hm.ne B (by decide)) rfl
  ·obtain ⟨m, -, hm⟩ := qz26 O0.rn h
   exact (hm.ne B (by decide)) rfl
  ·obtain ⟨m, -, hm⟩ := qz26 O0.rr h
   exact (hm.ne B (by decide)) rfl
 | 13, h | n + 15, h => exact trivial
theorem qza1 {lo : Nat} {x y z u : Int} {A : Ar} {a0 a1 a2 a3 : Option Addr} {c0 c1 c2 c3 : Nat} {node v nx : Int} {go : Bool} {kd : Int} {R : Ar × Int} {L : Nat -> Bool} {w : World} {q : Nat} {s g n r : Value} (B0 : Blk w q 33 5) (O0 : qz19 lo w s g n r R.1) (j : Nat) (c : Value) (hL : L j = true) (h12 : j = 12 -> c = .pointer (some ⟨q, 0, none⟩)) (hq : swG lo x y z u A a0 a1 a2 a3 c0 c1 c2 c3 node v nx go kd R L j c w) : swG lo x y z u A a0 a1 a2 a3 c0 c1 c2 c3 node v nx go kd R (onAt L 13) j c (w.setCells q 0 [.int .i64 A.camera, s, g, n, r]) := by
 have k := qz4 q [.int .i64 A.camera, s, g, n, r] 0 w
 match j, hq with
 | 0, h | 1, h | 3, h | 4, h | 5, h | 6, h | 7, h | 11, h | 14, h => exact h
 | 2, h =>
  obtain ⟨s, g, n, r, e, O⟩ := h
  exact ⟨s, g, n, r, e, fun q => (O (by rw [qz24 (by decide)] at q; exact q)).aside B0 (by decide) (by decide) (by decide) k⟩
 | 8, h | 9, h | 10, h =>
  obtain ⟨s, g, n, r, e, O⟩ := h
  exact ⟨s, g, n, r, e, O.aside B0 (by decide) (by decide) (by decide) k⟩
 | 12, h =>
  obtain rfl := h12 rfl
  obtain ⟨q', e, hl, B, O⟩ := h
  cases e
  exact ⟨_, rfl, hl, B.setCells _ _ _, fun _ => ⟨s, g, n, r, World.rangeAt_setCells_same _ _ _ _ (B0.there 0 5 (by decide)), O0.aside B0 (by decide) (by decide) (by decide) k⟩⟩
 | 13, h | n + 15, h => exact trivial
theorem qza0 : (Tryd.prog.info? 36).map (fun i => i.size) = some 4 := by kernel_rfl
theorem qz1n : (Tryd.prog.info? 33).map (fun i => i.size) = some 5 := by kernel_rfl
theorem qz3w (B : Nat) (A : Ar) (x y z u : Int) (node v nx : Int) (go : Bool) (kd : Int) (a0 a1 a2 a3 : Option Addr) (c0 c1 c2 c3 : Nat) (w : World) (hB : B <= w.heap.size) (hA : A.size <= 1048576) (I : qzd B w (.slice a0 A.slots.length c0) (.slice a1 A.guides.length c1) (.slice a2 A.nodes.length c2) (.slice a3 A.vers.length c3) A) :
  Calls Tryd.prog 6 #[.agg #[.int .i64 x, .int .i64 y, .int .i64 z, .int .i64 u], .agg #[.int .i64 A.camera, .slice a0 A.slots.length c0, .slice a1 A.guides.length c1, .slice a2 A.nodes.length c2, .slice a3 A.vers.length c3], .int .i64 node, .int .i64 v, .int .i64 nx, .bool go, .int .i64 kd] w (qz5v w (qz1b x y z u A node v nx go kd)) := by
 have hA' := hA
 unfold Ar.size at hA
 have P0 := World.rangeAt_alloc (World.rangeAt_alloc (qz6 w [.int .i64 x, .int .i64 y, .int .i64 z, .int .i64 u] 36) (.cells #[.int .i64 A.camera, .slice a0 A.slots.length c0, .slice a1 A.guides.length c1, .slice a2 A.nodes.length c2, .slice a3 A.vers.length c3] 33)) (.cells #[.int .i64 0, .slice none 0 0, .slice none 0 0, .slice none 0 0, .slice none 0 0] 33)
 have X0 := World.rangeAt_alloc (qz6 (w.alloc (.cells #[.int .i64 x, .int .i64 y, .int .i64 z, .int .i64 u] 36)) [.int .i64 A.camera, .slice a0 A.slots.length c0, .slice a1 A.guides.length c1, .slice a2 A.nodes.length c2, .slice a3 A.vers.length c3] 33) (.cells #[.int .i64 0, .slice none 0 0, .slice none 0 0, .slice none 0 0, .slice none 0 0] 33)
 have F0 := qzv ((w.alloc (.cells #[.int .i64 x, .int .i64 y, .int .i64 z, .int .i64 u] 36)).alloc (.cells #[.int .i64 A.camera, .slice a0 A.slots.length c0, .slice a1 A.guides.length c1, .slice a2 A.nodes.length c2, .slice a3 A.vers.length c3] 33)) #[.int .i64 0, .slice none 0 0, .slice none 0 0, .slice none 0 0, .slice none 0 0] 33 5 (by decide)
 have K0 := (((Below.refl w.heap.size w).alloc (Nat.le_refl _) (.cells #[.int .i64 x, .int .i64 y, .int .i64 z, .int .i64 u] 36)).alloc (by simp) (.cells #[.int .i64 A.camera, .slice a0 A.slots.length c0, .slice a1 A.guides.length c1, .slice a2 A.nodes.length c2, .slice a3 A.vers.length c3] 33)).alloc (by simp; omega) (.cells #[.int .i64 0, .slice none 0 0, .slice none 0 0, .slice none 0 0, .slice none 0 0] 33)
 have hz0 : w.heap.size + 1 + 1 < (((w.alloc (.cells #[.int .i64 x, .int .i64 y, .int .i64 z, .int .i64 u] 36)).alloc (.cells #[.int .i64 A.camera, .slice a0 A.slots.length c0, .slice a1 A.guides.length c1, .slice a2 A.nodes.length c2, .slice a3 A.vers.length c3] 33)).alloc (.cells #[.int .i64 0, .slice none 0 0, .slice none 0 0, .slice none 0 0, .slice none 0 0] 33)).heap.size := by simp
 simp only [World.size_alloc] at X0 F0
 have I0 := I.below (K0.mono hB)
 go_enter Tryd.func6, Tryd.ntmps6
 go_upto_region 1 with fail
 generalize hw0 : ((w.alloc (.cells #[.int .i64 x, .int .i64 y, .int .i64 z, .int .i64 u] 36)).alloc (.cells #[.int .i64 A.camera, .slice a0 A.slots.length c0, .slice a1 A.guides.length c1, .slice a2 A.nodes.length c2, .slice a3 A.vers.length c3] 33)).alloc (.cells #[.int .i64 0, .slice none 0 0, .slice none 0 0, .slice none 0 0, .slice none 0 0] 33) = w0 at *
 clear hw0 I
 have hB0 : B <= w0.heap.size := Nat.le_trans hB K0.size
 obtain ⟨x0, x1, x2, x3, x4⟩ := row5 X0
 obtain ⟨y0, y1, y2, y3⟩ : w0.cell? ⟨w.heap.size, 0, none⟩ = some (.int .i64 x) /\ w0.cell? ⟨w.heap.size, 1, none⟩ = some (.int .i64 y) /\ w0.cell? ⟨w.heap.size, 2, none⟩ = some (.int .i64 z) /\ w0.cell? ⟨w.heap.size, 3, none⟩ = some (.int .i64 u) := ⟨by simpa using P0 0 _ rfl, by simpa using P0 1 _ rfl, by simpa using P0 2 _ rfl, by simpa using P0 3 _ rfl⟩
 go_wp2_with fail
 refine (qz87 B A x y z u node a0 a1 a2 a3 c0 c1 c2 c3 w0 hB0 hA' I0).mono ?_
 rintro e w1 ⟨rfl, b0⟩
 have P1 := qz0 P0 b0 (by omega)
 have X1 := qz0 X0 b0 (by omega)
 have F1 := qz3 F0 b0 (by omega)
 have K1 := K0.trans (b0.mono (by omega))
 have I1 := I0.below (b0.mono hB0)
 have hz1 := Nat.lt_of_lt_of_le hz0 b0.size
 have hB1 := Nat.le_trans hB0 b0.size
 clear P0 X0 F0 K0 I0 hz0 hB0 b0 x0 x1 x2 x3 x4 y0 y1 y2 y3
 cases eh : hasB x y z u A node
 case false =>
  have hr : Hid (qz1b x y z u A node v nx go kd = (⟨0, [], [], [], []⟩, -2)) := by show _ = _; simp [qz1b, eh]
  clear eh
  go_wp2_with (refine wpList_store_mid rfl 33 (.tmp 14) (.tmp 23) rfl (w.heap.size + 1 + 1) 0 #[.int .i64 0, .slice none 0 0, .slice none 0 0, .slice none 0 0, .slice none 0 0] ?hx1 ?hy1 ?ht1 (by exact qzf) (by simp [Value.oneCell']) ?_)
  try (case hx1 => rfl)
  try (case hy1 => rfl)
  try (case ht1 => exact F1)
  refine bodyPost_ret (v := .tuple #[.agg #[.int .i64 0, .slice none 0 0, .slice none 0 0, .slice none 0 0, .slice none 0 0], .int .i64 (-2)]) ?_ rfl (by rw [hr.out]; exact qz5v.of rfl (qz80 _ _) (Below.setCells (by omega) _ _ _ K1))
  exact qzh Tryd.results6 _ _ (w.heap.size + 1 + 1) 0 rfl [.int .i64 0, .slice none 0 0, .slice none 0 0, .slice none 0 0, .slice none 0 0] _ (World.rangeAt_setCells_same _ _ _ _ F1) Tryd.underlying33 rfl qzf
 obtain ⟨hOk, hn0, hn1, -⟩ := qz6f eh
 obtain ⟨ps, pg, pn, pv⟩ := qz7x hOk
 have hsm := (qz5x hOk).1
 have hOk : Hid (qzi x y z u A = true) := hOk
 have eh' : Hid (hasB x y z u A node = true) := eh
 clear eh
 obtain ⟨RR, hRR⟩ : ∃ q, Hid (qz1k z A node v nx go kd = q) := ⟨_, (rfl : qz1k z A node v nx go kd = _)⟩
 have hcam : RR.1.camera = A.camera := by rw [<- hRR.out]; exact qz55 z A node v nx go kd
 have hsz : RR.1.size <= 1048576 := by have := qz6m z A node v nx go kd; rw [hRR.out] at this; omega
 go_wp2_with fail
 refine qz73 15 (by kernel_rfl) (fun _ V => Below w1.heap.size w1 V) ((Below.refl _ _).drew) (swG w1.heap.size x y z u A a0 a1 a2 a3 c0 c1 c2 c3 node v nx go kd RR) (by kernel_rfl) (by kernel_rfl) (by kernel_rfl) (by kernel_rfl) (by rfl) ?step ?final
 case step =>
  intro i o hik ho L a V hLi hLk hcl J hn hd K hK
  have PW := qz0 P1 J (by omega)
  have XW := qz0 X1 J (by omega)
  match i, ho with
  | 0, ho =>
   obtain rfl := Option.some.inj ho
   exact qz2o 36 (.tmp 7) rfl (w.heap.size) 0 (hn 7 rfl) [.int .i64 x, .int .i64 y, .int .i64 z, .int .i64 u] _ PW Tryd.underlying36 rfl qza0 (hK _ _ rfl J (fun j c _ _ _ q => qz1q 0 (by decide) (by decide) (Below.refl _ _) j c q))
  | 1, ho =>
   obtain rfl := Option.some.inj ho
   exact qz2o 33 (.tmp 8) rfl (w.heap.size + 1) 0 (hn 8 rfl) [.int .i64 A.camera, .slice a0 A.slots.length c0, .slice a1 A.guides.length c1, .slice a2 A.nodes.length c2, .slice a3 A.vers.length c3] _ XW Tryd.underlying33 rfl qz1n (hK _ _ rfl J (fun j c _ _ _ q => qz1q 1 (by decide) (by decide) (Below.refl _ _) j c q))
  | 2, ho =>
   obtain rfl := Option.some.inj ho
   have e1 : a.eval (.tmp 26) = .agg #[.int .i64 A.camera, .slice a0 A.slots.length c0, .slice a1 A.guides.length c1, .slice a2 A.nodes.length c2, .slice a3 A.vers.length c3] := (hd ⟨1, .data⟩ (by simp) rfl 26 rfl).2
   have ef : a.eval (.func 20) = .func (.func 20) #[] #[] := rfl
   refine qzm (f := 20) (args := #[.agg #[.int .i64 A.camera, .slice a0 A.slots.length c0, .slice a1 A.guides.length c1, .slice a2 A.nodes.length c2, .slice a3 A.vers.length c3]]) (R := fun c w' => (∃ s g n r, c = .agg #[.int .i64 A.camera, s, g, n, r] /\ qz19 V.heap.size w' s g n r A) /\ Below V.heap.size V w') ?_ ((qz5f B A a0 a1 a2 a3 c0 c1 c2 c3 V (Nat.le_trans hB1 J.size) hA' (I1.below (J.mono hB1)) ps pg pn pv).mono (fun e w' h => by obtain ⟨s, g, n, r, e1, O, bO⟩ := h; exact ⟨_, e1, ⟨s, g, n, r, rfl, O⟩, bO⟩)) (fun c w' h => hK c w' (by obtain ⟨s, g, n, r, e, O⟩ := h.1; exact ⟨s, g, n, r, e, fun _ => O.lo J.size⟩) (J.trans (h.2.mono J.size)) (fun j c _ _ _ q => qz1q 2 (by decide) (by decide) h.2 j c q))
   generalize a.eval = ev at *
   go_simp
  | 3, ho =>
   obtain rfl := Option.some.inj ho
   have e1 : a.eval (.tmp 2) = .int .i64 node := hn 2 rfl
   refine qz2 (v := .int .i64 node) (w' := V) ?_ (hK _ _ rfl J (fun j c _ _ _ q => qz1q 3 (by decide) (by decide) (Below.refl _ _) j c q))
   generalize a.eval = ev at *
   go_simp
  | 4, ho =>
   obtain rfl := Option.some.inj ho
   have e1 : a.eval (.tmp 3) = .int .i64 v := hn 3 rfl
   refine qz2 (v := .int .i64 v) (w' := V) ?_ (hK _ _ rfl J (fun j c _ _ _ q => qz1q 4 (by decide) (by decide) (Below.refl _ _) j c q))
   generalize a.eval = ev at *
   go_simp
  | 5, ho =>
   obtain rfl := Option.some.inj ho
   have e1 : a.eval (.tmp 4) = .int .i64 nx := hn 4 rfl
   refine qz2 (v := .int .i64 nx) (w' := V) ?_ (hK _ _ rfl J (fun j c _ _ _ q => qz1q 5 (by decide) (by decide) (Below.refl _ _) j c q))
   generalize a.eval = ev at *
   go_simp
  | 6, ho =>
   obtain rfl := Option.some.inj ho
   have e1 : a.eval (.tmp 5) = .bool go := hn 5 rfl
   refine qz2 (v := .bool go) (w' := V) ?_ (hK _ _ rfl J (fun j c _ _ _ q => qz1q 6 (by decide) (by decide) (Below.refl _ _) j c q))
   generalize a.eval = ev at *
   go_simp
  | 7, ho =>
   obtain rfl := Option.some.inj ho
   have e1 : a.eval (.tmp 6) = .int .i64 kd := hn 6 rfl
   refine qz2 (v := .int .i64 kd) (w' := V) ?_ (hK _ _ rfl J (fun j c _ _ _ q => qz1q 7 (by decide) (by decide) (Below.refl _ _) j c q))
   generalize a.eval = ev at *
   go_simp
  | 8, ho =>
   obtain rfl := Option.some.inj ho
   obtain ⟨hL2, s, g, n, r, eA, hO⟩ := (show L 2 = true /\ ∃ s g n r, a.eval (.tmp 27) = .agg #[.int .i64 A.camera, s, g, n, r] /\ (L 8 = false -> qz19 w1.heap.size V s g n r A) from hd ⟨2, .data⟩ (by simp) rfl 27 rfl)
   have O := hO hLi
   have e0 : a.eval (.tmp 25) = .agg #[.int .i64 x, .int .i64 y, .int .i64 z, .int .i64 u] := (hd ⟨0, .data⟩ (by simp) rfl 25 rfl).2
   have e3 : a.eval (.tmp 28) = .int .i64 node := (hd ⟨3, .data⟩ (by simp) rfl 28 rfl).2
   have e4 : a.eval (.tmp 29) = .int .i64 v := (hd ⟨4, .data⟩ (by simp) rfl 29 rfl).2
   have e5 : a.eval (.tmp 30) = .int .i64 nx := (hd ⟨5, .data⟩ (by simp) rfl 30 rfl).2
   have e6 : a.eval (.tmp 31) = .bool go := (hd ⟨6, .data⟩ (by simp) rfl 31 rfl).2
   have e7 : a.eval (.tmp 32) = .int .i64 kd := (hd ⟨7, .data⟩ (by simp) rfl 32 rfl).2
   have ef : a.eval (.func 19) = .func (.func 19) #[] #[] := rfl
   have h9 : L 9 = false := by
    cases q9 : L 9
    ·rfl
    ·have := hcl 9 _ rfl q9 ⟨8, .data⟩ (by simp) rfl
     rw [hLi] at this
     cases this
   have h10 : L 10 = false := by
    cases q10 : L 10
    ·rfl
    ·have := hcl 10 _ rfl q10 ⟨9, .data⟩ (by simp) rfl
     rw [h9] at this
     cases this
   have h13 : L 13 = false := by
    cases q13 : L 13
    ·rfl
    ·have := hcl 13 _ rfl q13 ⟨10, .data⟩ (by simp) rfl
     rw [h10] at this
     cases this
   refine qzm (f := 19) (args := #[.agg #[.int .i64 x, .int .i64 y, .int .i64 z, .int .i64 u], .agg #[.int .i64 A.camera, s, g, n, r], .int .i64 node, .int .i64 v, .int .i64 nx, .bool go, .int .i64 kd]) (R := fun c w' => (∃ s' g' n' r', c = .tuple #[.agg #[.int .i64 A.camera, s', g', n', r'], .int .i64 RR.2] /\ qz6i w1.heap.size V w' s g n r s' g' n' r' RR.1)) ?_ ((qz7e w1.heap.size A x y z u node v nx go kd s g n r V J.size hA' O hn0 hn1).mono (fun e w' h => by rw [hRR.out] at h; obtain ⟨s', g', n', r', e1, E⟩ := h; exact ⟨_, e1, s', g', n', r', rfl, E⟩)) (fun c w' h => by
    obtain ⟨s', g', n', r', rfl, E⟩ := h
    exact hK _ w' ⟨s', g', n', r', rfl, E.own⟩ (J.trans (E.lower O J.size)) (fun j c hj hjL _ q => qzaj O E.but h9 h10 h13 j c hj hjL q))
   clear O hO
   generalize a.eval = ev at *
   go_simp
  | 9, ho =>
   obtain rfl := Option.some.inj ho
   obtain ⟨-, s, g, n, r, e1, O⟩ := (show L 8 = true /\ ∃ s g n r, a.eval (.tmp 33) = .tuple #[.agg #[.int .i64 A.camera, s, g, n, r], .int .i64 RR.2] /\ qz19 w1.heap.size V s g n r RR.1 from hd ⟨8, .data⟩ (by simp) rfl 33 rfl)
   refine qz2 (v := .tuple #[.agg #[.int .i64 A.camera, s, g, n, r], .int .i64 RR.2]) (w' := V) ?_ (hK _ _ ⟨s, g, n, r, rfl, O⟩ J (fun j c _ _ _ q => qz1q 9 (by decide) (by decide) (Below.refl _ _) j c q))
   clear O
   generalize a.eval = ev at *
   go_simp
  | 10, ho =>
   obtain rfl := Option.some.inj ho
   obtain ⟨-, s, g, n, r, e1, O⟩ := (show L 9 = true /\ ∃ s g n r, a.eval (.tmp 24) = .tuple #[.agg #[.int .i64 A.camera, s, g, n, r], .int .i64 RR.2] /\ qz19 w1.heap.size V s g n r RR.1 from hd ⟨9, .data⟩ (by simp) rfl 24 rfl)
   refine qz2 (v := .agg #[.int .i64 A.camera, s, g, n, r]) (w' := V) ?_ (hK _ _ ⟨s, g, n, r, rfl, O⟩ J (fun j c _ _ _ q => qz1q 10 (by decide) (by decide) (Below.refl _ _) j c q))
   clear O
   generalize a.eval = ev at *
   go_simp
  | 11, ho =>
   obtain rfl := Option.some.inj ho
   obtain ⟨-, s, g, n, r, e1, O⟩ := (show L 9 = true /\ ∃ s g n r, a.eval (.tmp 24) = .tuple #[.agg #[.int .i64 A.camera, s, g, n, r], .int .i64 RR.2] /\ qz19 w1.heap.size V s g n r RR.1 from hd ⟨9, .data⟩ (by simp) rfl 24 rfl)
   refine qz2 (v := .int .i64 RR.2) (w' := V) ?_ (hK _ _ rfl J (fun j c _ _ _ q => qz1q 11 (by decide) (by decide) (Below.refl _ _) j c q))
   clear O
   generalize a.eval = ev at *
   go_simp
  | 12, ho =>
   obtain rfl := Option.some.inj ho
   refine qz2 (v := .pointer (some ⟨V.heap.size, 0, none⟩)) (w' := V.alloc (.cells #[.int .i64 0, .slice none 0 0, .slice none 0 0, .slice none 0 0, .slice none 0 0] 33)) ?_ (hK _ _ ⟨V.heap.size, rfl, J.size, Blk.new _ _ _, fun p => by rw [qz24 (by decide)] at p; exact absurd (hcl 13 _ rfl p ⟨12, .data⟩ (by simp) rfl) (by rw [hLi]; decide)⟩ (J.alloc J.size _) (fun j c _ _ _ q => qz1q 12 (by decide) (by decide) ((Below.refl _ _).alloc (Nat.le_refl _) _) j c q))
   generalize a.eval = ev at *
   go_simp
  | 13, ho =>
   obtain rfl := Option.some.inj ho
   obtain ⟨-, q, eQ, hq, BQ, -⟩ := (show L 12 = true /\ ∃ q, a.eval (.tmp 16) = .pointer (some ⟨q, 0, none⟩) /\ w1.heap.size <= q /\ Blk V q 33 5 /\ (L 13 = true -> ∃ s g n r, V.rangeAt q 0 [.int .i64 A.camera, s, g, n, r] /\ qz19 w1.heap.size V s g n r RR.1) from hd ⟨12, .data⟩ (by simp) rfl 16 rfl)
   obtain ⟨-, s, g, n, r, e1, O⟩ := (show L 10 = true /\ ∃ s g n r, a.eval (.tmp 34) = .agg #[.int .i64 A.camera, s, g, n, r] /\ qz19 w1.heap.size V s g n r RR.1 from hd ⟨10, .data⟩ (by simp) rfl 34 rfl)
   obtain ⟨s0, t0, rfl⟩ := qz15 O.rs
   obtain ⟨s1, t1, rfl⟩ := qz15 O.rg
   obtain ⟨s2, t2, rfl⟩ := qz15 O.rn
   obtain ⟨s3, t3, rfl⟩ := qz15 O.rr
   refine wp_store_mid 33 (.tmp 16) (.tmp 34) rfl q 0 #[.int .i64 A.camera, .slice s0 RR.1.slots.length t0, .slice s1 RR.1.guides.length t1, .slice s2 RR.1.nodes.length t2, .slice s3 RR.1.vers.length t3] eQ e1 (BQ.there 0 5 (by decide)) qz1n (by simp [Value.oneCell']) ?_
   refine hK _ _ trivial (Below.setCells hq _ _ _ J) (fun j c hj hjL he g' => qza1 BQ O j c hjL (fun e12 => by subst e12; exact (he 16 rfl).symm.trans eQ) g')
  | 14, ho =>
   obtain rfl := Option.some.inj ho
   have e1 : a.eval (.tmp 35) = .int .i64 RR.2 := (hd ⟨11, .data⟩ (by simp) rfl 35 rfl).2
   refine qz2 (v := .int .i64 RR.2) (w' := V) ?_ (hK _ _ rfl J (fun j c _ _ _ q => qz1q 14 (by decide) (by decide) (Below.refl _ _) j c q))
   generalize a.eval = ev at *
   go_simp
  | n + 15, ho => omega
 case final =>
  intro L vs V hLall J hG
  obtain ⟨q, g1, hq, BQ, hS⟩ := (show ∃ q, vs 12 = .pointer (some ⟨q, 0, none⟩) /\ w1.heap.size <= q /\ Blk V q 33 5 /\ (L 13 = true -> ∃ s g n r, V.rangeAt q 0 [.int .i64 A.camera, s, g, n, r] /\ qz19 w1.heap.size V s g n r RR.1) from hG 12 (by decide))
  obtain ⟨s, g, n, r, Q1, O1⟩ := hS (hLall 13 (by decide))
  have g2 : vs 14 = .int .i64 RR.2 := hG 14 (by decide)
  generalize hl : laid _ vs _ _ _ = A'
  have hA' : A' = { tmps := #[.agg #[.int .i64 x, .int .i64 y, .int .i64 z, .int .i64 u], .agg #[.int .i64 A.camera, .slice a0 A.slots.length c0, .slice a1 A.guides.length c1, .slice a2 A.nodes.length c2, .slice a3 A.vers.length c3], .int .i64 node, .int .i64 v, .int .i64 nx, .bool go, .int .i64 kd, .pointer (some ⟨w.heap.size, 0, none⟩), .pointer (some ⟨w.heap.size + 1, 0, none⟩), undef, undef, undef, undef, undef, .pointer (some ⟨w.heap.size + 1 + 1, 0, none⟩), .int .i64 0, vs 12, vs 14, .agg #[.int .i64 x, .int .i64 y, .int .i64 z, .int .i64 u], .agg #[.int .i64 A.camera, .slice a0 A.slots.length c0, .slice a1 A.guides.length c1, .slice a2 A.nodes.length c2, .slice a3 A.vers.length c3], .int .i64 node, .bool true, .bool false, undef, vs 9, vs 0, vs 1, vs 2, vs 3, vs 4, vs 5, vs 6, vs 7, vs 8, vs 10, vs 11, undef, undef, undef, undef, undef, undef, undef, undef], defers := [] } := by
   rw [<- hl]
   kernel_rfl
  subst hA'
  rw [g1, g2]
  clear hl hG g1 g2 hS
  simp only [List.drop_succ_cons, List.drop_zero]
  obtain ⟨s0, t0, rfl⟩ := qz15 O1.rs
  obtain ⟨s1, t1, rfl⟩ := qz15 O1.rg
  obtain ⟨s2, t2, rfl⟩ := qz15 O1.rn
  obtain ⟨s3, t3, rfl⟩ := qz15 O1.rr
  have P2 := qz0 P1 J (by omega)
  have X2 := qz0 X1 J (by omega)
  have F2 := qz3 F1 J (by omega)
  have K2 := K1.trans (J.mono (by omega))
  have I2 := I1.below (J.mono hB1)
  have hz2 := J.size
  have lq := BQ.lt
  clear P1 X1 F1 K1 I1 BQ
  rw [<- hcam] at Q1
  clear J hcam
  obtain ⟨A9, nv⟩ := RR
  dsimp only at Q1 O1 hsz ⊢
  obtain ⟨q0, q1, q2, q3, q4⟩ := row5 Q1
  obtain ⟨y0, y1, y2, y3⟩ : V.cell? ⟨w.heap.size, 0, none⟩ = some (.int .i64 x) /\ V.cell? ⟨w.heap.size, 1, none⟩ = some (.int .i64 y) /\ V.cell? ⟨w.heap.size, 2, none⟩ = some (.int .i64 z) /\ V.cell? ⟨w.heap.size, 3, none⟩ = some (.int .i64 u) := ⟨by simpa using P2 0 _ rfl, by simpa using P2 1 _ rfl, by simpa using P2 2 _ rfl, by simpa using P2 3 _ rfl⟩
  go_wp2_with fail
  refine (qz2c V.heap.size A9 x y z u s0 s1 s2 s3 t0 t1 t2 t3 V (Nat.le_refl _) hsz O1.is).mono ?_
  rintro e w3 ⟨rfl, b3⟩
  have X3 := qz0 X2 b3 (by omega)
  have F3 := qz3 F2 b3 (by omega)
  have K3 := K2.trans (b3.mono (by omega))
  have I3 := I2.below (b3.mono (by omega))
  have Q3 := qz0 Q1 b3 (by omega)
  have O3 := O1.below b3
  have hs3 := b3.size
  clear P2 X2 F2 K2 I2 Q1 O1 b3 q0 q1 q2 q3 q4 y0 y1 y2 y3
  cases ek : qzi x y z u A9
  case false =>
   have hr : Hid (qz1b x y z u A node v nx go kd = (A, -2)) := by show _ = _; simp [qz1b, eh'.out, hRR.out, ek]
   clear ek
   obtain ⟨x0, x1, x2, x3, x4⟩ := row5 X3
   go_wp2_with fail
   refine (qz5f B A a0 a1 a2 a3 c0 c1 c2 c3 w3 (by omega) hA' I3 ps pg pn pv).mono ?_
   rintro e w4 ⟨s', g', n', r', rfl, O4, b4⟩
   have F4 := qz3 F3 b4 (by omega)
   have K4 := K3.trans (b4.mono (by omega))
   have hs4 := b4.size
   obtain ⟨d0, f0, rfl⟩ := qz15 O4.rs
   obtain ⟨d1, f1, rfl⟩ := qz15 O4.rg
   obtain ⟨d2, f2, rfl⟩ := qz15 O4.rn
   obtain ⟨d3, f3, rfl⟩ := qz15 O4.rr
   clear F3 K3 I3 Q3 O3 X3 x0 x1 x2 x3 x4 b4
   go_wp2_with (refine wpList_store_mid rfl 33 (.tmp 14) (.tmp 41) rfl (w.heap.size + 1 + 1) 0 #[.int .i64 A.camera, .slice d0 A.slots.length f0, .slice d1 A.guides.length f1, .slice d2 A.nodes.length f2, .slice d3 A.vers.length f3] ?hx2 ?hy2 ?ht2 (by exact qzf) (by simp [Value.oneCell']) ?_)
   try (case hx2 => rfl)
   try (case hy2 => rfl)
   try (case ht2 => exact F4)
   refine bodyPost_ret (v := .tuple #[.agg #[.int .i64 A.camera, .slice d0 A.slots.length f0, .slice d1 A.guides.length f1, .slice d2 A.nodes.length f2, .slice d3 A.vers.length f3], .int .i64 (-2)]) ?_ rfl (by rw [hr.out]; exact qz5v.of rfl ((O4.only (qz4 _ _ _ _) (by omega)).lo (by omega)) (Below.setCells (by omega) _ _ _ K4))
   exact qzh Tryd.results6 _ _ (w.heap.size + 1 + 1) 0 rfl [.int .i64 A.camera, .slice d0 A.slots.length f0, .slice d1 A.guides.length f1, .slice d2 A.nodes.length f2, .slice d3 A.vers.length f3] _ (World.rangeAt_setCells_same _ _ _ _ F4) Tryd.underlying33 rfl qzf
  have hr : Hid (qz1b x y z u A node v nx go kd = (A9, nv)) := by show _ = _; simp [qz1b, eh'.out, hRR.out, ek]
  clear ek
  obtain ⟨q0, q1, q2, q3, q4⟩ := row5 Q3
  go_wp2_with (refine wpList_store_mid rfl 33 (.tmp 14) (.tmp 42) rfl (w.heap.size + 1 + 1) 0 #[.int .i64 A9.camera, .slice s0 A9.slots.length t0, .slice s1 A9.guides.length t1, .slice s2 A9.nodes.length t2, .slice s3 A9.vers.length t3] ?hx3 ?hy3 ?ht3 (by exact qzf) (by simp [Value.oneCell']) ?_)
  try (case hx3 => rfl)
  try (case hy3 => rfl)
  try (case ht3 => exact F3)
  refine bodyPost_ret (v := .tuple #[.agg #[.int .i64 A9.camera, .slice s0 A9.slots.length t0, .slice s1 A9.guides.length t1, .slice s2 A9.nodes.length t2, .slice s3 A9.vers.length t3], .int .i64 nv]) ?_ rfl (by rw [hr.out]; exact qz5v.of rfl ((O3.only (qz4 _ _ _ _) (by omega)).lo (by omega)) (Below.setCells (by omega) _ _ _ K3))
  exact qzh Tryd.results6 _ _ (w.heap.size + 1 + 1) 0 rfl [.int .i64 A9.camera, .slice s0 A9.slots.length t0, .slice s1 A9.guides.length t1, .slice s2 A9.nodes.length t2, .slice s3 A9.vers.length t3] _ (World.rangeAt_setCells_same _ _ _ _ F3) Tryd.underlying33 rfl qzf
theorem qz66 {x y z u : Int} {A : Ar} (h : qzi x y z u A = true) (k : Nat) (hk : k < A.nodes.length) (hz : (A.vers.length : Int) < z) (V : Vr) :
  qzi x y z u { A with vers := A.vers ++ [V], nodes := A.nodes.set k { A.nodes[k] with head := (A.vers.length : Int) } } = verB A.nodes.length A.camera A.vers.length V := by
 obtain ⟨h1, h2, h3, h4, h5⟩ := qz1z h
 have n4 := (qzl _ _).1 h4
 have n5 := (qzl _ _).1 h5
 cases hv : verB A.nodes.length A.camera A.vers.length V
 ·have : qzn (verB (A.nodes.set k { A.nodes[k] with head := (A.vers.length : Int) }).length A.camera) (A.vers ++ [V]) = false := qz18 (i := A.vers.length) (by simp) (by simpa using hv)
  simp only [qzi, this, Bool.and_false]
 ·have g4 : qzn (qz1r (A.vers ++ [V]).length) (A.nodes.set k { A.nodes[k] with head := (A.vers.length : Int) }) = true := by
   refine (qzl _ _).2 fun i hi => ?_
   have hi' : i < A.nodes.length := by simpa using hi
   have q := n4 i hi'
   rw [List.getElem_set]
   by_cases e : k = i
   ·subst e
    rw [if_pos rfl]
    simp only [qz1r, qz1m, List.length_append, List.length_singleton] at q ⊢
    split at q <;> rename_i e0 <;> (first | rw [if_pos e0] | rw [if_neg e0]) <;> simp only [Bool.and_eq_true, qz1m] at q ⊢ <;> (refine ⟨q.1, ?_⟩; omega)
   ·rw [if_neg e]
    simp only [qz1r, qz1m, List.length_append, List.length_singleton] at q ⊢
    split at q <;> rename_i e0 <;> (first | rw [if_pos e0] | rw [if_neg e0]) <;> simp only [Bool.and_eq_true, qz1m] at q ⊢ <;> (refine ⟨q.1, ?_⟩; omega)
  have g5 : qzn (verB (A.nodes.set k { A.nodes[k] with head := (A.vers.length : Int) }).length A.camera) (A.vers ++ [V]) = true := by
   refine (qzl _ _).2 fun i hi => ?_
   rw [List.length_set]
   by_cases e : i < A.vers.length
   ·rw [List.getElem_append_left e]; exact n5 i e
   ·have : i = A.vers.length := by simp at hi; omega
    subst this
    simpa using hv
  have g1 : qz64 x y z u { A with vers := A.vers ++ [V], nodes := A.nodes.set k { A.nodes[k] with head := (A.vers.length : Int) } } = true := by
   simp only [qz64, Bool.and_eq_true, qz1m, List.length_set, List.length_append, List.length_singleton] at h1 ⊢
   refine ⟨⟨h1.1.1, h1.1.2⟩, ?_⟩
   omega
  rw [List.length_set] at g5
  simp only [qzi, g1, g4, h2, List.length_set, h3, g5, Bool.and_self]
theorem qz5s (x y z u : Int) (A : Ar) (node v nx : Int) (go : Bool) (kd : Int) : qz1b x y z u A node v nx go kd = qz1g x y z u A node v nx go kd := by
 unfold qz1b qz1g
 by_cases h : hasB x y z u A node = true
 case neg => rw [if_neg h, if_neg h]
 rw [if_pos h, if_pos h]
 obtain ⟨hok, hn0, hn1, -⟩ := qz6f h
 obtain ⟨k, rfl⟩ : ∃ k : Nat, node = k := ⟨node.toNat, by omega⟩
 have hk : k < A.nodes.length := by omega
 by_cases hfull : z <= (A.vers.length : Int)
 ·have hc : qz2l z A (k : Int) ⟨nx, go, -1, v, kd⟩ = 0 := by simp [qz2l, hfull]
  have hs : qz1k z A (k : Int) v nx go kd = (A, -2) := by simp [qz1k, hfull]
  rw [hc, hs]
  simp [hok, qz75, qz8p]
 by_cases hh : (ndOf A (k : Int)).head = v
 case neg =>
  have hc : qz2l z A (k : Int) ⟨nx, go, -1, v, kd⟩ = 1 := by simp [qz2l, hfull, hh]
  have hs : qz1k z A (k : Int) v nx go kd = (A, -1) := by simp [qz1k, hfull, hh]
  rw [hc, hs]
  simp [hok, qz75, qz8p]
 have hs : qz1k z A (k : Int) v nx go kd = ({ A with vers := A.vers ++ [⟨nx, go, -1, v, kd⟩], nodes := A.nodes.set k { A.nodes[k] with head := (A.vers.length : Int) } }, (A.vers.length : Int)) := by
  have hh' : A.nodes[k].head = v := by rw [<- qz2f A k hk]; exact hh
  simp [qz1k, hfull, hh', qz2f A k hk]
 rw [hs]
 dsimp only
 rw [qz66 hok k hk (by omega) ⟨nx, go, -1, v, kd⟩, <- qz8n]
 cases hv : verR A.nodes.length A.camera (A.vers.length : Int) ⟨nx, go, -1, v, kd⟩
 ·have hc : qz2l z A (k : Int) ⟨nx, go, -1, v, kd⟩ = 2 := by simp [qz2l, hfull, hh, hv]
  rw [hc]
  simp [qz75, qz8p]
 ·have hc : qz2l z A (k : Int) ⟨nx, go, -1, v, kd⟩ = 3 := by simp [qz2l, hfull, hh, hv]
  rw [hc]
  simp [qz75, qz8p, qz9b, qz2f A k hk]
theorem qz56 (x y z u : Int) (A : Ar) (node v nx : Int) (go : Bool) (kd : Int) : (qz1g x y z u A node v nx go kd).1.size <= 1048576 := by
 unfold qz1g
 by_cases h : hasB x y z u A node = true
 ·rw [if_pos h]
  have := (qz5x (qz6f h).1).1
  have := qz53 A node ⟨nx, go, -1, v, kd⟩ (qz2l z A node ⟨nx, go, -1, v, kd⟩)
  dsimp only
  omega
 ·rw [if_neg h]
  decide
theorem qz3a (B : Nat) (A : Ar) (x y z u : Int) (node v nx : Int) (go : Bool) (kd : Int) (a0 a1 a2 a3 : Option Addr) (c0 c1 c2 c3 : Nat) (w : World) (hB : B <= w.heap.size) (hA : A.size <= 1048576) (I : qzd B w (.slice a0 A.slots.length c0) (.slice a1 A.guides.length c1) (.slice a2 A.nodes.length c2) (.slice a3 A.vers.length c3) A) :
  Calls Tryd.prog 6 #[.agg #[.int .i64 x, .int .i64 y, .int .i64 z, .int .i64 u], .agg #[.int .i64 A.camera, .slice a0 A.slots.length c0, .slice a1 A.guides.length c1, .slice a2 A.nodes.length c2, .slice a3 A.vers.length c3], .int .i64 node, .int .i64 v, .int .i64 nx, .bool go, .int .i64 kd] w (qz5v w (qz1g x y z u A node v nx go kd)) := by
 rw [<- qz5s]
 exact qz3w B A x y z u node v nx go kd a0 a1 a2 a3 c0 c1 c2 c3 w hB hA I
end
end Go.Proofs.YtlfjhcdjgoeafaaDoor
