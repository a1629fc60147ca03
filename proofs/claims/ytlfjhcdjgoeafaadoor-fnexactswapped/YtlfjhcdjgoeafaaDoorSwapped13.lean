/-
  What the law's proof goes by, part 14.
-/
import Derived.Deep.Cut
import Derived.Deep.RegionLaw
import Derived.Test.YtlfjhcdjgoeafaaDoorSwapped00
import Derived.Test.YtlfjhcdjgoeafaaDoorSwapped03
import Derived.Test.YtlfjhcdjgoeafaaDoorSwapped04
import Derived.Test.YtlfjhcdjgoeafaaDoorSwapped05
import Derived.Test.YtlfjhcdjgoeafaaDoorSwapped08
import Derived.Test.YtlfjhcdjgoeafaaDoorSwapped11
import Derived.Test.YtlfjhcdjgoeafaaDoorSwapped12
namespace Go.Proofs.YtlfjhcdjgoeafaaDoor
open Go.ChangeShapes Go.WideShapes Go.ChangeAt Go.RowKit
set_option maxRecDepth 100000
set_option maxHeartbeats 16000000
set_option linter.unusedVariables false
set_option linter.unusedSimpArgs false
set_option linter.unnecessarySimpa false
set_option linter.unusedSectionVars false
section
attribute [local go_sem ↓] Go.wp_at_zero Go.wp_at_succ
structure ErrT (base : Nat) (w : World) : Prop where
 g : w.cell? ⟨3, 0, none⟩ = some (.iface 128 (.agg #[.pointer (some ⟨4, 56, none⟩)]))
 lo : 3 < base
theorem ErrT.below {base : Nat} {w w' : World} (E : ErrT base w) (hb : Below base w w') : ErrT base w' := ⟨(World.cell?_of_block (w := w) (hb.block _ E.lo)).trans E.g, E.lo⟩
theorem ErrT.raise {base base' : Nat} {w : World} (E : ErrT base w) (hb : base <= base') : ErrT base' w := ⟨E.g, Nat.lt_of_lt_of_le E.lo hb⟩
def qz8p (made : Int) (c : Nat) : Int := if c = 3 then made else if c = 1 then -1 else -2
theorem qz67 (base : Nat) (made : Int) (c : Nat) (hc : c < 4) (eN eF eU : Addr) (w : World) (hbase : base <= w.heap.size) (E : Errs base w eN eF eU) (ET : ErrT base w) :
  Calls Tryd.prog 29 #[.int .i64 made, errV eN eF eU c] w fun e w' => e = .returned (.int .i64 (qz8p made c)) /\ Below w.heap.size w w' := by
 have K0 := (Below.refl w.heap.size w).alloc (Nat.le_refl _) (.cells #[.nilIface] 90)
 have T0 := qzv w #[.nilIface] 90 1 (by decide)
 have hz0 : w.heap.size < (w.alloc (.cells #[.nilIface] 90)).heap.size := by simp
 have hc4 : c = 0 ∨ c = 1 ∨ c = 2 ∨ c = 3 := by omega
 rcases hc4 with rfl | rfl | rfl | rfl
 ·show Calls Tryd.prog 29 #[.int .i64 made, .iface 90 (.agg #[.iface 144 (.pointer (some eN))])] w _
  go_enter Tryd.func29, Tryd.ntmps29
  go_upto_region 2 with fail
  generalize hw0 : w.alloc (.cells #[.nilIface] 90) = w0 at *
  clear hw0
  have E0 := E.below (K0.mono hbase)
  have ET0 := (ET.below (K0.mono hbase))
  go_wp2_with fail
  refine (qz4s eN w.heap.size .nilIface w0 ET0.g T0 (Nat.lt_of_lt_of_le ET0.lo (Nat.le_trans hbase (by omega))) hz0).mono ?_
  rintro e w1 ⟨rfl, O1⟩
  have b1 : Below w.heap.size w0 w1 := O1.below (Nat.le_refl _) (by omega)
  have E1 := E0.below (b1.mono hbase)
  have K1 := K0.trans b1
  have hs1 := O1.size
  have hgF := E1.gF
  go_wp2_with fail
  refine (qz2g 0 (by decide) w1 E1).mono ?_
  rintro e w2 ⟨rfl, b2⟩
  go_wp2
  go_ret
  exact ⟨rfl, K1.trans (b2.mono (by omega))⟩
 ·show Calls Tryd.prog 29 #[.int .i64 made, .iface 90 (.agg #[.iface 144 (.pointer (some eF))])] w _
  go_enter Tryd.func29, Tryd.ntmps29
  go_upto_region 2 with fail
  generalize hw0 : w.alloc (.cells #[.nilIface] 90) = w0 at *
  clear hw0
  have E0 := E.below (K0.mono hbase)
  have ET0 := (ET.below (K0.mono hbase))
  go_wp2_with fail
  refine (qz4s eF w.heap.size .nilIface w0 ET0.g T0 (Nat.lt_of_lt_of_le ET0.lo (Nat.le_trans hbase (by omega))) hz0).mono ?_
  rintro e w1 ⟨rfl, O1⟩
  have b1 : Below w.heap.size w0 w1 := O1.below (Nat.le_refl _) (by omega)
  have E1 := E0.below (b1.mono hbase)
  have K1 := K0.trans b1
  have hs1 := O1.size
  have hgF := E1.gF
  go_wp2_with fail
  refine (qz2g 1 (by decide) w1 E1).mono ?_
  rintro e w2 ⟨rfl, b2⟩
  go_wp2
  go_ret
  exact ⟨rfl, K1.trans (b2.mono (by omega))⟩
 ·show Calls Tryd.prog 29 #[.int .i64 made, .iface 90 (.agg #[.iface 144 (.pointer (some eU))])] w _
  go_enter Tryd.func29, Tryd.ntmps29
  go_upto_region 2 with fail
  generalize hw0 : w.alloc (.cells #[.nilIface] 90) = w0 at *
  clear hw0
  have E0 := E.below (K0.mono hbase)
  have ET0 := (ET.below (K0.mono hbase))
  go_wp2_with fail
  refine (qz4s eU w.heap.size .nilIface w0 ET0.g T0 (Nat.lt_of_lt_of_le ET0.lo (Nat.le_trans hbase (by omega))) hz0).mono ?_
  rintro e w1 ⟨rfl, O1⟩
  have b1 : Below w.heap.size w0 w1 := O1.below (Nat.le_refl _) (by omega)
  have E1 := E0.below (b1.mono hbase)
  have K1 := K0.trans b1
  have hs1 := O1.size
  have hgF := E1.gF
  go_wp2_with fail
  refine (qz2g 2 (by decide) w1 E1).mono ?_
  rintro e w2 ⟨rfl, b2⟩
  go_wp2
  go_ret
  exact ⟨rfl, K1.trans (b2.mono (by omega))⟩
 ·show Calls Tryd.prog 29 #[.int .i64 made, .nilIface] w _
  go_enter Tryd.func29, Tryd.ntmps29
  go_upto_region 2 with fail
  generalize hw0 : w.alloc (.cells #[.nilIface] 90) = w0 at *
  clear hw0
  go_wp2_with (go_at_call 60; refine (qz8c _ _).mono ?_; rintro e w' ⟨rfl, hw⟩; obtain rfl := hw.symm)
  go_ret
  exact ⟨rfl, K0⟩
def qz1g (x y z u : Int) (A : Ar) (node v nx : Int) (go : Bool) (kd : Int) : Ar × Int := if hasB x y z u A node = true then (qz75 A node ⟨nx, go, -1, v, kd⟩ (qz2l z A node ⟨nx, go, -1, v, kd⟩), qz8p (qz9b A (qz2l z A node ⟨nx, go, -1, v, kd⟩)) (qz2l z A node ⟨nx, go, -1, v, kd⟩)) else (⟨0, [], [], [], []⟩, -2)
def qz9n (w : World) (R : Ar × Int) (e : Ending) (w' : World) : Prop := ∃ s g n r b0 b1 b2 b3, e = .returned (.tuple #[.agg #[.int .i64 R.1.camera, s, g, n, r], .int .i64 R.2]) /\ qza w.heap.size w' s g n r R.1 b0 b1 b2 b3 /\ TypA w' R.1 b0 b1 b2 b3 /\ Below w.heap.size w w'
theorem qz9n.of {w w' : World} {A : Ar} {k : Int} {e : Ending} {s g n r : Value} {b0 b1 b2 b3 : Nat} (h1 : e = .returned (.tuple #[.agg #[.int .i64 A.camera, s, g, n, r], .int .i64 k])) (h2 : qza w.heap.size w' s g n r A b0 b1 b2 b3) (h4 : TypA w' A b0 b1 b2 b3) (h3 : Below w.heap.size w w') : qz9n w (A, k) e w' := ⟨s, g, n, r, b0, b1, b2, b3, h1, h2, h4, h3⟩
theorem qz8z (lo : Nat) (w : World) : qza lo w (.slice none 0 0) (.slice none 0 0) (.slice none 0 0) (.slice none 0 0) ⟨0, [], [], [], []⟩ 0 1 2 3 :=
 ⟨⟨_, _, 0, rfl, Or.inl rfl⟩, ⟨_, _, 0, rfl, Or.inl rfl⟩, ⟨_, _, 0, rfl, Or.inl rfl⟩, ⟨_, _, 0, rfl, Or.inl rfl⟩, by decide, by decide, by decide, by decide, by decide, by decide⟩
theorem qz96 (w : World) : TypA w ⟨0, [], [], [], []⟩ 0 1 2 3 := ⟨fun p => absurd p (Nat.lt_irrefl 0), fun p => absurd p (Nat.lt_irrefl 0), fun p => absurd p (Nat.lt_irrefl 0), fun p => absurd p (Nat.lt_irrefl 0)⟩
theorem qz7n {lo c : Nat} {w w' : World} {s g n r : Value} {A : Ar} {b0 b1 b2 b3 : Nat} (N : qza lo w s g n r A b0 b1 b2 b3) (hc : c < lo) (k : Only c w w') : qza lo w' s g n r A b0 b1 b2 b3 := by
 have O : But (fun q => q = c) w w' := But.of_only k rfl
 exact ⟨N.s.but O (fun h e => by have := N.s.lt h; omega), N.g.but O (fun h e => by have := N.g.lt h; omega), N.n.but O (fun h e => by have := N.n.lt h; omega), N.r.but O (fun h e => by have := N.r.lt h; omega), N.d01, N.d02, N.d03, N.d12, N.d13, N.d23⟩
theorem qz6f {x y z u : Int} {A : Ar} {node : Int} (h : hasB x y z u A node = true) : qzi x y z u A = true /\ 0 <= node /\ node < (A.nodes.length : Int) /\ qz6t x y z u A node ≠ -1 := by
 have h' := h
 unfold hasB at h
 simp only [Bool.and_eq_true, qz1m] at h
 obtain ⟨h1, h2⟩ := h
 obtain ⟨k, hk⟩ : ∃ k : Nat, node = k := ⟨node.toNat, by omega⟩
 subst hk
 have hkl : k < A.nodes.length := by omega
 have hnd := (qzl _ _).1 (qz1z h1).2.2.2.1 k hkl
 unfold qz1r at hnd
 have hhd : 0 <= A.nodes[k].head := by
  split at hnd <;> (simp only [Bool.and_eq_true, qz1m, beq_iff_eq] at hnd; omega)
 refine ⟨h1, by omega, by omega, ?_⟩
 rw [qz6t, if_pos h', qz2f A k hkl]
 omega
theorem qz5x {x y z u : Int} {A : Ar} (h : qzi x y z u A = true) : A.size <= 1000 /\ 0 < A.vers.length := by
 have h1 := (qz1z h).1
 simp only [qz64, Bool.and_eq_true, beq_iff_eq, qz1m] at h1
 have h2 := (qz8l x y z u).1 h1.1.1.1.1.1
 unfold Ar.size
 omega
theorem qz53 (A : Ar) (node : Int) (W : Vr) (c : Nat) : (qz75 A node W c).size <= A.size + 1 := by
 unfold qz75
 split
 ·simp only [Ar.size, List.length_append, List.length_set, List.length_singleton]; omega
 ·omega
theorem qz3b (B : Nat) (A : Ar) (x y z u node v nx : Int) (go : Bool) (kd : Int) (a0 a1 a2 a3 : Option Addr) (c0 c1 c2 c3 : Nat) (eN eF eU : Addr) (w : World) (hB : B <= w.heap.size) (hA : A.size <= 1048576) (I : qzd B w (.slice a0 A.slots.length c0) (.slice a1 A.guides.length c1) (.slice a2 A.nodes.length c2) (.slice a3 A.vers.length c3) A) (E : Errs w.heap.size w eN eF eU) (ET : ErrT w.heap.size w) :
  Calls Tryd.prog 9 #[.agg #[.int .i64 x, .int .i64 y, .int .i64 z, .int .i64 u], .agg #[.int .i64 A.camera, .slice a0 A.slots.length c0, .slice a1 A.guides.length c1, .slice a2 A.nodes.length c2, .slice a3 A.vers.length c3], .int .i64 node, .int .i64 v, .int .i64 nx, .bool go, .int .i64 kd] w fun e w' => qz9n w (qz1g x y z u A node v nx go kd) e w' := by
 have hA' := hA
 unfold Ar.size at hA
 have P0 := World.rangeAt_alloc (World.rangeAt_alloc (qz6 w [.int .i64 x, .int .i64 y, .int .i64 z, .int .i64 u] 36) (.cells #[.int .i64 A.camera, .slice a0 A.slots.length c0, .slice a1 A.guides.length c1, .slice a2 A.nodes.length c2, .slice a3 A.vers.length c3] 33)) (.cells #[.int .i64 0, .slice none 0 0, .slice none 0 0, .slice none 0 0, .slice none 0 0] 33)
 have X0 := World.rangeAt_alloc (qz6 (w.alloc (.cells #[.int .i64 x, .int .i64 y, .int .i64 z, .int .i64 u] 36)) [.int .i64 A.camera, .slice a0 A.slots.length c0, .slice a1 A.guides.length c1, .slice a2 A.nodes.length c2, .slice a3 A.vers.length c3] 33) (.cells #[.int .i64 0, .slice none 0 0, .slice none 0 0, .slice none 0 0, .slice none 0 0] 33)
 have F0 := qzv ((w.alloc (.cells #[.int .i64 x, .int .i64 y, .int .i64 z, .int .i64 u] 36)).alloc (.cells #[.int .i64 A.camera, .slice a0 A.slots.length c0, .slice a1 A.guides.length c1, .slice a2 A.nodes.length c2, .slice a3 A.vers.length c3] 33)) #[.int .i64 0, .slice none 0 0, .slice none 0 0, .slice none 0 0, .slice none 0 0] 33 5 (by decide)
 have K0 := (((Below.refl w.heap.size w).alloc (Nat.le_refl _) (.cells #[.int .i64 x, .int .i64 y, .int .i64 z, .int .i64 u] 36)).alloc (by simp) (.cells #[.int .i64 A.camera, .slice a0 A.slots.length c0, .slice a1 A.guides.length c1, .slice a2 A.nodes.length c2, .slice a3 A.vers.length c3] 33)).alloc (by simp; omega) (.cells #[.int .i64 0, .slice none 0 0, .slice none 0 0, .slice none 0 0, .slice none 0 0] 33)
 have hz0 : w.heap.size + 1 + 1 < (((w.alloc (.cells #[.int .i64 x, .int .i64 y, .int .i64 z, .int .i64 u] 36)).alloc (.cells #[.int .i64 A.camera, .slice a0 A.slots.length c0, .slice a1 A.guides.length c1, .slice a2 A.nodes.length c2, .slice a3 A.vers.length c3] 33)).alloc (.cells #[.int .i64 0, .slice none 0 0, .slice none 0 0, .slice none 0 0, .slice none 0 0] 33)).heap.size := by simp
 simp only [World.size_alloc] at X0 F0
 have I0 := I.below (K0.mono hB)
 have E0 := E.below K0
 have ET0 := ET.below K0
 go_enter Tryd.func9, Tryd.ntmps9
 go_upto_region 1 with fail
 generalize hw0 : ((w.alloc (.cells #[.int .i64 x, .int .i64 y, .int .i64 z, .int .i64 u] 36)).alloc (.cells #[.int .i64 A.camera, .slice a0 A.slots.length c0, .slice a1 A.guides.length c1, .slice a2 A.nodes.length c2, .slice a3 A.vers.length c3] 33)).alloc (.cells #[.int .i64 0, .slice none 0 0, .slice none 0 0, .slice none 0 0, .slice none 0 0] 33) = w0 at *
 clear hw0 I
 have hB0 : B <= w0.heap.size := Nat.le_trans hB K0.size
 obtain ⟨x0, x1, x2, x3, x4⟩ := row5 X0
 obtain ⟨y0, y1, y2, y3⟩ : w0.cell? ⟨w.heap.size, 0, none⟩ = some (.int .i64 x) /\ w0.cell? ⟨w.heap.size, 1, none⟩ = some (.int .i64 y) /\ w0.cell? ⟨w.heap.size, 2, none⟩ = some (.int .i64 z) /\ w0.cell? ⟨w.heap.size, 3, none⟩ = some (.int .i64 u) := ⟨by simpa using P0 0 _ rfl, by simpa using P0 1 _ rfl, by simpa using P0 2 _ rfl, by simpa using P0 3 _ rfl⟩
 go_wp2_with fail
 refine (qz4j B A x y z u node a0 a1 a2 a3 c0 c1 c2 c3 w0 hB0 hA' I0).mono ?_
 rintro e w1 ⟨rfl, b0⟩
 have P1 := qz0 P0 b0 (by omega)
 have X1 := qz0 X0 b0 (by omega)
 have F1 := qz3 F0 b0 (by omega)
 have K1 := K0.trans (b0.mono (by omega))
 have I1 := I0.below (b0.mono hB0)
 have E1 := E0.below (b0.mono (by omega))
 have ET1 := ET0.below (b0.mono (by omega))
 have hz1 := Nat.lt_of_lt_of_le hz0 b0.size
 have hB1 := Nat.le_trans hB0 b0.size
 clear P0 X0 F0 K0 I0 E0 ET0 hz0 hB0 b0 x0 x1 x2 x3 x4 y0 y1 y2 y3
 cases eh : hasB x y z u A node
 case false =>
  have hn : qz6t x y z u A node = -1 := by simp [qz6t, eh]
  have hr : Hid (qz1g x y z u A node v nx go kd = (⟨0, [], [], [], []⟩, -2)) := by show _ = _; simp [qz1g, eh]
  rw [hn]
  clear eh hn
  go_wp2_with (refine wpList_store_mid rfl 33 (.tmp 14) (.tmp 24) rfl (w.heap.size + 1 + 1) 0 #[.int .i64 0, .slice none 0 0, .slice none 0 0, .slice none 0 0, .slice none 0 0] ?hx1 ?hy1 ?ht1 (by exact qzf) (by simp [Value.oneCell']) ?_)
  try (case hx1 => rfl)
  try (case hy1 => rfl)
  try (case ht1 => exact F1)
  refine bodyPost_ret (v := .tuple #[.agg #[.int .i64 0, .slice none 0 0, .slice none 0 0, .slice none 0 0, .slice none 0 0], .int .i64 (-2)]) ?_ rfl (by rw [hr.out]; exact qz9n.of rfl (qz8z _ _) (qz96 _) (Below.setCells (by omega) _ _ _ K1))
  exact qzh Tryd.results9 _ _ (w.heap.size + 1 + 1) 0 rfl [.int .i64 0, .slice none 0 0, .slice none 0 0, .slice none 0 0, .slice none 0 0] _ (World.rangeAt_setCells_same _ _ _ _ F1) Tryd.underlying33 rfl qzf
 obtain ⟨hOk, hn0, hn1, hne⟩ := qz6f eh
 have hr : Hid (qz1g x y z u A node v nx go kd = (qz75 A node ⟨nx, go, -1, v, kd⟩ (qz2l z A node ⟨nx, go, -1, v, kd⟩), qz8p (qz9b A (qz2l z A node ⟨nx, go, -1, v, kd⟩)) (qz2l z A node ⟨nx, go, -1, v, kd⟩))) := by show _ = _; simp [qz1g, eh]
 obtain ⟨hsm, hr0⟩ := qz5x hOk
 have hbn : (qz6t x y z u A node == -1) = false := by simp [hne]
 obtain ⟨x0, x1, x2, x3, x4⟩ := row5 X1
 clear eh hne
 generalize qz6t x y z u A node = nw at *
 go_wp2_with fail
 refine (qz6o B A a0 a1 a2 a3 c0 c1 c2 c3 w1 hB1 hA' I1).mono ?_
 rintro e w2 ⟨cb, s, g, n, r, ps, qs, rfl, C2, b1⟩
 have P2 := qz0 P1 b1 (by omega)
 have F2 := qz3 F1 b1 (by omega)
 have K2 := K1.trans (b1.mono (by omega))
 have E2 := (E1.below (b1.mono (by omega))).raise (base' := w1.heap.size) (by omega)
 have ET2 := (ET1.below (b1.mono (by omega))).raise (base' := w1.heap.size) (by omega)
 have hs2 := b1.size
 clear P1 X1 F1 K1 I1 E1 ET1 b1 x0 x1 x2 x3 x4 hbn
 obtain ⟨y0, y1, y2, y3⟩ : w2.cell? ⟨w.heap.size, 0, none⟩ = some (.int .i64 x) /\ w2.cell? ⟨w.heap.size, 1, none⟩ = some (.int .i64 y) /\ w2.cell? ⟨w.heap.size, 2, none⟩ = some (.int .i64 z) /\ w2.cell? ⟨w.heap.size, 3, none⟩ = some (.int .i64 u) := ⟨by simpa using P2 0 _ rfl, by simpa using P2 1 _ rfl, by simpa using P2 2 _ rfl, by simpa using P2 3 _ rfl⟩
 go_wp2_with fail
 refine (qz5i w1.heap.size cb s g n r ps qs A x y z u node ⟨nx, go, -1, v, kd⟩ eN eF eU w2 hs2 hA' C2 hn0 hn1 hr0 E2).mono ?_
 rintro e w3 ⟨r3, qs3, rfl, C3, b2, -⟩
 have F3 := qz3 F2 b2 (by omega)
 have K3 := K2.trans (b2.mono (by omega))
 have E3 := E2.below b2
 have ET3 := ET2.below b2
 have hs3 := b2.size
 have hcc := qz92 z A node ⟨nx, go, -1, v, kd⟩
 have hsz := qz53 A node ⟨nx, go, -1, v, kd⟩ (qz2l z A node ⟨nx, go, -1, v, kd⟩)
 clear P2 F2 K2 E2 ET2 C2 b2 y0 y1 y2 y3
 generalize qz2l z A node ⟨nx, go, -1, v, kd⟩ = c at *
 generalize qz9b A c = made at *
 generalize qz75 A node ⟨nx, go, -1, v, kd⟩ c = A9 at *
 have hA9 : A9.size <= 1048576 := by omega
 go_wp2_with fail
 refine (qz91 w3.heap.size cb s g n r3 A9 w3 (Nat.le_refl _) hA9 C3.cells).mono ?_
 rintro e w4 ⟨s', g', n', r', q0, q1, q2, q3, rfl, N4, Ty4, b3⟩
 have F4 := qz3 F3 b3 (by omega)
 have K4 := K3.trans (b3.mono (by omega))
 have E4 := E3.below (b3.mono (by omega))
 have ET4 := ET3.below (b3.mono (by omega))
 have hs4 := b3.size
 clear F3 K3 E3 ET3 C3 b3
 go_wp2_with fail
 refine (qz67 w1.heap.size made c hcc eN eF eU w4 (by omega) E4 ET4).mono ?_
 rintro e w5 ⟨rfl, b4⟩
 have F5 := qz3 F4 b4 (by omega)
 have K5 := K4.trans (b4.mono (by omega))
 have N5 := N4.below b4
 have Ty5 := Ty4.kept b4
 have hs5 := b4.size
 clear F4 K4 E4 ET4 N4 Ty4 b4
 obtain ⟨t0, k0, rfl⟩ : ∃ a c, s' = .slice a A9.slots.length c := by obtain ⟨a, c, o, e, -⟩ := N5.s; exact ⟨a, c, e⟩
 obtain ⟨t1, k1, rfl⟩ : ∃ a c, g' = .slice a A9.guides.length c := by obtain ⟨a, c, o, e, -⟩ := N5.g; exact ⟨a, c, e⟩
 obtain ⟨t2, k2, rfl⟩ : ∃ a c, n' = .slice a A9.nodes.length c := by obtain ⟨a, c, o, e, -⟩ := N5.n; exact ⟨a, c, e⟩
 obtain ⟨t3, k3, rfl⟩ : ∃ a c, r' = .slice a A9.vers.length c := by obtain ⟨a, c, o, e, -⟩ := N5.r; exact ⟨a, c, e⟩
 go_wp2_with (refine wpList_store_mid rfl 33 (.tmp 14) (.tmp 40) rfl (w.heap.size + 1 + 1) 0 #[.int .i64 A9.camera, .slice t0 A9.slots.length k0, .slice t1 A9.guides.length k1, .slice t2 A9.nodes.length k2, .slice t3 A9.vers.length k3] ?hx2 ?hy2 ?ht2 (by exact qzf) (by simp [Value.oneCell']) ?_)
 try (case hx2 => rfl)
 try (case hy2 => rfl)
 try (case ht2 => exact F5)
 refine bodyPost_ret (v := .tuple #[.agg #[.int .i64 A9.camera, .slice t0 A9.slots.length k0, .slice t1 A9.guides.length k1, .slice t2 A9.nodes.length k2, .slice t3 A9.vers.length k3], .int .i64 (qz8p made c)]) ?_ rfl (by rw [hr.out]; exact qz9n.of rfl ((qz7n N5 (by omega) (qz4 _ _ _ _)).lo (by omega)) (Ty5.setCells _ _ _) (Below.setCells (by omega) _ _ _ K5))
 exact qzh Tryd.results9 _ _ (w.heap.size + 1 + 1) 0 rfl [.int .i64 A9.camera, .slice t0 A9.slots.length k0, .slice t1 A9.guides.length k1, .slice t2 A9.nodes.length k2, .slice t3 A9.vers.length k3] _ (World.rangeAt_setCells_same _ _ _ _ F5) Tryd.underlying33 rfl qzf
end
section
def qzag : Ar := ⟨0, [], [], [], []⟩
theorem qzo {lo : Nat} {w : World} {v : Value} {len sz : Nat} {cs : List Value} {b : Nat} (N : qzc lo w v len sz cs b) : ∃ a c, v = .slice a len c := by
 obtain ⟨a, c, o, e, -⟩ := N
 exact ⟨a, c, e⟩
theorem qz80 (base : Nat) (w : World) : qz19 base w (.slice none 0 0) (.slice none 0 0) (.slice none 0 0) (.slice none 0 0) qzag :=
 ⟨⟨rfl, Or.inl ⟨rfl, rfl⟩⟩, ⟨rfl, Or.inl ⟨rfl, rfl⟩⟩, ⟨rfl, Or.inl ⟨rfl, rfl⟩⟩, ⟨rfl, Or.inl ⟨rfl, rfl⟩⟩, fun b h => by cases h⟩
theorem qz19.aside {base : Nat} {w w' : World} {s g n r : Value} {A : Ar} (O : qz19 base w s g n r A) {q m : Nat} {t : TypeId} (hq : Blk w q t m) (h1 : 2 ≠ t) (h2 : 74 ≠ t) (h3 : 60 ≠ t) (k : Only q w w') : qz19 base w' s g n r A := by
 have B : But (fun c => c = q) w w' := But.of_only k rfl
 exact ⟨qz13 O.rs B (fun c m _ hc => hc.ne hq h1), qz13 O.rg B (fun c m _ hc => hc.ne hq h1), qz13 O.rn B (fun c m _ hc => hc.ne hq h2), qz13 O.rr B (fun c m _ hc => hc.ne hq h3), O.ne⟩
theorem qz7x {x y z u : Int} {A : Ar} (h : qzi x y z u A = true) : 0 < A.slots.length /\ 0 < A.guides.length /\ 0 < A.nodes.length /\ 0 < A.vers.length := by
 obtain ⟨h1, -⟩ := qz1z h
 simp only [qz64, qz2m, Bool.and_eq_true, qz1m, beq_iff_eq] at h1
 omega
theorem qz6c {w : World} {base : Nat} {e : TypeId} {sz : Nat} {v : Value} {n : Nat} {xs : List Value} (h : w.ownsRow base e sz v n xs) {j : Nat} (hj : v.ownBlock = some j) : base <= j := by
 rcases h.2 with ⟨rfl, -⟩ | ⟨g, cap, cur, rfl, hg, -⟩
 ·cases hj
 ·simp [Value.ownBlock] at hj
  omega
theorem qz6i.lower {base : Nat} {w w' : World} {s g n r s' g' n' r' : Value} {A A' : Ar} (E : qz6i base w w' s g n r s' g' n' r' A') (O : qz19 base w s g n r A) (hb : base <= w.heap.size) : Below base w w' :=
 E.but.below hb (fun k hk => by rcases hk with hk | hk | hk | hk; exact qz6c O.rs hk; exact qz6c O.rg hk; exact qz6c O.rn hk; exact qz6c O.rr hk)
end
section
def onAt (L : Nat -> Bool) (i : Nat) : Nat -> Bool := fun j => if j = i then true else L j
end
section
theorem qz98 {P : Program} {l : List Oper} {Q : Exit -> Act -> World -> Prop} {id : Nat} {a0 : Act} {w0 : World} (k : Nat) (hm : P.follows .mixedOrders = true)
  (J : (Nat -> Bool) -> World -> Prop) (hJ0 : J (fun _ => false) { w0 with drawn := w0.drawn + 1 }) (G : (Nat -> Bool) -> Nat -> Value -> World -> Prop) (hT : qz99 l.toArray k (l.length - k) = true) (hL : qz8o l.toArray = true) (hBk : qz7h l.toArray k = true) (hg : (l.take k).all (fun o => o.guard.isNone) = true)
  (hdst0 : dstB l.toArray a0.tmps.size = true)
  (step : ∀ (i : Nat) (o : Oper), i < k -> l[i]? = some o -> ∀ (L : Nat -> Bool) (a : Act) (w : World), L i = false -> (∀ j, L j = true -> j < k) -> (∀ j o', l[j]? = some o' -> L j = true -> ∀ e ∈ o'.after, Region.binds .any e = true -> L e.on = true) -> J L w -> (∀ t, qz5c l.toArray t = true -> a.eval (.tmp t) = a0.tmps.getD t undef) ->
   (∀ e ∈ o.after, Region.binds .any e = true -> ∀ d, qz10 l.toArray e.on = some d -> L e.on = true /\ G L e.on (a.eval (.tmp d)) w) ->
   ∀ K : Act -> World -> Prop, (∀ v w', G (onAt L i) i v w' -> J (onAt L i) w' -> (∀ j v', j ≠ i -> L j = true -> G L j v' w -> G (onAt L i) j v' w') -> K (a.put o.dst v) w') -> o.wp P a w K Q)
  (final : ∀ (L : Nat -> Bool) vs w', (∀ i, i < k -> L i = true) -> J L w' -> (∀ i, i < k -> G L i (vs i) w') ->
   wpList P l.toArray Q (l.drop k) (laid l.toArray vs (qz1u k 0 (Array.replicate l.toArray.size false)) (List.range l.toArray.size) a0) w') :
  (Code.region id l.toArray true).wp P Q a0 w0 := by
 have hdst := qz6y hdst0
 have L := qz49 hL
 have hBack : ∀ i, i < k -> ∀ o, l.toArray[i]? = some o -> ∀ e ∈ o.after, Region.binds .any e = true -> e.on < i := fun i hi o ho => qz7q hBk i hi o ho
 simp only [qz99, Bool.and_eq_true, beq_iff_eq] at hT
 obtain ⟨⟨hkm, hw⟩, hseq⟩ := hT
 have hsl : l.toArray.size = l.length := by simp
 have hkl : k <= l.length := by omega
 refine wp_region_any hm ?_
 have key : ∀ (c : Nat) (listed : Array Bool) (vs : Nat -> Value) (w : World), qz21 listed <= c + (l.length - k) -> listed.size = l.toArray.size -> qz2p .any l.toArray listed -> (∀ j, k <= j -> listed.getD j false = false) -> J (fun j => listed.getD j false) w ->
   (∀ i, i < l.toArray.size -> listed.getD i false = true -> G (fun j => listed.getD j false) i (vs i) w) ->
   wpAny P .any l.toArray Q (c + (l.length - k)) listed (laid l.toArray vs listed (List.range l.toArray.size) a0) w := by
  intro c
  induction c with
  | zero =>
   intro listed vs w hf hs hc htail hb hG
   by_cases hall : ∀ i, i < k -> listed.getD i false = true
   ·have he : listed = qz1u k 0 (Array.replicate l.toArray.size false) := by
     apply Array.ext
     ·rw [qzq, hs]; simp
     ·intro i h1 h2
      have g := qz12 k 0 (Array.replicate l.toArray.size false) i (by simp; omega)
      have g1 : (qz1u k 0 (Array.replicate l.toArray.size false))[i] = (qz1u k 0 (Array.replicate l.toArray.size false)).getD i false := qz1y _ _ h2
      have g2 : listed[i] = listed.getD i false := by simp [h1]
      rw [g1, g2, g]
      by_cases c : i < k
      ·rw [if_pos (by omega), hall i c]
      ·have hio : i < l.length := by omega
       rw [if_neg (by omega), htail i (by omega)]
       simp [hio]
    have hfin := final (fun j => listed.getD j false) vs w hall hb (fun i hi => hG i (by omega) (hall i hi))
    rw [<- he] at hfin
    have := qzk (P := P) (md := .any) (Q := Q) 0 (l.drop k) k listed _ w (fun j => by simp) (by rw [he]; simpa using hseq) hfin
    simpa using this
   ·exfalso
    simp only [Classical.not_forall] at hall
    obtain ⟨i, hi, hu⟩ := hall
    have := qz29 (m := l.length - k) (by omega) htail hi (by simpa using hu)
    omega
  | succ c ih =>
   intro listed vs w hf hs hc htail hb hG
   by_cases hall : ∀ i, i < k -> listed.getD i false = true
   ·have he : listed = qz1u k 0 (Array.replicate l.toArray.size false) := by
     apply Array.ext
     ·rw [qzq, hs]; simp
     ·intro i h1 h2
      have g := qz12 k 0 (Array.replicate l.toArray.size false) i (by simp; omega)
      have g1 : (qz1u k 0 (Array.replicate l.toArray.size false))[i] = (qz1u k 0 (Array.replicate l.toArray.size false)).getD i false := qz1y _ _ h2
      have g2 : listed[i] = listed.getD i false := by simp [h1]
      rw [g1, g2, g]
      by_cases c : i < k
      ·rw [if_pos (by omega), hall i c]
      ·have hio : i < l.length := by omega
       rw [if_neg (by omega), htail i (by omega)]
       simp [hio]
    have hfin := final (fun j => listed.getD j false) vs w hall hb (fun i hi => hG i (by omega) (hall i hi))
    rw [<- he] at hfin
    have := qzk (P := P) (md := .any) (Q := Q) (c + 1) (l.drop k) k listed _ w (fun j => by simp) (by rw [he]; simpa using hseq) hfin
    rw [show c + 1 + (l.length - k) = (l.drop k).length + (c + 1) by simp; omega]
    exact this
   simp only [Classical.not_forall] at hall
   obtain ⟨i1, hi1, hu1⟩ := hall
   have hu1' : listed.getD i1 false = false := by simpa using hu1
   have hu1'' : listed.getD i1 true = false := by
    have : i1 < listed.size := by omega
    simpa [this] using hu1'
   have hex : ∃ i, i < k /\ i ∈ Region.ready .any l.toArray listed := by
    apply Classical.byContradiction
    intro hno
    have : ∀ n i, i < n -> i < k -> listed.getD i false = true := by
     intro n
     induction n with
     | zero => intro i hi; omega
     | succ n ihn =>
      intro i hi hik
      rcases Nat.lt_or_ge i n with h | h
      ·exact ihn i h hik
      ·have hin : i = n := by omega
       subst hin
       cases hq : listed.getD i false with
       | true => rfl
       | false =>
        exfalso
        apply hno
        refine ⟨i, hik, mem_ready.2 ⟨?_, ?_⟩⟩
        ·have : i < listed.size := by omega
         simpa [this] using hq
        ·have hil : i < l.toArray.size := by omega
         refine ⟨l.toArray[i], by simp, fun e he hbd => ?_⟩
         exact ihn e.on (hBack i hik _ (by simp) e he hbd) (Nat.lt_trans (hBack i hik _ (by simp) e he hbd) hik)
    have h9 := this (i1 + 1) i1 (by omega) hi1
    rw [hu1'] at h9
    cases h9
   rw [show c + 1 + (l.length - k) = (c + (l.length - k)) + 1 by omega]
   obtain ⟨i0, hi0, hr0⟩ := hex
   refine ⟨fun h0 => (by rw [h0] at hr0; cases hr0), ?_⟩
   intro i hi
   have hik := qz1i hw hc hi1 hu1'' hi
   obtain ⟨h0, o, ho, hall⟩ := mem_ready.1 hi
   have hi' : i < l.toArray.size := (Array.getElem?_eq_some_iff.1 ho).1
   have hlt : i < listed.size := by omega
   have h1 : listed.getD i false = false := by simpa [hlt] using h0
   have ho' : l[i]? = some o := by simpa using ho
   have hguard : o.guard = none := by
    have := (List.all_eq_true.1 hg) o (List.mem_of_getElem? (i := i) (by rw [List.getElem?_take]; simp [hik, ho']))
    simpa using this
   have hnd : (List.range l.toArray.size).Nodup := List.nodup_range
   have hlt' : ∀ e ∈ o.after, Region.binds .any e = true -> ∀ d, qz10 l.toArray e.on = some d -> e.on < l.toArray.size /\ listed.getD e.on false = true /\ (laid l.toArray vs listed (List.range l.toArray.size) a0).eval (.tmp d) = vs e.on := by
    intro e he hbd d hd
    have hel := hall e he hbd
    have hes : e.on < l.toArray.size := by
     rcases Nat.lt_or_ge e.on l.toArray.size with h | h
     ·exact h
     ·simp only [qz10, Array.getElem?_eq_none h] at hd
      cases hd
    exact ⟨hes, hel, qz1v L vs listed e.on d hd hel _ _ hnd (List.mem_range.2 hes) (hdst _ _ hd)⟩
   have hstep := step i o hik ho' (fun j => listed.getD j false) (laid l.toArray vs listed (List.range l.toArray.size) a0) w h1 (fun j hj => by
     rcases Nat.lt_or_ge j k with h | h
     ·exact h
     ·have := htail j h; rw [this] at hj; cases hj) (fun j o' ho' hj e he hbd => hc j o' (by simpa using ho') hj e he hbd) hb
    (fun t ht => qzr l.toArray vs listed t _ _ (fun k _ => qz2t ht k))
    (fun e he hbd d hd => by
     obtain ⟨h2, h3, h4⟩ := hlt' e he hbd d hd
     rw [h4]
     exact ⟨h3, hG e.on h2 h3⟩)
   have hwn : Region.wanted o (yielded l.toArray (laid l.toArray vs listed (List.range l.toArray.size) a0).tmps) = true := by simp [Region.wanted, hguard]
   unfold wpOp
   simp only [ho, hwn, if_true]
   refine Or.inl (hstep _ ?_)
   intro v w' hGi hb' hkp
   have hLn : (fun j => (listed.setIfInBounds i true).getD j false) = onAt (fun j => listed.getD j false) i := by
    funext j
    unfold onAt
    by_cases hji : j = i
    ·subst hji
     rw [if_pos rfl]
     simp [hlt]
    ·rw [if_neg hji]
     exact getD_set_ne false (Ne.symm hji)
   have hd' : o.dst = qz10 l.toArray i := by simp only [qz10, ho, Option.bind_some]
   rw [hd', qz25 L vs listed i v hlt h1 _ _ hnd (List.mem_range.2 hi')]
   refine ih _ _ _ (by have := qz11 hlt h1; omega) (by simpa using hs) (hc.set hi) (fun j hj => by rw [getD_set_ne false (by omega)]; exact htail j hj) (by rw [hLn]; exact hb') ?_
   intro j hj hjl
   rw [hLn]
   by_cases hji : j = i
   ·subst hji
    simp only [upd, if_true]
    exact hGi
   ·rw [getD_set_ne false (Ne.symm hji)] at hjl
    simp only [upd, hji, if_false]
    exact hkp j _ hji hjl (hG j hj hjl)
 have hgf : ∀ i, (Array.replicate l.toArray.size false).getD i false = false := by
  intro i
  rcases Nat.lt_or_ge i l.toArray.size with h | h
  ·simp at h; simp [h]
  ·simp at h; simp [h]
 have h0 : laid l.toArray (fun _ => undef) (Array.replicate l.toArray.size false) (List.range l.toArray.size) a0 = a0 := by
  have : ∀ (q : List Nat) (a : Act), laid l.toArray (fun _ => undef) (Array.replicate l.toArray.size false) q a = a := by
   intro q
   induction q with
   | nil => intro a; rfl
   | cons i q ih =>
    intro a
    simp only [laid]
    rw [hgf i]
    simpa using ih a
  exact this _ _
 have hk := key k (Array.replicate l.toArray.size false) (fun _ => undef) { w0 with drawn := w0.drawn + 1 } (by unfold qz21; simp; omega) (by simp) (fun j o _ hj => by rw [hgf j] at hj; cases hj) (fun j _ => hgf j) (by have e : (fun j => (Array.replicate l.toArray.size false).getD j false) = fun _ => false := funext hgf; rw [e]; exact hJ0) (fun i hi h => by rw [hgf i] at h; cases h)
 rw [h0, show k + (l.length - k) = l.toArray.size by simp; omega] at hk
 exact hk
end
section
theorem qz73 {P : Program} {l : List Oper} {Q : Exit -> Act -> World -> Prop} {id : Nat} {a0 : Act} {w0 : World} (k : Nat) (hm : P.follows .mixedOrders = true)
  (J : (Nat -> Bool) -> World -> Prop) (hJ0 : J (fun _ => false) { w0 with drawn := w0.drawn + 1 }) (G : (Nat -> Bool) -> Nat -> Value -> World -> Prop) (hT : qz99 l.toArray k (l.length - k) = true) (hL : qz8o l.toArray = true) (hBk : qz7h l.toArray k = true) (hg : (l.take k).all (fun o => o.guard.isNone) = true)
  (hdst0 : dstB l.toArray a0.tmps.size = true)
  (step : ∀ (i : Nat) (o : Oper), i < k -> l[i]? = some o -> ∀ (L : Nat -> Bool) (a : Act) (w : World), L i = false -> (∀ j, L j = true -> j < k) -> (∀ j o', l[j]? = some o' -> L j = true -> ∀ e ∈ o'.after, Region.binds .any e = true -> L e.on = true) -> J L w -> (∀ t, qz5c l.toArray t = true -> a.eval (.tmp t) = a0.tmps.getD t undef) ->
   (∀ e ∈ o.after, Region.binds .any e = true -> ∀ d, qz10 l.toArray e.on = some d -> L e.on = true /\ G L e.on (a.eval (.tmp d)) w) ->
   ∀ K : Act -> World -> Prop, (∀ v w', G (onAt L i) i v w' -> J (onAt L i) w' -> (∀ j v', j ≠ i -> L j = true -> (∀ d, qz10 l.toArray j = some d -> a.eval (.tmp d) = v') -> G L j v' w -> G (onAt L i) j v' w') -> K (a.put o.dst v) w') -> o.wp P a w K Q)
  (final : ∀ (L : Nat -> Bool) vs w', (∀ i, i < k -> L i = true) -> J L w' -> (∀ i, i < k -> G L i (vs i) w') ->
   wpList P l.toArray Q (l.drop k) (laid l.toArray vs (qz1u k 0 (Array.replicate l.toArray.size false)) (List.range l.toArray.size) a0) w') :
  (Code.region id l.toArray true).wp P Q a0 w0 := by
 have hdst := qz6y hdst0
 have L := qz49 hL
 have hBack : ∀ i, i < k -> ∀ o, l.toArray[i]? = some o -> ∀ e ∈ o.after, Region.binds .any e = true -> e.on < i := fun i hi o ho => qz7q hBk i hi o ho
 simp only [qz99, Bool.and_eq_true, beq_iff_eq] at hT
 obtain ⟨⟨hkm, hw⟩, hseq⟩ := hT
 have hsl : l.toArray.size = l.length := by simp
 have hkl : k <= l.length := by omega
 refine wp_region_any hm ?_
 have key : ∀ (c : Nat) (listed : Array Bool) (vs : Nat -> Value) (w : World), qz21 listed <= c + (l.length - k) -> listed.size = l.toArray.size -> qz2p .any l.toArray listed -> (∀ j, k <= j -> listed.getD j false = false) -> J (fun j => listed.getD j false) w ->
   (∀ i, i < l.toArray.size -> listed.getD i false = true -> G (fun j => listed.getD j false) i (vs i) w) ->
   wpAny P .any l.toArray Q (c + (l.length - k)) listed (laid l.toArray vs listed (List.range l.toArray.size) a0) w := by
  intro c
  induction c with
  | zero =>
   intro listed vs w hf hs hc htail hb hG
   by_cases hall : ∀ i, i < k -> listed.getD i false = true
   ·have he : listed = qz1u k 0 (Array.replicate l.toArray.size false) := by
     apply Array.ext
     ·rw [qzq, hs]; simp
     ·intro i h1 h2
      have g := qz12 k 0 (Array.replicate l.toArray.size false) i (by simp; omega)
      have g1 : (qz1u k 0 (Array.replicate l.toArray.size false))[i] = (qz1u k 0 (Array.replicate l.toArray.size false)).getD i false := qz1y _ _ h2
      have g2 : listed[i] = listed.getD i false := by simp [h1]
      rw [g1, g2, g]
      by_cases c : i < k
      ·rw [if_pos (by omega), hall i c]
      ·have hio : i < l.length := by omega
       rw [if_neg (by omega), htail i (by omega)]
       simp [hio]
    have hfin := final (fun j => listed.getD j false) vs w hall hb (fun i hi => hG i (by omega) (hall i hi))
    rw [<- he] at hfin
    have := qzk (P := P) (md := .any) (Q := Q) 0 (l.drop k) k listed _ w (fun j => by simp) (by rw [he]; simpa using hseq) hfin
    simpa using this
   ·exfalso
    simp only [Classical.not_forall] at hall
    obtain ⟨i, hi, hu⟩ := hall
    have := qz29 (m := l.length - k) (by omega) htail hi (by simpa using hu)
    omega
  | succ c ih =>
   intro listed vs w hf hs hc htail hb hG
   by_cases hall : ∀ i, i < k -> listed.getD i false = true
   ·have he : listed = qz1u k 0 (Array.replicate l.toArray.size false) := by
     apply Array.ext
     ·rw [qzq, hs]; simp
     ·intro i h1 h2
      have g := qz12 k 0 (Array.replicate l.toArray.size false) i (by simp; omega)
      have g1 : (qz1u k 0 (Array.replicate l.toArray.size false))[i] = (qz1u k 0 (Array.replicate l.toArray.size false)).getD i false := qz1y _ _ h2
      have g2 : listed[i] = listed.getD i false := by simp [h1]
      rw [g1, g2, g]
      by_cases c : i < k
      ·rw [if_pos (by omega), hall i c]
      ·have hio : i < l.length := by omega
       rw [if_neg (by omega), htail i (by omega)]
       simp [hio]
    have hfin := final (fun j => listed.getD j false) vs w hall hb (fun i hi => hG i (by omega) (hall i hi))
    rw [<- he] at hfin
    have := qzk (P := P) (md := .any) (Q := Q) (c + 1) (l.drop k) k listed _ w (fun j => by simp) (by rw [he]; simpa using hseq) hfin
    rw [show c + 1 + (l.length - k) = (l.drop k).length + (c + 1) by simp; omega]
    exact this
   simp only [Classical.not_forall] at hall
   obtain ⟨i1, hi1, hu1⟩ := hall
   have hu1' : listed.getD i1 false = false := by simpa using hu1
   have hu1'' : listed.getD i1 true = false := by
    have : i1 < listed.size := by omega
    simpa [this] using hu1'
   have hex : ∃ i, i < k /\ i ∈ Region.ready .any l.toArray listed := by
    apply Classical.byContradiction
    intro hno
    have : ∀ n i, i < n -> i < k -> listed.getD i false = true := by
     intro n
     induction n with
     | zero => intro i hi; omega
     | succ n ihn =>
      intro i hi hik
      rcases Nat.lt_or_ge i n with h | h
      ·exact ihn i h hik
      ·have hin : i = n := by omega
       subst hin
       cases hq : listed.getD i false with
       | true => rfl
       | false =>
        exfalso
        apply hno
        refine ⟨i, hik, mem_ready.2 ⟨?_, ?_⟩⟩
        ·have : i < listed.size := by omega
         simpa [this] using hq
        ·have hil : i < l.toArray.size := by omega
         refine ⟨l.toArray[i], by simp, fun e he hbd => ?_⟩
         exact ihn e.on (hBack i hik _ (by simp) e he hbd) (Nat.lt_trans (hBack i hik _ (by simp) e he hbd) hik)
    have h9 := this (i1 + 1) i1 (by omega) hi1
    rw [hu1'] at h9
    cases h9
   rw [show c + 1 + (l.length - k) = (c + (l.length - k)) + 1 by omega]
   obtain ⟨i0, hi0, hr0⟩ := hex
   refine ⟨fun h0 => (by rw [h0] at hr0; cases hr0), ?_⟩
   intro i hi
   have hik := qz1i hw hc hi1 hu1'' hi
   obtain ⟨h0, o, ho, hall⟩ := mem_ready.1 hi
   have hi' : i < l.toArray.size := (Array.getElem?_eq_some_iff.1 ho).1
   have hlt : i < listed.size := by omega
   have h1 : listed.getD i false = false := by simpa [hlt] using h0
   have ho' : l[i]? = some o := by simpa using ho
   have hguard : o.guard = none := by
    have := (List.all_eq_true.1 hg) o (List.mem_of_getElem? (i := i) (by rw [List.getElem?_take]; simp [hik, ho']))
    simpa using this
   have hnd : (List.range l.toArray.size).Nodup := List.nodup_range
   have hlt' : ∀ e ∈ o.after, Region.binds .any e = true -> ∀ d, qz10 l.toArray e.on = some d -> e.on < l.toArray.size /\ listed.getD e.on false = true /\ (laid l.toArray vs listed (List.range l.toArray.size) a0).eval (.tmp d) = vs e.on := by
    intro e he hbd d hd
    have hel := hall e he hbd
    have hes : e.on < l.toArray.size := by
     rcases Nat.lt_or_ge e.on l.toArray.size with h | h
     ·exact h
     ·simp only [qz10, Array.getElem?_eq_none h] at hd
      cases hd
    exact ⟨hes, hel, qz1v L vs listed e.on d hd hel _ _ hnd (List.mem_range.2 hes) (hdst _ _ hd)⟩
   have hstep := step i o hik ho' (fun j => listed.getD j false) (laid l.toArray vs listed (List.range l.toArray.size) a0) w h1 (fun j hj => by
     rcases Nat.lt_or_ge j k with h | h
     ·exact h
     ·have := htail j h; rw [this] at hj; cases hj) (fun j o' ho' hj e he hbd => hc j o' (by simpa using ho') hj e he hbd) hb
    (fun t ht => qzr l.toArray vs listed t _ _ (fun k _ => qz2t ht k))
    (fun e he hbd d hd => by
     obtain ⟨h2, h3, h4⟩ := hlt' e he hbd d hd
     rw [h4]
     exact ⟨h3, hG e.on h2 h3⟩)
   have hwn : Region.wanted o (yielded l.toArray (laid l.toArray vs listed (List.range l.toArray.size) a0).tmps) = true := by simp [Region.wanted, hguard]
   unfold wpOp
   simp only [ho, hwn, if_true]
   refine Or.inl (hstep _ ?_)
   intro v w' hGi hb' hkp
   have hLn : (fun j => (listed.setIfInBounds i true).getD j false) = onAt (fun j => listed.getD j false) i := by
    funext j
    unfold onAt
    by_cases hji : j = i
    ·subst hji
     rw [if_pos rfl]
     simp [hlt]
    ·rw [if_neg hji]
     exact getD_set_ne false (Ne.symm hji)
   have hd' : o.dst = qz10 l.toArray i := by simp only [qz10, ho, Option.bind_some]
   rw [hd', qz25 L vs listed i v hlt h1 _ _ hnd (List.mem_range.2 hi')]
   refine ih _ _ _ (by have := qz11 hlt h1; omega) (by simpa using hs) (hc.set hi) (fun j hj => by rw [getD_set_ne false (by omega)]; exact htail j hj) (by rw [hLn]; exact hb') ?_
   intro j hj hjl
   rw [hLn]
   by_cases hji : j = i
   ·subst hji
    simp only [upd, if_true]
    exact hGi
   ·rw [getD_set_ne false (Ne.symm hji)] at hjl
    simp only [upd, hji, if_false]
    exact hkp j _ hji hjl (fun d hdj => qz1v L vs listed j d hdj hjl _ _ hnd (List.mem_range.2 hj) (hdst _ _ hdj)) (hG j hj hjl)
 have hgf : ∀ i, (Array.replicate l.toArray.size false).getD i false = false := by
  intro i
  rcases Nat.lt_or_ge i l.toArray.size with h | h
  ·simp at h; simp [h]
  ·simp at h; simp [h]
 have h0 : laid l.toArray (fun _ => undef) (Array.replicate l.toArray.size false) (List.range l.toArray.size) a0 = a0 := by
  have : ∀ (q : List Nat) (a : Act), laid l.toArray (fun _ => undef) (Array.replicate l.toArray.size false) q a = a := by
   intro q
   induction q with
   | nil => intro a; rfl
   | cons i q ih =>
    intro a
    simp only [laid]
    rw [hgf i]
    simpa using ih a
  exact this _ _
 have hk := key k (Array.replicate l.toArray.size false) (fun _ => undef) { w0 with drawn := w0.drawn + 1 } (by unfold qz21; simp; omega) (by simp) (fun j o _ hj => by rw [hgf j] at hj; cases hj) (fun j _ => hgf j) (by have e : (fun j => (Array.replicate l.toArray.size false).getD j false) = fun _ => false := funext hgf; rw [e]; exact hJ0) (fun i hi h => by rw [hgf i] at h; cases h)
 rw [h0, show k + (l.length - k) = l.toArray.size by simp; omega] at hk
 exact hk
end
end Go.Proofs.YtlfjhcdjgoeafaaDoor
