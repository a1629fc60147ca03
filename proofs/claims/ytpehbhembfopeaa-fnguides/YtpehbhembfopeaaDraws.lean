/-
  What is drawn out of bytes for chapter 1: some Plan and some number, as contracts: that the draw answers, and writes nothing but its cursor. For every list of bytes.
-/
import Derived.Test.YtpehbhembfopeaaDice
import Derived.Deep.RegionWith
import Derived.BigRegion
namespace Go.Proofs.Ytpehbhembfopeaa
open Go.ChangeShapes Go.WideShapes Go.ChangeAt Go.RowKit
set_option linter.unusedVariables false

/-- A row of int64 at the head of block b. -/
def IntsAt (w : World) (b : Nat) (xs : List Int) : Prop := b < w.heap.size ∧ ∀ j, j < xs.length → w.cell? ⟨b, j, none⟩ = some (.int .i64 (xs.getD j 0))

theorem intsAt_alloc (w : World) (xs : List Int) (C : Array Value) (T : TypeId) (h : C = (xs.map (Value.int .i64)).toArray) : IntsAt (w.alloc (.cells C T)) w.heap.size xs := by
  refine ⟨by simp, fun j hj => ?_⟩
  rw [World.cell?_alloc_new, h]
  simp [hj]

theorem IntsAt.only {w w' : World} {b c : Nat} {xs : List Int} (h : IntsAt w b xs) (hO : Only c w w') (hne : b ≠ c) : IntsAt w' b xs :=
  ⟨Nat.lt_of_lt_of_le h.1 hO.size, fun j hj => (hO.cell (p := ⟨b, j, none⟩) h.1 hne).trans (h.2 j hj)⟩

/-- A cursor, behind a new block. -/
theorem DiceAt.alloc {k : IntKind} {w : World} {b : Nat} {a : Option Addr} {len cap : Nat} {i h : Int} (D : DiceAt k w b a len cap i h) (o : Obj) : DiceAt k (w.alloc o) b a len cap i h :=
  D.only ((Only.refl w.heap.size w).alloc o) (by have := D.blk; omega)

theorem BytesAt.alloc {B : Nat} {w : World} {a : Option Addr} {len : Nat} (h : BytesAt B w a len) (hB : B ≤ w.heap.size) (o : Obj) : BytesAt B (w.alloc o) a len :=
  h.below ((Below.refl _ _).alloc hB o)

theorem BytesAt.drew {B : Nat} {w : World} {a : Option Addr} {len : Nat} (h : BytesAt B w a len) : BytesAt B w.drew a len := h.below (Below.refl _ _).drew
theorem BytesAt.weaken {B B' : Nat} {w : World} {a : Option Addr} {len : Nat} (h : BytesAt B w a len) (hB : B ≤ B') : BytesAt B' w a len := by
  intro j hj
  obtain ⟨bb, off, v, h1, h2, h3⟩ := h j hj
  exact ⟨bb, off, v, h1, by omega, h3⟩

set_option maxHeartbeats 400000 in
theorem l1Odd_any (B b : Nat) (a : Option Addr) (len cap : Nat) (i h : Int) (w : World) (hB : B ≤ b) (hlen : len ≤ 4096) (D : DiceAt .i64 w b a len cap i h) (C : BytesAt B w a len) :
    Calls Try.prog 33 #[.pointer (some ⟨b, 0, none⟩)] w fun e w' => ∃ r i' h', e = .returned (.int .i64 r) ∧ DiceAt .i64 w' b a len cap i' h' ∧ BytesAt B w' a len ∧ Only b w w' := by
  have blk := D.blk
  go_enter Try.func33, Try.ntmps33
  go_wp2_with fail
  refine (l1Below_any B b a len cap i h 10 _ hB hlen (D.alloc _) (C.alloc (by omega) _) (by omega) (by omega)).mono ?_
  rintro e w1 ⟨r, i1, h1, rfl, r0, r1, D1, C1, O1⟩
  have I1 := (intsAt_alloc w [-1, 0, 1, 2147483648, -2147483648, 1099511627776, 4611686018427387904, -4611686018427387904, 9223372036854775807, -9223372036854775808] _ 2 rfl).only O1 (by omega)
  obtain ⟨rN, rfl⟩ := Int.eq_ofNat_of_zero_le r0
  obtain ⟨v, hv⟩ : ∃ v, w1.cell? ⟨w.heap.size, rN, none⟩ = some (.int .i64 v) := ⟨_, I1.2 rN (by simp; omega)⟩
  clear I1
  have r2 : (rN : Int) < 10 := r1
  go_wp2
  go_ret
  exact ⟨v, i1, h1, rfl, D1, C1, ((Only.refl _ _).alloc _).trans O1⟩

set_option maxHeartbeats 1000000 in
theorem l1Num_any (B b : Nat) (a : Option Addr) (len cap : Nat) (i h m : Int) (w : World) (hB : B ≤ b) (hlen : len ≤ 4096) (D : DiceAt .i64 w b a len cap i h) (C : BytesAt B w a len) (hm1 : 0 ≤ m) (hm2 : m ≤ 100000) :
    Calls Try.prog 23 #[.pointer (some ⟨b, 0, none⟩), .int .i64 m] w fun e w' => ∃ r i' h', e = .returned (.int .i64 r) ∧ DiceAt .i64 w' b a len cap i' h' ∧ BytesAt B w' a len ∧ Only b w w' := by
  go_enter Try.func23, Try.ntmps23
  go_wp2_with fail
  refine (l1Once_any B b a len cap i h 10 _ hB hlen D C (by omega) (by omega)).mono ?_
  rintro e w1 ⟨r, i1, h1, rfl, D1, C1, O1⟩
  cases r
  · go_wp2_with fail
    refine (l1Once_any B b a len cap i1 h1 2 _ hB hlen D1 C1 (by omega) (by omega)).mono ?_
    rintro e w2 ⟨r, i2, h2, rfl, D2, C2, O2⟩
    cases r
    · go_wp2_with fail
      refine (l1Below_any B b a len cap i2 h2 _ _ hB hlen D2 C2 (by omega) (by omega)).mono ?_
      rintro e w3 ⟨r, i3, h3, rfl, r0, r1, D3, C3, O3⟩
      go_wp2
      go_ret
      exact ⟨_, i3, h3, rfl, D3, C3, (O1.trans O2).trans O3⟩
    · go_wp2_with fail
      refine (l1Min_any _ _ _).mono ?_
      rintro e w3 ⟨rfl, rfl⟩
      have hq : 0 ≤ min m 4 ∧ min m 4 ≤ 4 := by omega
      generalize min m 4 = q at *
      obtain ⟨q0, q1⟩ := hq
      go_wp2_with fail
      refine (l1Below_any B b a len cap i2 h2 _ _ hB hlen D2 C2 (by omega) (by omega)).mono ?_
      rintro e w3 ⟨r, i3, h3, rfl, r0, r1, D3, C3, O3⟩
      go_wp2
      go_ret
      exact ⟨_, i3, h3, rfl, D3, C3, (O1.trans O2).trans O3⟩
  · go_wp2_with fail
    refine (l1Odd_any B b a len cap i1 h1 _ hB hlen D1 C1).mono ?_
    rintro e w2 ⟨z, i2, h2, rfl, D2, C2, O2⟩
    go_wp2_with fail
    refine (l1Below_any B b a len cap i2 h2 4 _ hB hlen (D2.alloc _) (C2.alloc (by have := D2.blk; omega) _) (by omega) (by omega)).mono ?_
    rintro e w3 ⟨r, i3, h3, rfl, r0, r1, D3, C3, O3⟩
    have I3 := (intsAt_alloc w2 [-1, m, m + 1, z] _ 2 rfl).only O3 (by have := D2.blk; omega)
    obtain ⟨rN, rfl⟩ := Int.eq_ofNat_of_zero_le r0
    obtain ⟨v, hv⟩ : ∃ v, w3.cell? ⟨w2.heap.size, rN, none⟩ = some (.int .i64 v) := ⟨_, I3.2 rN (by simp; omega)⟩
    clear I3
    go_wp2
    go_ret
    exact ⟨v, i3, h3, rfl, D3, C3, (O1.trans O2).trans (((Only.refl _ _).alloc _).trans O3)⟩

/-- A Plan in a block of the call's own, none of it frozen. -/
structure PlanNew (w : World) (b : Nat) (x y z u : Int) : Prop where
  c0 : w.cell? ⟨b, 0, none⟩ = some (.int .i64 x)
  c1 : w.cell? ⟨b, 1, none⟩ = some (.int .i64 y)
  c2 : w.cell? ⟨b, 2, none⟩ = some (.int .i64 z)
  c3 : w.cell? ⟨b, 3, none⟩ = some (.int .i64 u)
  f0 : w.frozen? ⟨b, 0, none⟩ = false
  f1 : w.frozen? ⟨b, 1, none⟩ = false
  f2 : w.frozen? ⟨b, 2, none⟩ = false
  f3 : w.frozen? ⟨b, 3, none⟩ = false
  blk : b < w.heap.size

theorem planNew_alloc (w : World) (x y z u : Int) (T : TypeId) : PlanNew (w.alloc (.cells #[.int .i64 x, .int .i64 y, .int .i64 z, .int .i64 u] T)) w.heap.size x y z u := by
  refine ⟨?_, ?_, ?_, ?_, ?_, ?_, ?_, ?_, by simp⟩ <;> simp

theorem PlanNew.only {w w' : World} {b c : Nat} {x y z u : Int} (P : PlanNew w b x y z u) (hO : Only c w w') (hne : b ≠ c) : PlanNew w' b x y z u :=
  ⟨(hO.cell (p := ⟨b, 0, none⟩) P.blk hne).trans P.c0, (hO.cell (p := ⟨b, 1, none⟩) P.blk hne).trans P.c1, (hO.cell (p := ⟨b, 2, none⟩) P.blk hne).trans P.c2, (hO.cell (p := ⟨b, 3, none⟩) P.blk hne).trans P.c3,
   (hO.frozen (p := ⟨b, 0, none⟩) P.blk hne).trans P.f0, (hO.frozen (p := ⟨b, 1, none⟩) P.blk hne).trans P.f1, (hO.frozen (p := ⟨b, 2, none⟩) P.blk hne).trans P.f2, (hO.frozen (p := ⟨b, 3, none⟩) P.blk hne).trans P.f3, Nat.lt_of_lt_of_le P.blk hO.size⟩

theorem PlanNew.below {w w' : World} {b : Nat} {x y z u : Int} (P : PlanNew w b x y z u) (hb : Below w.heap.size w w') : PlanNew w' b x y z u :=
  P.only (c := w.heap.size) (Only.of_below hb) (by have := P.blk; omega)

theorem PlanNew.drew {w : World} {b : Nat} {x y z u : Int} (P : PlanNew w b x y z u) : PlanNew w.drew b x y z u :=
  P.only (c := w.heap.size) (Only.refl _ _).drew (by have := P.blk; omega)

theorem PlanNew.alloc {w : World} {b : Nat} {x y z u : Int} (P : PlanNew w b x y z u) (o : Obj) : PlanNew (w.alloc o) b x y z u :=
  P.only ((Only.refl w.heap.size w).alloc o) (by have := P.blk; omega)

theorem PlanNew.set0 {w : World} {b : Nat} {x y z u : Int} (P : PlanNew w b x y z u) (q : Int) : PlanNew (w.setCell ⟨b, 0, none⟩ (.int .i64 q)) b q y z u :=
  ⟨World.cell?_setCell_same _ _ _ P.c0, (World.cell?_setCell_other _ _ _ _ (by simp)).trans P.c1, (World.cell?_setCell_other _ _ _ _ (by simp)).trans P.c2, (World.cell?_setCell_other _ _ _ _ (by simp)).trans P.c3, (World.frozen?_setCell _ _ _ _).trans P.f0, (World.frozen?_setCell _ _ _ _).trans P.f1, (World.frozen?_setCell _ _ _ _).trans P.f2, (World.frozen?_setCell _ _ _ _).trans P.f3, by rw [World.size_setCell]; exact P.blk⟩
theorem PlanNew.set1 {w : World} {b : Nat} {x y z u : Int} (P : PlanNew w b x y z u) (q : Int) : PlanNew (w.setCell ⟨b, 1, none⟩ (.int .i64 q)) b x q z u :=
  ⟨(World.cell?_setCell_other _ _ _ _ (by simp)).trans P.c0, World.cell?_setCell_same _ _ _ P.c1, (World.cell?_setCell_other _ _ _ _ (by simp)).trans P.c2, (World.cell?_setCell_other _ _ _ _ (by simp)).trans P.c3, (World.frozen?_setCell _ _ _ _).trans P.f0, (World.frozen?_setCell _ _ _ _).trans P.f1, (World.frozen?_setCell _ _ _ _).trans P.f2, (World.frozen?_setCell _ _ _ _).trans P.f3, by rw [World.size_setCell]; exact P.blk⟩
theorem PlanNew.set2 {w : World} {b : Nat} {x y z u : Int} (P : PlanNew w b x y z u) (q : Int) : PlanNew (w.setCell ⟨b, 2, none⟩ (.int .i64 q)) b x y q u :=
  ⟨(World.cell?_setCell_other _ _ _ _ (by simp)).trans P.c0, (World.cell?_setCell_other _ _ _ _ (by simp)).trans P.c1, World.cell?_setCell_same _ _ _ P.c2, (World.cell?_setCell_other _ _ _ _ (by simp)).trans P.c3, (World.frozen?_setCell _ _ _ _).trans P.f0, (World.frozen?_setCell _ _ _ _).trans P.f1, (World.frozen?_setCell _ _ _ _).trans P.f2, (World.frozen?_setCell _ _ _ _).trans P.f3, by rw [World.size_setCell]; exact P.blk⟩
theorem PlanNew.set3 {w : World} {b : Nat} {x y z u : Int} (P : PlanNew w b x y z u) (q : Int) : PlanNew (w.setCell ⟨b, 3, none⟩ (.int .i64 q)) b x y z q :=
  ⟨(World.cell?_setCell_other _ _ _ _ (by simp)).trans P.c0, (World.cell?_setCell_other _ _ _ _ (by simp)).trans P.c1, (World.cell?_setCell_other _ _ _ _ (by simp)).trans P.c2, World.cell?_setCell_same _ _ _ P.c3, (World.frozen?_setCell _ _ _ _).trans P.f0, (World.frozen?_setCell _ _ _ _).trans P.f1, (World.frozen?_setCell _ _ _ _).trans P.f2, (World.frozen?_setCell _ _ _ _).trans P.f3, by rw [World.size_setCell]; exact P.blk⟩

/-- Four cells of a block are written. -/
theorem only_set4 (w : World) (c : Nat) (x y z u : Int) : Only c w ((((w.setCell ⟨c, 0, none⟩ (.int .i64 x)).setCell ⟨c, 1, none⟩ (.int .i64 y)).setCell ⟨c, 2, none⟩ (.int .i64 z)).setCell ⟨c, 3, none⟩ (.int .i64 u)) :=
  ((((Only.refl c w).setCell (Or.inl rfl) _).setCell (Or.inl rfl) _).setCell (Or.inl rfl) _).setCell (Or.inl rfl) _
theorem Only.set4 {b c : Nat} {x w : World} (h : Only b x w) (hc : x.heap.size ≤ c) (p q r s : Int) : Only b x ((((w.setCell ⟨c, 0, none⟩ (.int .i64 p)).setCell ⟨c, 1, none⟩ (.int .i64 q)).setCell ⟨c, 2, none⟩ (.int .i64 r)).setCell ⟨c, 3, none⟩ (.int .i64 s)) :=
  (((h.setCell (Or.inr hc) _).setCell (Or.inr hc) _).setCell (Or.inr hc) _).setCell (Or.inr hc) _

set_option maxHeartbeats 1000000 in
theorem l1DrawPlan_any (B b : Nat) (a : Option Addr) (len cap : Nat) (i h : Int) (w : World) (hB : B ≤ b) (hlen : len ≤ 4096) (D : DiceAt .i64 w b a len cap i h) (C : BytesAt B w a len) :
    Calls Try.prog 30 #[.pointer (some ⟨b, 0, none⟩)] w fun e w' => ∃ x y z u i' h', e = .returned (.agg #[.int .i64 x, .int .i64 y, .int .i64 z, .int .i64 u]) ∧ DiceAt .i64 w' b a len cap i' h' ∧ BytesAt B w' a len ∧ Only b w w' := by
  have blk := D.blk
  go_enter Try.func30, Try.ntmps30
  go_wp2_with fail
  have R0 := planNew_alloc w 0 0 0 0 28
  refine (l1Below_any B b a len cap i h 4 _ hB hlen (D.alloc _) (C.alloc (by omega) _) (by omega) (by omega)).mono ?_
  rintro e w1 ⟨r1, i1, h1, rfl, r10, r11, D1, C1, O1⟩
  have R1 := R0.only O1 (by omega)
  go_wp2_with fail
  refine (l1Below_any B b a len cap i1 h1 12 _ hB hlen D1 C1 (by omega) (by omega)).mono ?_
  rintro e w2 ⟨r2, i2, h2, rfl, r20, r21, D2, C2, O2⟩
  have R2 := R1.only O2 (by omega)
  go_wp2_with fail
  refine (l1Below_any B b a len cap i2 h2 60 _ hB hlen D2 C2 (by omega) (by omega)).mono ?_
  rintro e w3 ⟨r3, i3, h3, rfl, r30, r31, D3, C3, O3⟩
  have R3 := R2.only O3 (by omega)
  go_wp2_with fail
  refine (l1Below_any B b a len cap i3 h3 4 _ hB hlen D3 C3 (by omega) (by omega)).mono ?_
  rintro e w4 ⟨r4, i4, h4, rfl, r40, r41, D4, C4, O4⟩
  have R4 := R3.only O4 (by omega)
  have b4 := D4.blk
  have O04 := ((((Only.refl b w).alloc (Obj.cells #[.int .i64 0, .int .i64 0, .int .i64 0, .int .i64 0] 28)).trans O1).trans O2).trans (O3.trans O4)
  clear R0 R1 R2 R3 D1 D2 D3 C1 C2 C3 O1 O2 O3 O4
  go_wp2_with fail
  have P5 := planNew_alloc w4 (1 + r1) (2 + r2) (10 + r3) (1 + r4) 28
  refine (l1Once_any B b a len cap i4 h4 8 _ hB hlen (D4.alloc _) (C4.alloc (by omega) _) (by omega) (by omega)).mono ?_
  rintro e w5 ⟨r5, i5, h5, rfl, D5, C5, O5⟩
  have P6 := P5.only O5 (by omega)
  have R5 := (R4.alloc _).only O5 (by omega)
  have O05 := (O04.alloc _).trans O5
  have hz4 := R4.blk
  have hz5 := P6.blk
  clear P5 R4 O5 D4 C4 O04
  cases r5
  · obtain ⟨c0, c1, c2, c3, _, _, _, _, _⟩ := P6
    obtain ⟨k0, k1, k2, k3, f0, f1, f2, f3, _⟩ := R5
    go_wp2
    exact bodyPost_ret (v := .agg #[.int .i64 (1 + r1), .int .i64 (2 + r2), .int .i64 (10 + r3), .int .i64 (1 + r4)]) (by simp [results, Try.results30, go_sem, k0, k1, k2, k3]) rfl ⟨_, _, _, _, i5, h5, rfl, D5.only (only_set4 _ _ _ _ _ _) (by omega), C5.below ((only_set4 _ _ _ _ _ _).below (by omega) (by omega)), O05.set4 (by omega) _ _ _ _⟩
  · go_wp2_with fail
    refine (l1Below_any B b a len cap i5 h5 12 _ hB hlen D5 C5 (by omega) (by omega)).mono ?_
    rintro e w6 ⟨r6, i6, h6, rfl, r60, r61, D6, C6, O6⟩
    have P7 := P6.only O6 (by omega)
    have R6 := R5.only O6 (by omega)
    have O06 := O05.trans O6
    have hz6 := O6.size
    clear P6 R5 D5 C5 O6
    obtain ⟨c0, c1, c2, c3, _, _, g2, _, _⟩ := P7
    obtain ⟨k0, k1, k2, k3, f0, f1, f2, f3, _⟩ := R6
    go_wp2
    exact bodyPost_ret (v := .agg #[.int .i64 (1 + r1), .int .i64 (2 + r2), .int .i64 (1 + r6), .int .i64 (1 + r4)]) (by simp [results, Try.results30, go_sem, k0, k1, k2, k3]) rfl ⟨_, _, _, _, i6, h6, rfl, (D6.only ((Only.refl w4.heap.size w6).setCell (Or.inl rfl) _) (by omega)).only (only_set4 _ _ _ _ _ _) (by omega), (C6.below ((Below.refl _ _).setCell (by simp; omega) _)).below ((only_set4 _ _ _ _ _ _).below (by omega) (by simp; omega)), (O06.setCell (Or.inr (by simp; omega)) _).set4 (by omega) _ _ _ _⟩

set_option maxHeartbeats 2000000 in
theorem l1DrawAny_any (B b : Nat) (a : Option Addr) (len cap : Nat) (i h : Int) (w : World) (hB : B ≤ b) (hlen : len ≤ 4096) (D : DiceAt .i64 w b a len cap i h) (C : BytesAt B w a len) :
    Calls Try.prog 22 #[.pointer (some ⟨b, 0, none⟩)] w fun e w' => ∃ x y z u i' h', e = .returned (.agg #[.int .i64 x, .int .i64 y, .int .i64 z, .int .i64 u]) ∧ DiceAt .i64 w' b a len cap i' h' ∧ BytesAt B w' a len ∧ Only b w w' := by
  have blk := D.blk
  go_enter Try.func22, Try.ntmps22
  go_wp2_with fail
  have R0 := planNew_alloc w 0 0 0 0 28
  refine (l1DrawPlan_any B b a len cap i h _ hB hlen (D.alloc _) (C.alloc (by omega) _)).mono ?_
  rintro e w1 ⟨x, y, z, u, i1, h1, rfl, D1, C1, O1⟩
  have R1 := R0.only O1 (by omega)
  have hz1 := O1.size
  simp at hz1
  have b1 := D1.blk
  go_wp2_with fail
  have P2 := planNew_alloc w1 x y z u 28
  refine (l1Once_any B b a len cap i1 h1 6 _ hB hlen (D1.alloc _) (C1.alloc (by omega) _) (by omega) (by omega)).mono ?_
  rintro e w3 ⟨r3, i3, h3, rfl, D3, C3, O3⟩
  have P3 := P2.only O3 (by omega)
  have R3 := (R1.alloc _).only O3 (by omega)
  have O03 := (((((Only.refl b w).alloc (Obj.cells #[.int .i64 0, .int .i64 0, .int .i64 0, .int .i64 0] 28)).trans O1)).alloc _).trans O3
  have hz3 := P3.blk
  clear R0 R1 P2 D1 C1 O1 O3
  cases r3
  · obtain ⟨c0, c1, c2, c3, _, _, _, _, _⟩ := P3
    obtain ⟨k0, k1, k2, k3, f0, f1, f2, f3, _⟩ := R3
    go_wp2
    exact bodyPost_ret (v := .agg #[.int .i64 x, .int .i64 y, .int .i64 z, .int .i64 u]) (by simp [results, Try.results22, go_sem, k0, k1, k2, k3]) rfl ⟨_, _, _, _, i3, h3, rfl, D3.only (only_set4 _ _ _ _ _ _) (by omega), C3.below ((only_set4 _ _ _ _ _ _).below (by omega) (by omega)), O03.set4 (by omega) _ _ _ _⟩
  go_wp2_with fail
  refine (l1Below_any B b a len cap i3 h3 4 _ hB hlen D3 C3 (by omega) (by omega)).mono ?_
  rintro e w4 ⟨r4, i4, h4, rfl, r40, r41, D4, C4, O4⟩
  have P4 := P3.only O4 (by omega)
  have R4 := R3.only O4 (by omega)
  have O04 := O03.trans O4
  have hz4 := O4.size
  clear P3 R3 D3 C3 O4 O03
  have hr : r4 = 0 ∨ r4 = 1 ∨ r4 = 2 ∨ r4 = 3 := by omega
  rcases hr with rfl | rfl | rfl | rfl
  · go_wp2_with fail
    refine (l1Num_any B b a len cap i4 h4 8 _ hB hlen D4 C4 (by omega) (by omega)).mono ?_
    rintro e w5 ⟨q, i5, h5, rfl, D5, C5, O5⟩
    have P5 := P4.only O5 (by omega)
    have R5 := R4.only O5 (by omega)
    have O05 := O04.trans O5
    have hz5 := O5.size
    clear P4 R4 D4 C4 O5
    obtain ⟨c0, c1, c2, c3, g0, g1, g2, g3, _⟩ := P5
    obtain ⟨k0, k1, k2, k3, f0, f1, f2, f3, _⟩ := R5
    go_wp2
    exact bodyPost_ret (v := .agg #[.int .i64 q, .int .i64 y, .int .i64 z, .int .i64 u]) (by simp [results, Try.results22, go_sem, k0, k1, k2, k3]) rfl ⟨_, _, _, _, i5, h5, rfl, (D5.only ((Only.refl w1.heap.size w5).setCell (Or.inl rfl) _) (by omega)).only (only_set4 _ _ _ _ _ _) (by omega), (C5.below ((Below.refl _ _).setCell (by simp; omega) _)).below ((only_set4 _ _ _ _ _ _).below (by omega) (by simp; omega)), (O05.setCell (Or.inr (by simp; omega)) _).set4 (by omega) _ _ _ _⟩
  · go_wp2_with fail
    refine (l1Num_any B b a len cap i4 h4 60 _ hB hlen D4 C4 (by omega) (by omega)).mono ?_
    rintro e w5 ⟨q, i5, h5, rfl, D5, C5, O5⟩
    have P5 := P4.only O5 (by omega)
    have R5 := R4.only O5 (by omega)
    have O05 := O04.trans O5
    have hz5 := O5.size
    clear P4 R4 D4 C4 O5
    obtain ⟨c0, c1, c2, c3, g0, g1, g2, g3, _⟩ := P5
    obtain ⟨k0, k1, k2, k3, f0, f1, f2, f3, _⟩ := R5
    go_wp2
    exact bodyPost_ret (v := .agg #[.int .i64 x, .int .i64 q, .int .i64 z, .int .i64 u]) (by simp [results, Try.results22, go_sem, k0, k1, k2, k3]) rfl ⟨_, _, _, _, i5, h5, rfl, (D5.only ((Only.refl w1.heap.size w5).setCell (Or.inl rfl) _) (by omega)).only (only_set4 _ _ _ _ _ _) (by omega), (C5.below ((Below.refl _ _).setCell (by simp; omega) _)).below ((only_set4 _ _ _ _ _ _).below (by omega) (by simp; omega)), (O05.setCell (Or.inr (by simp; omega)) _).set4 (by omega) _ _ _ _⟩
  · go_wp2_with fail
    refine (l1Num_any B b a len cap i4 h4 400 _ hB hlen D4 C4 (by omega) (by omega)).mono ?_
    rintro e w5 ⟨q, i5, h5, rfl, D5, C5, O5⟩
    have P5 := P4.only O5 (by omega)
    have R5 := R4.only O5 (by omega)
    have O05 := O04.trans O5
    have hz5 := O5.size
    clear P4 R4 D4 C4 O5
    obtain ⟨c0, c1, c2, c3, g0, g1, g2, g3, _⟩ := P5
    obtain ⟨k0, k1, k2, k3, f0, f1, f2, f3, _⟩ := R5
    go_wp2
    exact bodyPost_ret (v := .agg #[.int .i64 x, .int .i64 y, .int .i64 q, .int .i64 u]) (by simp [results, Try.results22, go_sem, k0, k1, k2, k3]) rfl ⟨_, _, _, _, i5, h5, rfl, (D5.only ((Only.refl w1.heap.size w5).setCell (Or.inl rfl) _) (by omega)).only (only_set4 _ _ _ _ _ _) (by omega), (C5.below ((Below.refl _ _).setCell (by simp; omega) _)).below ((only_set4 _ _ _ _ _ _).below (by omega) (by simp; omega)), (O05.setCell (Or.inr (by simp; omega)) _).set4 (by omega) _ _ _ _⟩
  · go_wp2_with fail
    refine (l1Num_any B b a len cap i4 h4 8 _ hB hlen D4 C4 (by omega) (by omega)).mono ?_
    rintro e w5 ⟨q, i5, h5, rfl, D5, C5, O5⟩
    have P5 := P4.only O5 (by omega)
    have R5 := R4.only O5 (by omega)
    have O05 := O04.trans O5
    have hz5 := O5.size
    clear P4 R4 D4 C4 O5
    obtain ⟨c0, c1, c2, c3, g0, g1, g2, g3, _⟩ := P5
    obtain ⟨k0, k1, k2, k3, f0, f1, f2, f3, _⟩ := R5
    go_wp2
    exact bodyPost_ret (v := .agg #[.int .i64 x, .int .i64 y, .int .i64 z, .int .i64 q]) (by simp [results, Try.results22, go_sem, k0, k1, k2, k3]) rfl ⟨_, _, _, _, i5, h5, rfl, (D5.only ((Only.refl w1.heap.size w5).setCell (Or.inl rfl) _) (by omega)).only (only_set4 _ _ _ _ _ _) (by omega), (C5.below ((Below.refl _ _).setCell (by simp; omega) _)).below ((only_set4 _ _ _ _ _ _).below (by omega) (by simp; omega)), (O05.setCell (Or.inr (by simp; omega)) _).set4 (by omega) _ _ _ _⟩

set_option maxHeartbeats 2000000 in
theorem drawGuideOf_any (a : Option Addr) (len cap : Nat) (w : World) (hlen : len ≤ 4096) (C : BytesAt w.heap.size w a len) :
    Calls Try.prog 10 #[.slice a len cap] w fun e w' => ∃ x y z u k, e = .returned (.tuple #[.agg #[.int .i64 x, .int .i64 y, .int .i64 z, .int .i64 u], .int .i64 k]) ∧ Below w.heap.size w w' := by
  go_enter Try.func10, Try.ntmps10
  go_wp2_with fail
  have R0 := planNew_alloc w 0 0 0 0 28
  have C0 : BytesAt (w.alloc (Obj.cells #[.int .i64 0, .int .i64 0, .int .i64 0, .int .i64 0] 28)).heap.size (w.alloc (Obj.cells #[.int .i64 0, .int .i64 0, .int .i64 0, .int .i64 0] 28)) a len := (C.alloc (Nat.le_refl _) _).weaken (by simp)
  refine (l1New_any a len cap _ hlen C0).mono ?_
  rintro e w1 ⟨rfl, ⟨h1, D1⟩, b1⟩
  have R1 := R0.below b1
  have C1 := C0.below b1
  simp only [World.size_alloc] at D1 C1
  have hz1 := D1.blk
  have bb1 := ((Below.refl w.heap.size w).alloc (Nat.le_refl _) (Obj.cells #[.int .i64 0, .int .i64 0, .int .i64 0, .int .i64 0] 28)).trans (b1.mono (by simp))
  clear R0 C0 b1 C
  go_wp2_with fail
  refine (l1DrawAny_any (w.heap.size + 1) (w.heap.size + 1) a len cap 0 h1 _ (Nat.le_refl _) hlen D1 C1).mono ?_
  rintro e w2 ⟨x, y, z, u, i2, h2, rfl, D2, C2, O2⟩
  have R2 := R1.only O2 (by omega)
  have bb2 := bb1.trans (O2.below (B := w.heap.size) (by omega) (by omega))
  have hz2 := D2.blk
  clear R1 D1 C1 O2 bb1
  have P3 := planNew_alloc w2 x y z u 28
  have R3 := R2.alloc (Obj.cells #[.int .i64 x, .int .i64 y, .int .i64 z, .int .i64 u] 28)
  have D3 := D2.alloc (Obj.cells #[.int .i64 x, .int .i64 y, .int .i64 z, .int .i64 u] 28)
  have C3 := C2.alloc (by omega) (Obj.cells #[.int .i64 x, .int .i64 y, .int .i64 z, .int .i64 u] 28)
  have bb3 := bb2.alloc (by omega) (Obj.cells #[.int .i64 x, .int .i64 y, .int .i64 z, .int .i64 u] 28)
  clear R2 D2 C2 bb2
  go_wp2
  go_region_with (go_at_call 23; refine (l1Num_any (w.heap.size + 1) (w.heap.size + 1) a len cap i2 h2 63 _ (Nat.le_refl _) hlen ?_ ?_ (by omega) (by omega)).mono ?_; exact D3.drew; exact C3.drew; rintro e w5 ⟨q, i5, h5, rfl, D5, C5, O5⟩; obtain ⟨c0, c1, c2, c3, _, _, _, _, _⟩ := P3.drew.only O5 (by omega); obtain ⟨k0, k1, k2, k3, f0, f1, f2, f3, _⟩ := R3.drew.only O5 (by omega))
  all_goals go_wp2
  all_goals exact bodyPost_ret (v := .tuple #[.agg #[.int .i64 x, .int .i64 y, .int .i64 z, .int .i64 u], .int .i64 q]) (by simp [results, Try.results10, go_sem, k0, k1, k2, k3]) rfl ⟨x, y, z, u, q, rfl, ((((bb3.drew.trans (O5.below (by omega) (by simp; omega))).setCell (Nat.le_refl _) _).setCell (Nat.le_refl _) _).setCell (Nat.le_refl _) _).setCell (Nat.le_refl _) _⟩

end Go.Proofs.Ytpehbhembfopeaa
