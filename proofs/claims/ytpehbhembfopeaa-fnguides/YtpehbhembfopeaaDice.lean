/-
  The dice of the laws and what is drawn by them, as contracts: of a number below n, that it is one, and that nothing is written but the dice. For every list of bytes.
-/
import Derived.Test.YtpehbhembfopeaaCore
import Derived.Test.YtpehbhembfopeaaBits
import Derived.Deep.QuietTactic
import Derived.BigQuiet
import Derived.RegionTactic
import Derived.ChangeAlike
namespace Go.Proofs.Ytpehbhembfopeaa
open Go.ChangeShapes Go.WideShapes Go.ChangeAt Go.RowKit
set_option linter.unusedVariables false

/-- All is as it was but for the block b; nothing has gone. -/
structure Only (b : Nat) (w w' : World) : Prop where
  os : w'.os = w.os
  tape : w'.tape = w.tape
  output : w'.output = w.output
  size : w.heap.size ≤ w'.heap.size
  block : ∀ k, k < w.heap.size → k ≠ b → w'.heap[k]? = w.heap[k]?

theorem Only.refl (b : Nat) (w : World) : Only b w w := ⟨rfl, rfl, rfl, Nat.le_refl _, fun _ _ _ => rfl⟩
theorem Only.trans {b : Nat} {x y z : World} (h : Only b x y) (k : Only b y z) : Only b x z :=
  ⟨k.os.trans h.os, k.tape.trans h.tape, k.output.trans h.output, Nat.le_trans h.size k.size, fun i hi hb => (k.block i (Nat.lt_of_lt_of_le hi h.size) hb).trans (h.block i hi hb)⟩
theorem Only.drew {b : Nat} {x w : World} (h : Only b x w) : Only b x w.drew := ⟨h.os, h.tape, h.output, h.size, h.block⟩
theorem Only.alloc {b : Nat} {x w : World} (h : Only b x w) (o : Obj) : Only b x (w.alloc o) :=
  h.trans ⟨rfl, rfl, rfl, by simp, fun k hk _ => Below.heap_alloc _ _ _ hk⟩
theorem Only.setCell {b : Nat} {x w : World} (h : Only b x w) {p : Addr} (hp : p.block = b ∨ x.heap.size ≤ p.block) (u : Value) : Only b x (w.setCell p u) :=
  ⟨h.os, h.tape, h.output, by simpa [World.setCell] using h.size, fun k hk hb => (Below.heap_setCell _ _ _ _ (by omega)).trans (h.block k hk hb)⟩
theorem Only.of_below {b : Nat} {w w' : World} (h : Below w.heap.size w w') : Only b w w' := ⟨h.os, h.tape, h.output, h.size, fun k hk _ => h.block k hk⟩
theorem Only.below {b B : Nat} {w w' : World} (h : Only b w w') (hb : B ≤ b) (hB : B ≤ w.heap.size) : Below B w w' := ⟨h.os, h.tape, h.output, h.size, fun k hk => h.block k (by omega) (by omega)⟩
theorem Only.cell {b : Nat} {w w' : World} (h : Only b w w') {p : Addr} (h1 : p.block < w.heap.size) (h2 : p.block ≠ b) : w'.cell? p = w.cell? p := World.cell?_of_block (w := w) (h.block p.block h1 h2)
theorem Only.frozen {b : Nat} {w w' : World} (h : Only b w w') {p : Addr} (h1 : p.block < w.heap.size) (h2 : p.block ≠ b) : w'.frozen? p = w.frozen? p := World.frozen?_of_block (w := w) (h.block p.block h1 h2)

/-- The bytes that came in: they lie below block B. -/
def BytesAt (B : Nat) (w : World) (a : Option Addr) (len : Nat) : Prop :=
  ∀ j, j < len → ∃ bb off v, a = some ⟨bb, off, none⟩ ∧ bb < B ∧ w.cell? ⟨bb, off + j, none⟩ = some (.int .u8 v) ∧ 0 ≤ v ∧ v ≤ 255

theorem BytesAt.below {B : Nat} {w w' : World} {a : Option Addr} {len : Nat} (h : BytesAt B w a len) (hb : Below B w w') : BytesAt B w' a len := by
  intro j hj
  obtain ⟨bb, off, v, h1, h2, h3, h4⟩ := h j hj
  exact ⟨bb, off, v, h1, h2, (hb.cell (p := ⟨bb, off + j, none⟩) h2).trans h3, h4⟩

/-- A row of three cells (bytes, how many are used, a number) at block b, none of it frozen. -/
structure DiceAt (k : IntKind) (w : World) (b : Nat) (a : Option Addr) (len cap : Nat) (i h : Int) : Prop where
  c0 : w.cell? ⟨b, 0, none⟩ = some (.slice a len cap)
  c1 : w.cell? ⟨b, 1, none⟩ = some (.int .i64 i)
  c2 : w.cell? ⟨b, 2, none⟩ = some (.int k h)
  f1 : w.frozen? ⟨b, 1, none⟩ = false
  f2 : w.frozen? ⟨b, 2, none⟩ = false
  lo : 0 ≤ i
  hi : i ≤ len
  blk : b < w.heap.size

/-- One cell of the row is written: the number. -/
theorem DiceAt.set2 {k : IntKind} {w : World} {b : Nat} {a : Option Addr} {len cap : Nat} {i h : Int} (D : DiceAt k w b a len cap i h) (h' : Int) : DiceAt k (w.setCell ⟨b, 2, none⟩ (.int k h')) b a len cap i h' := by
  obtain ⟨c0, c1, c2, f1, f2, lo, hi, blk⟩ := D
  exact ⟨(World.cell?_setCell_other _ _ _ _ (by simp)).trans c0, (World.cell?_setCell_other _ _ _ _ (by simp)).trans c1, World.cell?_setCell_same _ _ _ c2, (World.frozen?_setCell _ _ _ _).trans f1, (World.frozen?_setCell _ _ _ _).trans f2, lo, hi, by rw [World.size_setCell]; exact blk⟩

/-- One cell of the row is written: how many are used. -/
theorem DiceAt.set1 {k : IntKind} {w : World} {b : Nat} {a : Option Addr} {len cap : Nat} {i h : Int} (D : DiceAt k w b a len cap i h) (hi' : i + 1 ≤ len) : DiceAt k (w.setCell ⟨b, 1, none⟩ (.int .i64 (i + 1))) b a len cap (i + 1) h := by
  obtain ⟨c0, c1, c2, f1, f2, lo, hi, blk⟩ := D
  exact ⟨(World.cell?_setCell_other _ _ _ _ (by simp)).trans c0, World.cell?_setCell_same _ _ _ c1, (World.cell?_setCell_other _ _ _ _ (by simp)).trans c2, (World.frozen?_setCell _ _ _ _).trans f1, (World.frozen?_setCell _ _ _ _).trans f2, by omega, hi', by rw [World.size_setCell]; exact blk⟩

theorem DiceAt.drewN {k : IntKind} {w : World} {b : Nat} {a : Option Addr} {len cap : Nat} {i h : Int} (D : DiceAt k w b a len cap i h) (m : Nat) : DiceAt k (w.drewN m) b a len cap i h := by
  obtain ⟨c0, c1, c2, f1, f2, lo, hi, blk⟩ := D
  exact ⟨c0, c1, c2, f1, f2, lo, hi, blk⟩

theorem DiceAt.drew {k : IntKind} {w : World} {b : Nat} {a : Option Addr} {len cap : Nat} {i h : Int} (D : DiceAt k w b a len cap i h) : DiceAt k w.drew b a len cap i h := by
  obtain ⟨c0, c1, c2, f1, f2, lo, hi, blk⟩ := D
  exact ⟨c0, c1, c2, f1, f2, lo, hi, blk⟩
theorem DiceAt.only {k : IntKind} {w w' : World} {b c : Nat} {a : Option Addr} {len cap : Nat} {i h : Int} (D : DiceAt k w b a len cap i h) (hO : Only c w w') (hne : b ≠ c) : DiceAt k w' b a len cap i h := by
  obtain ⟨c0, c1, c2, f1, f2, lo, hi, blk⟩ := D
  exact ⟨(hO.cell (p := ⟨b, 0, none⟩) blk hne).trans c0, (hO.cell (p := ⟨b, 1, none⟩) blk hne).trans c1, (hO.cell (p := ⟨b, 2, none⟩) blk hne).trans c2, (hO.frozen (p := ⟨b, 1, none⟩) blk hne).trans f1, (hO.frozen (p := ⟨b, 2, none⟩) blk hne).trans f2, lo, hi, Nat.lt_of_lt_of_le blk hO.size⟩
theorem DiceAt.below {k : IntKind} {w w' : World} {b : Nat} {a : Option Addr} {len cap : Nat} {i h : Int} (D : DiceAt k w b a len cap i h) (hb : Below w.heap.size w w') : DiceAt k w' b a len cap i h := by
  obtain ⟨c0, c1, c2, f1, f2, lo, hi, blk⟩ := D
  exact ⟨(hb.cell (p := ⟨b, 0, none⟩) blk).trans c0, (hb.cell (p := ⟨b, 1, none⟩) blk).trans c1, (hb.cell (p := ⟨b, 2, none⟩) blk).trans c2, (hb.frozen (p := ⟨b, 1, none⟩) blk).trans f1, (hb.frozen (p := ⟨b, 2, none⟩) blk).trans f2, lo, hi, Nat.lt_of_lt_of_le blk hb.size⟩

theorem Only.drewN {b : Nat} {x w : World} (h : Only b x w) (m : Nat) : Only b x (w.drewN m) := ⟨h.os, h.tape, h.output, h.size, h.block⟩
theorem mod_range {n : Int} (x : Int) (hn : 1 ≤ n) : 0 ≤ x % n ∧ x % n < n :=
  ⟨Int.emod_nonneg x (by omega), Int.emod_lt_of_pos x (by omega)⟩

set_option maxHeartbeats 400000 in
theorem below_any (B b : Nat) (a : Option Addr) (len cap : Nat) (i h n : Int) (w : World) (hB : B ≤ b) (hlen : len ≤ 4096) (D : DiceAt .u64 w b a len cap i h) (C : BytesAt B w a len) (hn1 : 1 ≤ n) (hn2 : n ≤ 1000) :
    Calls Try.prog 7 #[.pointer (some ⟨b, 0, none⟩), .int .i64 n] w fun e w' => ∃ r i' h', e = .returned (.int .i64 r) ∧ 0 ≤ r ∧ r < n ∧ DiceAt .u64 w' b a len cap i' h' ∧ Only b w w' := by
  have D0 := (show Hid _ from D)
  obtain ⟨c0, c1, c2, f1, f2, lo, hi, blk⟩ := D
  by_cases hlt : i < len
  · obtain ⟨bb, off, v, rfl, hbb, hcv, v0, v1⟩ := C i.toNat (by omega)
    obtain ⟨iN, rfl⟩ := Int.eq_ofNat_of_zero_le lo
    simp only [Int.toNat_natCast] at hcv
    have hcv2 : ∀ h1 : Int, (w.setCell ⟨b, 2, none⟩ (.int .u64 h1)).cell? ⟨bb, off + iN, none⟩ = some (.int .u8 v) := fun h1 => (World.cell?_setCell_other _ _ _ _ (by intro e; have := congrArg Addr.block e; simp at this; omega)).trans hcv
    clear C
    go_enter Try.func7, Try.ntmps7
    go_wp2
    generalize IntKind.u64.wrap (IntKind.u64.wrap (h * 6364136223846793005) + 1442695040888963407) = h1
    have hm := u64_mask24 (h1 / 8589934592)
    generalize bits BinOp.and IntKind.u64 (h1 / 8589934592) 16777215 = x1 at *
    obtain ⟨hm1, hm2⟩ := hm
    have hx : wrap64 x1 = x1 := by unfold wrap64; omega
    rw [hx]
    clear hx
    go_quiet (fail)
    go_wp2
    go_quiet (fail)
    go_wp2
    go_ret
    exact ⟨_, iN + 1, h1, rfl, (mod_range _ hn1).1, (mod_range _ hn1).2, (((D0.out.set2 h1).drewN _).set1 (by omega)), (((Only.refl b w).setCell (Or.inl rfl) _).drewN _).setCell (Or.inl rfl) _⟩
  · clear C
    go_enter Try.func7, Try.ntmps7
    go_wp2
    generalize IntKind.u64.wrap (IntKind.u64.wrap (h * 6364136223846793005) + 1442695040888963407) = h1
    have hm := u64_mask24 (h1 / 8589934592)
    generalize bits BinOp.and IntKind.u64 (h1 / 8589934592) 16777215 = x1 at *
    obtain ⟨hm1, hm2⟩ := hm
    have hx : wrap64 x1 = x1 := by unfold wrap64; omega
    rw [hx]
    clear hx
    go_quiet (fail)
    go_wp2
    go_ret
    exact ⟨_, i, h1, rfl, (mod_range _ hn1).1, (mod_range _ hn1).2, (D0.out.set2 h1).drewN nq, ((Only.refl b w).setCell (Or.inl rfl) _).drewN nq⟩

theorem DiceAt.alloc_new (k : IntKind) (w : World) (a : Option Addr) (len cap : Nat) (h : Int) (T : TypeId) : DiceAt k (w.alloc (.cells #[.slice a len cap, .int .i64 0, .int k h] T)) w.heap.size a len cap 0 h := by
  refine ⟨?_, ?_, ?_, ?_, ?_, by omega, by omega, by simp⟩ <;> simp

set_option maxHeartbeats 400000 in
theorem roll_any (a : Option Addr) (len cap : Nat) (s : Int) (w : World) (hlen : len ≤ 4096) (C : BytesAt w.heap.size w a len) (hs0 : 0 ≤ s) (hs1 : s ≤ 1000) :
    Calls Try.prog 5 #[.slice a len cap, .int .u64 s] w fun e w' => e = .returned (.pointer (some ⟨w.heap.size, 0, none⟩)) ∧ (∃ h, DiceAt .u64 w' w.heap.size a len cap 0 h) ∧ Below w.heap.size w w' := by
  go_enter Try.func5, Try.ntmps5
  go_wp2
  go_loopw [6] (fun i wr => ∃ (k : Nat) (h : Int), k ≤ len ∧ i = .int .i64 k ∧ DiceAt .u64 wr w.heap.size a len cap 0 h ∧ Below w.heap.size w wr) (fun i _ => len - (intOf i).toNat)
  case atStart => exact ⟨0, _, Nat.zero_le _, rfl, DiceAt.alloc_new _ _ _ _ _ _ _, (Below.refl _ _).alloc (Nat.le_refl _) _⟩
  case round =>
    obtain ⟨k, h, hk, rfl, D, hb⟩ := hrel
    by_cases hlt : k < len
    · obtain ⟨bb, off, v, rfl, hbb, hcv, v0, v1⟩ := (BytesAt.below C hb) k hlt
      have D0 := (show Hid _ from D)
      obtain ⟨c0, c1, c2, f1, f2, lo, hi, blk⟩ := D
      go_wp2
      go_region
      go_wp2
      go_roundw
      case rel => exact ⟨k + 1, _, by omega, by go_num, (D0.out.set2 _).drew, (hb.setCell (Nat.le_refl _) _).drew⟩
      case measure => simp [intOf]; omega
    · go_wp2
      go_ret
      exact ⟨rfl, ⟨h, D⟩, hb⟩

theorem big_any (a : Option Addr) (len cap : Nat) (w : World) : Calls Try.prog 4 #[.slice a len cap] w fun e w' => e = .returned (.bool (decide (4096 < (len : Int)))) ∧ w' = w := by
  go_enter Try.func4, Try.ntmps4
  go_wp2
  go_ret
  exact ⟨rfl, rfl⟩

set_option maxHeartbeats 400000 in
theorem l1New_any (a : Option Addr) (len cap : Nat) (w : World) (hlen : len ≤ 4096) (C : BytesAt w.heap.size w a len) :
    Calls Try.prog 21 #[.slice a len cap] w fun e w' => e = .returned (.pointer (some ⟨w.heap.size, 0, none⟩)) ∧ (∃ h, DiceAt .i64 w' w.heap.size a len cap 0 h) ∧ Below w.heap.size w w' := by
  go_enter Try.func21, Try.ntmps21
  go_wp2
  go_loop [3, 4] (fun hh i => ∃ (k : Nat) (x : Int), k ≤ len ∧ i = .int .i64 k ∧ hh = .int .i64 x ∧ 0 ≤ x ∧ x ≤ 1073741823) (fun _ i => len - (intOf i).toNat)
  case atStart => exact ⟨0, _, Nat.zero_le _, rfl, rfl, by omega, by omega⟩
  case round =>
    obtain ⟨k, x, hk, rfl, rfl, hx0, hx1⟩ := hrel
    by_cases hlt : k < len
    · obtain ⟨bb, off, v, rfl, hbb, hcv, v0, v1⟩ := C k hlt
      clear C
      go_wp2
      have hm := i64_mask30 (x * 193 + v + 11)
      go_round
      case rel => exact ⟨k + 1, _, by omega, by go_num, rfl, hm.1, hm.2⟩
      case measure => simp [intOf]; omega
    · go_wp2
      go_ret
      exact ⟨rfl, ⟨x, DiceAt.alloc_new _ _ _ _ _ _ _⟩, (Below.refl _ _).alloc (Nat.le_refl _) _⟩

set_option maxHeartbeats 400000 in
theorem l1Byte_any (B b : Nat) (a : Option Addr) (len cap : Nat) (i h : Int) (w : World) (hB : B ≤ b) (hlen : len ≤ 4096) (D : DiceAt .i64 w b a len cap i h) (C : BytesAt B w a len) :
    Calls Try.prog 35 #[.pointer (some ⟨b, 0, none⟩)] w fun e w' => ∃ r i' h', e = .returned (.int .i64 r) ∧ 0 ≤ r ∧ r ≤ 255 ∧ DiceAt .i64 w' b a len cap i' h' ∧ Only b w w' := by
  have D0 := (show Hid _ from D)
  obtain ⟨c0, c1, c2, f1, f2, lo, hi, blk⟩ := D
  by_cases hlt : i < len
  · obtain ⟨bb, off, v, rfl, hbb, hcv, v0, v1⟩ := C i.toNat (by omega)
    obtain ⟨iN, rfl⟩ := Int.eq_ofNat_of_zero_le lo
    simp only [Int.toNat_natCast] at hcv
    have hcv2 : ∀ h1 : Int, (w.setCell ⟨b, 2, none⟩ (.int .i64 h1)).cell? ⟨bb, off + iN, none⟩ = some (.int .u8 v) := fun h1 => (World.cell?_setCell_other _ _ _ _ (by intro e; have := congrArg Addr.block e; simp at this; omega)).trans hcv
    clear C
    go_enter Try.func35, Try.ntmps35
    go_wp2
    generalize wrap64 (wrap64 (h * 6364136223846793005) + 1442695040888963407) = h1
    go_quiet (fail)
    go_wp2
    have hm := i64_mask8 (bits BinOp.xor IntKind.i64 (h1 / 8589934592) (h1 / 35184372088832))
    generalize bits BinOp.and IntKind.i64 (bits BinOp.xor IntKind.i64 (h1 / 8589934592) (h1 / 35184372088832)) 255 = x1 at *
    obtain ⟨hm1, hm2⟩ := hm
    go_quiet (fail)
    go_wp2
    go_quiet (fail)
    go_wp2
    have hm := i64_mask8 (x1 + v)
    go_ret
    exact ⟨_, iN + 1, h1, rfl, hm.1, hm.2, (((D0.out.set2 h1).drewN _).set1 (by omega)), (((Only.refl b w).setCell (Or.inl rfl) _).drewN _).setCell (Or.inl rfl) _⟩
  · clear C
    go_enter Try.func35, Try.ntmps35
    go_wp2
    generalize wrap64 (wrap64 (h * 6364136223846793005) + 1442695040888963407) = h1
    go_quiet (fail)
    go_wp2
    have hm := i64_mask8 (bits BinOp.xor IntKind.i64 (h1 / 8589934592) (h1 / 35184372088832))
    generalize bits BinOp.and IntKind.i64 (bits BinOp.xor IntKind.i64 (h1 / 8589934592) (h1 / 35184372088832)) 255 = x1 at *
    obtain ⟨hm1, hm2⟩ := hm
    go_quiet (fail)
    go_wp2
    go_ret
    exact ⟨_, i, h1, rfl, hm1, hm2, ((D0.out.set2 h1).drewN _).drewN _, (((Only.refl b w).setCell (Or.inl rfl) _).drewN _).drewN _⟩

/-- What a draw leaves: a cursor again, and all else as it was. -/
def Drawn (B b : Nat) (a : Option Addr) (len cap : Nat) (w w' : World) : Prop := (∃ i h, DiceAt .i64 w' b a len cap i h) ∧ BytesAt B w' a len ∧ Only b w w'

theorem Drawn.of {B b : Nat} {a : Option Addr} {len cap : Nat} {w w' : World} {i h : Int} (hB : B ≤ b) (hb : b < w.heap.size) (C : BytesAt B w a len) (D : DiceAt .i64 w' b a len cap i h) (O : Only b w w') : Drawn B b a len cap w w' :=
  ⟨⟨i, h, D⟩, C.below (O.below hB (by omega)), O⟩

set_option maxHeartbeats 1000000 in
theorem l1Below_any (B b : Nat) (a : Option Addr) (len cap : Nat) (i h n : Int) (w : World) (hB : B ≤ b) (hlen : len ≤ 4096) (D : DiceAt .i64 w b a len cap i h) (C : BytesAt B w a len) (hn1 : 1 ≤ n) (hn2 : n ≤ 1000000) :
    Calls Try.prog 32 #[.pointer (some ⟨b, 0, none⟩), .int .i64 n] w fun e w' => ∃ r i' h', e = .returned (.int .i64 r) ∧ 0 ≤ r ∧ r < n ∧ DiceAt .i64 w' b a len cap i' h' ∧ BytesAt B w' a len ∧ Only b w w' := by
  have blk := D.blk
  by_cases hs : n ≤ 256
  · go_enter Try.func32, Try.ntmps32
    go_wp2_with fail
    refine (l1Byte_any B b a len cap i h w hB hlen D C).mono ?_
    rintro e w1 ⟨r, i1, h1, rfl, r0, r1, D1, O1⟩
    go_wp2
    go_ret
    exact ⟨_, i1, h1, rfl, (mod_range _ hn1).1, (mod_range _ hn1).2, D1, C.below (O1.below hB (by omega)), O1⟩
  · go_enter Try.func32, Try.ntmps32
    go_wp2_with fail
    refine (l1Byte_any B b a len cap i h w hB hlen D C).mono ?_
    rintro e w1 ⟨r1, i1, h1, rfl, r10, r11, D1, O1⟩
    have C1 := C.below (O1.below hB (by omega))
    go_wp2_with fail
    refine (l1Byte_any B b a len cap i1 h1 w1 hB hlen D1 C1).mono ?_
    rintro e w2 ⟨r2, i2, h2, rfl, r20, r21, D2, O2⟩
    have C2 := C1.below (O2.below hB (by have := D1.blk; omega))
    go_wp2_with fail
    refine (l1Byte_any B b a len cap i2 h2 w2 hB hlen D2 C2).mono ?_
    rintro e w3 ⟨r3, i3, h3, rfl, r30, r31, D3, O3⟩
    have C3 := C2.below (O3.below hB (by have := D2.blk; omega))
    go_wp2_with fail
    refine (l1Byte_any B b a len cap i3 h3 w3 hB hlen D3 C3).mono ?_
    rintro e w4 ⟨r4, i4, h4, rfl, r40, r41, D4, O4⟩
    have C4 := C3.below (O4.below hB (by have := D3.blk; omega))
    go_wp2
    go_ret
    exact ⟨_, i4, h4, rfl, (mod_range _ hn1).1, (mod_range _ hn1).2, D4, C4, ((O1.trans O2).trans O3).trans O4⟩

theorem l1Once_any (B b : Nat) (a : Option Addr) (len cap : Nat) (i h n : Int) (w : World) (hB : B ≤ b) (hlen : len ≤ 4096) (D : DiceAt .i64 w b a len cap i h) (C : BytesAt B w a len) (hn1 : 1 ≤ n) (hn2 : n ≤ 1000000) :
    Calls Try.prog 31 #[.pointer (some ⟨b, 0, none⟩), .int .i64 n] w fun e w' => ∃ (r : Bool) (i' h' : Int), e = .returned (.bool r) ∧ DiceAt .i64 w' b a len cap i' h' ∧ BytesAt B w' a len ∧ Only b w w' := by
  go_enter Try.func31, Try.ntmps31
  go_wp2_with fail
  refine (l1Below_any B b a len cap i h n w hB hlen D C hn1 hn2).mono ?_
  rintro e w1 ⟨r, i1, h1, rfl, r0, r1, D1, C1, O1⟩
  go_wp2
  go_ret
  exact ⟨_, i1, h1, rfl, D1, C1, O1⟩

theorem l1Min_any (x y : Int) (w : World) : Calls Try.prog 34 #[.int .i64 x, .int .i64 y] w fun e w' => e = .returned (.int .i64 (min x y)) ∧ w' = w := by
  by_cases h : x < y
  · go_enter Try.func34, Try.ntmps34
    go_wp2
    go_ret
    exact ⟨by rw [show min x y = x by omega]; rfl, rfl⟩
  · go_enter Try.func34, Try.ntmps34
    go_wp2
    go_ret
    exact ⟨by rw [show min x y = y by omega]; rfl, rfl⟩

end Go.Proofs.Ytpehbhembfopeaa
