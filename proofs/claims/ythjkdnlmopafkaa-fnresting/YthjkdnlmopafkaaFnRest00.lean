/-
  What the law's proof goes by, part 1.
-/
import Derived.Test.YthjkdnlmopafkaaRows
import Derived.WalkKit
import Derived.ProofKit
import Derived.OpenShut
import Derived.ShutString
import Derived.ChangeOld
import Derived.Below
import Derived.Lib.SmallJoins
import Derived.Laws.Bits128
import Derived.Deep.MidRow
import Derived.Deep.QuietTactic
import Derived.BigQuiet
import Derived.RegionTactic
import Derived.ChangeAlike
namespace Go.Proofs.Ythjkdnlmopafkaa
open Go.ChangeShapes Go.WideShapes Go.ChangeAt Go.RowKit
set_option maxRecDepth 100000
set_option maxHeartbeats 16000000
set_option linter.unusedVariables false
set_option linter.unusedSimpArgs false
set_option linter.unnecessarySimpa false
set_option linter.unusedSectionVars false
section
theorem own : ownKnob Try.prog.godebug = none := by kernel_rfl
theorem qzcn : laidOutB Try.prog = true := by kernel_rfl
def inB (n lo hi : Int) : Bool := decide (lo <= n) && decide (n <= hi)
theorem qz1f (n lo hi : Int) : inB n lo hi = true ↔ lo <= n /\ n <= hi := by simp [inB]
theorem qz8s {n lo hi : Int} (h1 : lo <= n) (h2 : n <= hi) : inB n lo hi = true := (qz1f n lo hi).2 ⟨h1, h2⟩
theorem qzak {n lo hi : Int} (h : ¬ (lo <= n /\ n <= hi)) : inB n lo hi = false := by
 cases e : inB n lo hi
 ·rfl
 ·exact absurd ((qz1f n lo hi).1 e) h
theorem qz16 (n lo hi : Int) (w : World) :
  Calls Try.prog 36 #[.int .i64 n, .int .i64 lo, .int .i64 hi] w fun e w' => e = .returned (.bool (inB n lo hi)) /\ w' = w := by
 by_cases h1 : lo <= n
 ·by_cases h2 : n <= hi
  ·go_enter Try.func36, Try.ntmps36
   go_wp2
   go_ret
   exact ⟨by rw [qz8s h1 h2]; rfl, rfl⟩
  ·go_enter Try.func36, Try.ntmps36
   go_wp2
   go_ret
   exact ⟨by rw [qzak (by omega)]; rfl, rfl⟩
 ·go_enter Try.func36, Try.ntmps36
  go_wp2
  go_ret
  exact ⟨by rw [qzak (by omega)]; rfl, rfl⟩
theorem qzf (n lo hi : Int) (w : World) :
  Calls Try.prog 46 #[.int .i64 n, .int .i64 lo, .int .i64 hi] w fun e w' => e = .returned (.bool (inB n lo hi)) /\ w' = w := by
 by_cases h1 : lo <= n
 ·by_cases h2 : n <= hi
  ·go_enter Try.func46, Try.ntmps46
   go_wp2
   go_ret
   exact ⟨by rw [qz8s h1 h2]; rfl, rfl⟩
  ·go_enter Try.func46, Try.ntmps46
   go_wp2
   go_ret
   exact ⟨by rw [qzak (by omega)]; rfl, rfl⟩
 ·go_enter Try.func46, Try.ntmps46
  go_wp2
  go_ret
  exact ⟨by rw [qzak (by omega)]; rfl, rfl⟩
theorem qz3e (n : Int) (w : World) :
  Calls Try.prog 86 #[.int .i64 n] w fun e w' => e = .returned (.bool (inB n 0 63)) /\ w' = w := by
 go_enter Try.func86, Try.ntmps86
 go_wp2_with (go_at_call 36; refine (qz16 _ _ _ _).mono ?_; rintro e w' ⟨rfl, rfl⟩)
 go_ret
 exact ⟨rfl, rfl⟩
theorem qzp (n : Int) (w : World) :
  Calls Try.prog 76 #[.int .i64 n] w fun e w' => e = .returned (.bool (inB n 0 63)) /\ w' = w := by
 go_enter Try.func76, Try.ntmps76
 go_wp2_with (go_at_call 46; refine (qzf _ _ _ _).mono ?_; rintro e w' ⟨rfl, rfl⟩)
 go_ret
 exact ⟨rfl, rfl⟩
def qz3j (a b c d : Int) : Bool := inB a 1 8 && inB b 1 60 && inB c 1 400 && inB d 1 8
theorem qz27 (a b c d : Int) : qz3j a b c d = true ↔ (1 <= a /\ a <= 8) /\ (1 <= b /\ b <= 60) /\ (1 <= c /\ c <= 400) /\ (1 <= d /\ d <= 8) := by
 unfold qz3j
 simp only [Bool.and_eq_true, qz1f]
 constructor
 ·rintro ⟨⟨⟨h1, h2⟩, h3⟩, h4⟩
  exact ⟨h1, h2, h3, h4⟩
 ·rintro ⟨h1, h2, h3, h4⟩
  exact ⟨⟨⟨h1, h2⟩, h3⟩, h4⟩
theorem qzbf (a b c d : Int) (w : World) :
  Calls Try.prog 32 #[.agg #[.int .i64 a, .int .i64 b, .int .i64 c, .int .i64 d]] w fun e w' => e = .returned (.bool (qz3j a b c d)) /\ Below w.heap.size w w' := by
 cases h1 : inB a 1 8
 ·have hp : qz3j a b c d = false := by simp [qz3j, h1]
  go_enter Try.func32, Try.ntmps32
  go_wp2_with (go_at_call 36; refine (qz16 _ _ _ _).mono ?_; rintro e w' ⟨rfl, rfl⟩)
  go_ret
  exact ⟨by rw [hp]; rfl, (Below.refl _ _).alloc (Nat.le_refl _) _⟩
 ·cases h2 : inB b 1 60
  ·have hp : qz3j a b c d = false := by simp [qz3j, h1, h2]
   go_enter Try.func32, Try.ntmps32
   go_wp2_with (go_at_call 36; refine (qz16 _ _ _ _).mono ?_; rintro e w' ⟨rfl, rfl⟩)
   go_ret
   exact ⟨by rw [hp]; rfl, (Below.refl _ _).alloc (Nat.le_refl _) _⟩
  ·cases h3 : inB c 1 400
   ·have hp : qz3j a b c d = false := by simp [qz3j, h1, h2, h3]
    go_enter Try.func32, Try.ntmps32
    go_wp2_with (go_at_call 36; refine (qz16 _ _ _ _).mono ?_; rintro e w' ⟨rfl, rfl⟩)
    go_ret
    exact ⟨by rw [hp]; rfl, (Below.refl _ _).alloc (Nat.le_refl _) _⟩
   ·cases h4 : inB d 1 8
    ·have hp : qz3j a b c d = false := by simp [qz3j, h1, h2, h3, h4]
     go_enter Try.func32, Try.ntmps32
     go_wp2_with (go_at_call 36; refine (qz16 _ _ _ _).mono ?_; rintro e w' ⟨rfl, rfl⟩)
     go_ret
     exact ⟨by rw [hp]; rfl, (Below.refl _ _).alloc (Nat.le_refl _) _⟩
    ·have hp : qz3j a b c d = true := by simp [qz3j, h1, h2, h3, h4]
     go_enter Try.func32, Try.ntmps32
     go_wp2_with (go_at_call 36; refine (qz16 _ _ _ _).mono ?_; rintro e w' ⟨rfl, rfl⟩)
     go_ret
     exact ⟨by rw [hp]; rfl, (Below.refl _ _).alloc (Nat.le_refl _) _⟩
theorem qz1p (a b c d : Int) (w : World) :
  Calls Try.prog 42 #[.agg #[.int .i64 a, .int .i64 b, .int .i64 c, .int .i64 d]] w fun e w' => e = .returned (.bool (qz3j a b c d)) /\ Below w.heap.size w w' := by
 cases h1 : inB a 1 8
 ·have hp : qz3j a b c d = false := by simp [qz3j, h1]
  go_enter Try.func42, Try.ntmps42
  go_wp2_with (go_at_call 46; refine (qzf _ _ _ _).mono ?_; rintro e w' ⟨rfl, rfl⟩)
  go_ret
  exact ⟨by rw [hp]; rfl, (Below.refl _ _).alloc (Nat.le_refl _) _⟩
 ·cases h2 : inB b 1 60
  ·have hp : qz3j a b c d = false := by simp [qz3j, h1, h2]
   go_enter Try.func42, Try.ntmps42
   go_wp2_with (go_at_call 46; refine (qzf _ _ _ _).mono ?_; rintro e w' ⟨rfl, rfl⟩)
   go_ret
   exact ⟨by rw [hp]; rfl, (Below.refl _ _).alloc (Nat.le_refl _) _⟩
  ·cases h3 : inB c 1 400
   ·have hp : qz3j a b c d = false := by simp [qz3j, h1, h2, h3]
    go_enter Try.func42, Try.ntmps42
    go_wp2_with (go_at_call 46; refine (qzf _ _ _ _).mono ?_; rintro e w' ⟨rfl, rfl⟩)
    go_ret
    exact ⟨by rw [hp]; rfl, (Below.refl _ _).alloc (Nat.le_refl _) _⟩
   ·cases h4 : inB d 1 8
    ·have hp : qz3j a b c d = false := by simp [qz3j, h1, h2, h3, h4]
     go_enter Try.func42, Try.ntmps42
     go_wp2_with (go_at_call 46; refine (qzf _ _ _ _).mono ?_; rintro e w' ⟨rfl, rfl⟩)
     go_ret
     exact ⟨by rw [hp]; rfl, (Below.refl _ _).alloc (Nat.le_refl _) _⟩
    ·have hp : qz3j a b c d = true := by simp [qz3j, h1, h2, h3, h4]
     go_enter Try.func42, Try.ntmps42
     go_wp2_with (go_at_call 46; refine (qzf _ _ _ _).mono ?_; rintro e w' ⟨rfl, rfl⟩)
     go_ret
     exact ⟨by rw [hp]; rfl, (Below.refl _ _).alloc (Nat.le_refl _) _⟩
theorem qzdf {W w1 : World} (hb : Below W.heap.size W w1) : (∀ b o, b < W.heap.size -> w1.cell? ⟨b, o, none⟩ = W.cell? ⟨b, o, none⟩) /\ (∀ b o, b < W.heap.size -> w1.frozen? ⟨b, o, none⟩ = W.frozen? ⟨b, o, none⟩) :=
 ⟨fun b o h => hb.cell (p := ⟨b, o, none⟩) h, fun b o h => hb.frozen (p := ⟨b, o, none⟩) h⟩
def qz3l (W : World) (b : Nat) (x y z u : Int) : Prop :=
 W.cell? ⟨b, 0, none⟩ = some (.int .i64 x) /\ W.cell? ⟨b, 1, none⟩ = some (.int .i64 y) /\ W.cell? ⟨b, 2, none⟩ = some (.int .i64 z) /\ W.cell? ⟨b, 3, none⟩ = some (.int .i64 u)
theorem qz1t (w : World) (x y z u : Int) (T : TypeId) : qz3l (w.alloc (.cells #[.int .i64 x, .int .i64 y, .int .i64 z, .int .i64 u] T)) w.heap.size x y z u := by
 refine ⟨?_, ?_, ?_, ?_⟩ <;> simp
theorem qz3l.below {W w1 : World} {b : Nat} {x y z u : Int} (h : qz3l W b x y z u) (hb : Below W.heap.size W w1) (hlt : b < W.heap.size) : qz3l w1 b x y z u := by
 obtain ⟨hc, _⟩ := qzdf hb
 obtain ⟨h0, h1, h2, h3⟩ := h
 exact ⟨(hc b 0 hlt).trans h0, (hc b 1 hlt).trans h1, (hc b 2 hlt).trans h2, (hc b 3 hlt).trans h3⟩
theorem qzco {k u : Int} (h0 : 0 <= k) (h1 : k <= 63) (h2 : 1 <= u) (h3 : u <= 8) : 0 <= k * u /\ k * u <= 504 := by
 constructor
 ·exact Int.mul_nonneg h0 (by omega)
 ·have a : k * u <= 63 * u := Int.mul_le_mul_of_nonneg_right h1 (by omega)
  omega
def qz3z (x y z u k : Int) : Int := if qz3j x y z u && inB k 0 63 then k * u / 64 else -1
def qz3s (x y z u k : Int) : Int := if qz3j x y z u && inB k 0 63 then k * u / 64 - 1 else -1
theorem qz8l {x y z u k : Int} (h1 : qz3j x y z u = true) (h2 : inB k 0 63 = true) : qz3z x y z u k = k * u / 64 := by simp [qz3z, h1, h2]
theorem qzbe {x y z u k : Int} (h1 : qz3j x y z u = true) (h2 : inB k 0 63 = true) : qz3s x y z u k = k * u / 64 - 1 := by simp [qz3s, h1, h2]
theorem qza5 {x y z u k : Int} (h : (qz3j x y z u && inB k 0 63) = false) : qz3z x y z u k = -1 := by simp only [qz3z, h]; rfl
theorem qzad {x y z u k : Int} (h : (qz3j x y z u && inB k 0 63) = false) : qz3s x y z u k = -1 := by simp only [qz3s, h]; rfl
theorem qz8n {x y z u k : Int} (h1 : qz3j x y z u = true) (h2 : inB k 0 63 = true) : 0 <= k /\ k <= 63 /\ 1 <= u /\ u <= 8 := by
 have a := (qz27 x y z u).1 h1
 have b := (qz1f k 0 63).1 h2
 exact ⟨b.1, b.2, a.2.2.2.1, a.2.2.2.2⟩
theorem qz4l (x y z u k : Int) (w : World) :
  Calls Try.prog 122 #[.agg #[.int .i64 x, .int .i64 y, .int .i64 z, .int .i64 u], .int .i64 k] w fun e w' => e = .returned (.int .i64 (qz3z x y z u k)) /\ Below w.heap.size w w' := by
 have P0 := qz1t w x y z u 25
 cases h1 : qz3j x y z u
 ·have hv : qz3z x y z u k = -1 := qza5 (by simp [h1])
  go_enter Try.func122, Try.ntmps122
  go_wp2_with fail
  refine (qz1p _ _ _ _ _).mono ?_
  rintro e w1 ⟨rfl, hb1⟩
  go_wp2
  go_ret
  exact ⟨by rw [hv]; rfl, ((Below.refl _ _).alloc (Nat.le_refl _) _).trans (hb1.mono (by simp))⟩
 ·cases h2 : inB k 0 63
  ·have hv : qz3z x y z u k = -1 := qza5 (by simp [h2])
   go_enter Try.func122, Try.ntmps122
   go_wp2_with fail
   refine (qz1p _ _ _ _ _).mono ?_
   rintro e w1 ⟨rfl, hb1⟩
   go_wp2_with (go_at_call 76; refine (qzp _ _).mono ?_; rintro e w' ⟨rfl, rfl⟩)
   go_ret
   exact ⟨by rw [hv]; rfl, ((Below.refl _ _).alloc (Nat.le_refl _) _).trans (hb1.mono (by simp))⟩
  ·obtain ⟨b0, b1, b2, b3⟩ := qz8n h1 h2
   obtain ⟨m0, m1⟩ := qzco b0 b1 b2 b3
   have Hv : Hid (qz3z x y z u k = k * u / 64) := qz8l h1 h2
   go_enter Try.func122, Try.ntmps122
   go_wp2_with fail
   refine (qz1p _ _ _ _ _).mono ?_
   rintro e w1 ⟨rfl, hb1⟩
   have hz1 := hb1.size
   simp at hz1
   obtain ⟨c0, c1, c2, c3⟩ := P0.below hb1 (by simp)
   go_wp2_with (go_at_call 76; refine (qzp _ _).mono ?_; rintro e w' ⟨rfl, rfl⟩)
   go_ret
   exact ⟨by rw [Hv.out]; rfl, ((Below.refl _ _).alloc (Nat.le_refl _) _).trans (hb1.mono (by simp))⟩
theorem qz68 (x y z u k : Int) (w : World) :
  Calls Try.prog 125 #[.agg #[.int .i64 x, .int .i64 y, .int .i64 z, .int .i64 u], .int .i64 k] w fun e w' => e = .returned (.int .i64 (qz3s x y z u k)) /\ Below w.heap.size w w' := by
 have P0 := qz1t w x y z u 25
 cases h1 : qz3j x y z u
 ·have hv : qz3s x y z u k = -1 := qzad (by simp [h1])
  go_enter Try.func125, Try.ntmps125
  go_wp2_with fail
  refine (qz1p _ _ _ _ _).mono ?_
  rintro e w1 ⟨rfl, hb1⟩
  go_wp2
  go_ret
  exact ⟨by rw [hv]; rfl, ((Below.refl _ _).alloc (Nat.le_refl _) _).trans (hb1.mono (by simp))⟩
 ·cases h2 : inB k 0 63
  ·have hv : qz3s x y z u k = -1 := qzad (by simp [h2])
   go_enter Try.func125, Try.ntmps125
   go_wp2_with fail
   refine (qz1p _ _ _ _ _).mono ?_
   rintro e w1 ⟨rfl, hb1⟩
   go_wp2_with (go_at_call 76; refine (qzp _ _).mono ?_; rintro e w' ⟨rfl, rfl⟩)
   go_ret
   exact ⟨by rw [hv]; rfl, ((Below.refl _ _).alloc (Nat.le_refl _) _).trans (hb1.mono (by simp))⟩
  ·obtain ⟨b0, b1, b2, b3⟩ := qz8n h1 h2
   obtain ⟨m0, m1⟩ := qzco b0 b1 b2 b3
   have Hv : Hid (qz3s x y z u k = k * u / 64 - 1) := qzbe h1 h2
   go_enter Try.func125, Try.ntmps125
   go_wp2_with fail
   refine (qz1p _ _ _ _ _).mono ?_
   rintro e w1 ⟨rfl, hb1⟩
   have hz1 := hb1.size
   simp at hz1
   obtain ⟨c0, c1, c2, c3⟩ := P0.below hb1 (by simp)
   go_wp2_with (go_at_call 76; refine (qzp _ _).mono ?_; rintro e w' ⟨rfl, rfl⟩)
   refine (qz4l _ _ _ _ _ _).mono ?_
   rintro e w2 ⟨rfl, hb2⟩
   rw [qz8l h1 h2]
   go_wp2
   go_ret
   exact ⟨by rw [Hv.out]; rfl, (((Below.refl _ _).alloc (Nat.le_refl _) _).trans (hb1.mono (by simp))).trans (hb2.mono (by omega))⟩
end
section
theorem qz7e (n : Int) : 0 <= bits .and .u64 n 16777215 /\ bits .and .u64 n 16777215 <= 16777215 := by
 have h127 : (BitVec.ofInt 64 16777215).toNat = 2 ^ 24 - 1 := by decide
 have key : (BitVec.ofInt 64 n &&& BitVec.ofInt 64 16777215).toNat = (n % ((2 ^ 64 : Nat) : Int)).toNat % 2 ^ 24 := by
  rw [BitVec.toNat_and, BitVec.toNat_ofInt, h127, Nat.and_two_pow_sub_one_eq_mod]
 have e : bits .and .u64 n 16777215 = IntKind.u64.wrap ((BitVec.ofInt 64 n &&& BitVec.ofInt 64 16777215).toNat : Nat) := rfl
 rw [e, key]
 have w : ∀ m : Int, IntKind.u64.wrap m = m % 18446744073709551616 := fun m => by simp [IntKind.wrap, IntKind.bits, IntKind.signed]
 rw [w]
 omega
theorem qz73 (n : Int) : 0 <= bits .and .i64 n 255 /\ bits .and .i64 n 255 <= 255 := by
 have h127 : (BitVec.ofInt 64 255).toNat = 2 ^ 8 - 1 := by decide
 have key : (BitVec.ofInt 64 n &&& BitVec.ofInt 64 255).toNat = (n % ((2 ^ 64 : Nat) : Int)).toNat % 2 ^ 8 := by
  rw [BitVec.toNat_and, BitVec.toNat_ofInt, h127, Nat.and_two_pow_sub_one_eq_mod]
 have e : bits .and .i64 n 255 = IntKind.i64.wrap ((BitVec.ofInt 64 n &&& BitVec.ofInt 64 255).toNat : Nat) := rfl
 rw [e, key, IntKind.wrap_i64]
 omega
theorem qza9 (n : Int) : 0 <= bits .and .i64 n 1073741823 /\ bits .and .i64 n 1073741823 <= 1073741823 := by
 have h127 : (BitVec.ofInt 64 1073741823).toNat = 2 ^ 30 - 1 := by decide
 have key : (BitVec.ofInt 64 n &&& BitVec.ofInt 64 1073741823).toNat = (n % ((2 ^ 64 : Nat) : Int)).toNat % 2 ^ 30 := by
  rw [BitVec.toNat_and, BitVec.toNat_ofInt, h127, Nat.and_two_pow_sub_one_eq_mod]
 have e : bits .and .i64 n 1073741823 = IntKind.i64.wrap ((BitVec.ofInt 64 n &&& BitVec.ofInt 64 1073741823).toNat : Nat) := rfl
 rw [e, key, IntKind.wrap_i64]
 omega
end
section
open Go.RowKit
structure Only (b : Nat) (w w' : World) : Prop where
 os : w'.os = w.os
 tape : w'.tape = w.tape
 output : w'.output = w.output
 size : w.heap.size <= w'.heap.size
 block : ∀ k, k < w.heap.size -> k ≠ b -> w'.heap[k]? = w.heap[k]?
theorem Only.refl (b : Nat) (w : World) : Only b w w := ⟨rfl, rfl, rfl, Nat.le_refl _, fun _ _ _ => rfl⟩
theorem Only.trans {b : Nat} {x y z : World} (h : Only b x y) (k : Only b y z) : Only b x z :=
 ⟨k.os.trans h.os, k.tape.trans h.tape, k.output.trans h.output, Nat.le_trans h.size k.size, fun i hi hb => (k.block i (Nat.lt_of_lt_of_le hi h.size) hb).trans (h.block i hi hb)⟩
theorem Only.alloc {b : Nat} {x w : World} (h : Only b x w) (o : Obj) : Only b x (w.alloc o) :=
 h.trans ⟨rfl, rfl, rfl, by simp, fun k hk _ => Below.heap_alloc _ _ _ hk⟩
theorem Only.setCell {b : Nat} {x w : World} (h : Only b x w) {p : Addr} (hp : p.block = b ∨ x.heap.size <= p.block) (u : Value) : Only b x (w.setCell p u) :=
 ⟨h.os, h.tape, h.output, by simpa [World.setCell] using h.size, fun k hk hb => (Below.heap_setCell _ _ _ _ (by omega)).trans (h.block k hk hb)⟩
theorem Only.of_below {b : Nat} {w w' : World} (h : Below w.heap.size w w') : Only b w w' := ⟨h.os, h.tape, h.output, h.size, fun k hk _ => h.block k hk⟩
theorem Only.below {b B : Nat} {w w' : World} (h : Only b w w') (hb : B <= b) (hB : B <= w.heap.size) : Below B w w' := ⟨h.os, h.tape, h.output, h.size, fun k hk => h.block k (by omega) (by omega)⟩
theorem Only.cell {b : Nat} {w w' : World} (h : Only b w w') {p : Addr} (h1 : p.block < w.heap.size) (h2 : p.block ≠ b) : w'.cell? p = w.cell? p := World.cell?_of_block (w := w) (h.block p.block h1 h2)
theorem Only.frozen {b : Nat} {w w' : World} (h : Only b w w') {p : Addr} (h1 : p.block < w.heap.size) (h2 : p.block ≠ b) : w'.frozen? p = w.frozen? p := World.frozen?_of_block (w := w) (h.block p.block h1 h2)
theorem qz9 (b : Nat) : ∀ (vs : List Value) (o : Nat) (w : World), Only b w (w.setCells b o vs)
 | [], _, w => Only.refl b w
 | v :: vs, o, w => ((Only.refl b w).setCell (p := ⟨b, o, none⟩) (Or.inl rfl) v).trans (qz9 b vs (o + 1) (w.setCell ⟨b, o, none⟩ v))
structure But (S : Nat -> Prop) (w w' : World) : Prop where
 os : w'.os = w.os
 tape : w'.tape = w.tape
 output : w'.output = w.output
 size : w.heap.size <= w'.heap.size
 block : ∀ k, k < w.heap.size -> ¬ S k -> w'.heap[k]? = w.heap[k]?
theorem But.trans {S : Nat -> Prop} {x y z : World} (h : But S x y) (k : But S y z) : But S x z :=
 ⟨k.os.trans h.os, k.tape.trans h.tape, k.output.trans h.output, Nat.le_trans h.size k.size, fun i hi hb => (k.block i (Nat.lt_of_lt_of_le hi h.size) hb).trans (h.block i hi hb)⟩
theorem But.of_only {S : Nat -> Prop} {b : Nat} {w w' : World} (h : Only b w w') (hb : S b) : But S w w' := ⟨h.os, h.tape, h.output, h.size, fun k hk hn => h.block k hk (fun e => hn (e ▸ hb))⟩
theorem But.of_below {S : Nat -> Prop} {w w' : World} (h : Below w.heap.size w w') : But S w w' := ⟨h.os, h.tape, h.output, h.size, fun k hk _ => h.block k hk⟩
theorem But.mono {S S' : Nat -> Prop} {w w' : World} (h : But S w w') (hS : ∀ k, S k -> S' k) : But S' w w' := ⟨h.os, h.tape, h.output, h.size, fun k hk hn => h.block k hk (fun e => hn (hS k e))⟩
theorem But.below {S : Nat -> Prop} {B : Nat} {w w' : World} (h : But S w w') (hB : B <= w.heap.size) (hS : ∀ k, S k -> B <= k) : Below B w w' := ⟨h.os, h.tape, h.output, h.size, fun k hk => h.block k (by omega) (fun e => by have := hS k e; omega)⟩
theorem But.cell {S : Nat -> Prop} {w w' : World} (h : But S w w') {p : Addr} (h1 : p.block < w.heap.size) (h2 : ¬ S p.block) : w'.cell? p = w.cell? p := World.cell?_of_block (w := w) (h.block p.block h1 h2)
theorem But.frozen {S : Nat -> Prop} {w w' : World} (h : But S w w') {p : Addr} (h1 : p.block < w.heap.size) (h2 : ¬ S p.block) : w'.frozen? p = w.frozen? p := World.frozen?_of_block (w := w) (h.block p.block h1 h2)
theorem But.range {S : Nat -> Prop} {w w' : World} (h : But S w w') {b o : Nat} {cs : List Value} (R : w.rangeAt b o cs) (h1 : b < w.heap.size) (h2 : ¬ S b) : w'.rangeAt b o cs := fun j v hv => (h.cell (p := ⟨b, o + j, none⟩) h1 h2).trans (R j v hv)
theorem But.there {S : Nat -> Prop} {w w' : World} (h : But S w w') {b o n : Nat} (T : w.there b o n) (h1 : b < w.heap.size) (h2 : ¬ S b) : w'.there b o n := fun j hj => by rw [h.cell (p := ⟨b, o + j, none⟩) h1 h2, h.frozen (p := ⟨b, o + j, none⟩) h1 h2]; exact T j hj
end
section
def qz1h (B : Nat) (w : World) (a : Option Addr) (len : Nat) : Prop :=
 ∀ j, j < len -> ∃ bb off v, a = some ⟨bb, off, none⟩ /\ bb < B /\ w.cell? ⟨bb, off + j, none⟩ = some (.int .u8 v) /\ 0 <= v /\ v <= 255
theorem qz1h.below {B : Nat} {w w' : World} {a : Option Addr} {len : Nat} (h : qz1h B w a len) (hb : Below B w w') : qz1h B w' a len := by
 intro j hj
 obtain ⟨bb, off, v, h1, h2, h3, h4⟩ := h j hj
 exact ⟨bb, off, v, h1, h2, (hb.cell (p := ⟨bb, off + j, none⟩) h2).trans h3, h4⟩
structure qz1o (k : IntKind) (w : World) (b : Nat) (a : Option Addr) (len cap : Nat) (i h : Int) : Prop where
 c0 : w.cell? ⟨b, 0, none⟩ = some (.slice a len cap)
 c1 : w.cell? ⟨b, 1, none⟩ = some (.int .i64 i)
 c2 : w.cell? ⟨b, 2, none⟩ = some (.int k h)
 f1 : w.frozen? ⟨b, 1, none⟩ = false
 f2 : w.frozen? ⟨b, 2, none⟩ = false
 lo : 0 <= i
 hi : i <= len
 blk : b < w.heap.size
theorem qz1o.set2 {k : IntKind} {w : World} {b : Nat} {a : Option Addr} {len cap : Nat} {i h : Int} (D : qz1o k w b a len cap i h) (h' : Int) : qz1o k (w.setCell ⟨b, 2, none⟩ (.int k h')) b a len cap i h' := by
 obtain ⟨c0, c1, c2, f1, f2, lo, hi, blk⟩ := D
 exact ⟨(World.cell?_setCell_other _ _ _ _ (by simp)).trans c0, (World.cell?_setCell_other _ _ _ _ (by simp)).trans c1, World.cell?_setCell_same _ _ _ c2, (World.frozen?_setCell _ _ _ _).trans f1, (World.frozen?_setCell _ _ _ _).trans f2, lo, hi, by rw [World.size_setCell]; exact blk⟩
theorem qz1o.set1 {k : IntKind} {w : World} {b : Nat} {a : Option Addr} {len cap : Nat} {i h : Int} (D : qz1o k w b a len cap i h) (hi' : i + 1 <= len) : qz1o k (w.setCell ⟨b, 1, none⟩ (.int .i64 (i + 1))) b a len cap (i + 1) h := by
 obtain ⟨c0, c1, c2, f1, f2, lo, hi, blk⟩ := D
 exact ⟨(World.cell?_setCell_other _ _ _ _ (by simp)).trans c0, World.cell?_setCell_same _ _ _ c1, (World.cell?_setCell_other _ _ _ _ (by simp)).trans c2, (World.frozen?_setCell _ _ _ _).trans f1, (World.frozen?_setCell _ _ _ _).trans f2, by omega, hi', by rw [World.size_setCell]; exact blk⟩
theorem qz1o.drewN {k : IntKind} {w : World} {b : Nat} {a : Option Addr} {len cap : Nat} {i h : Int} (D : qz1o k w b a len cap i h) (m : Nat) : qz1o k (w.drewN m) b a len cap i h := by
 obtain ⟨c0, c1, c2, f1, f2, lo, hi, blk⟩ := D
 exact ⟨c0, c1, c2, f1, f2, lo, hi, blk⟩
theorem qz1o.only {k : IntKind} {w w' : World} {b c : Nat} {a : Option Addr} {len cap : Nat} {i h : Int} (D : qz1o k w b a len cap i h) (hO : Only c w w') (hne : b ≠ c) : qz1o k w' b a len cap i h := by
 obtain ⟨c0, c1, c2, f1, f2, lo, hi, blk⟩ := D
 exact ⟨(hO.cell (p := ⟨b, 0, none⟩) blk hne).trans c0, (hO.cell (p := ⟨b, 1, none⟩) blk hne).trans c1, (hO.cell (p := ⟨b, 2, none⟩) blk hne).trans c2, (hO.frozen (p := ⟨b, 1, none⟩) blk hne).trans f1, (hO.frozen (p := ⟨b, 2, none⟩) blk hne).trans f2, lo, hi, Nat.lt_of_lt_of_le blk hO.size⟩
theorem qz1o.below {k : IntKind} {w w' : World} {b : Nat} {a : Option Addr} {len cap : Nat} {i h : Int} (D : qz1o k w b a len cap i h) (hb : Below w.heap.size w w') : qz1o k w' b a len cap i h := by
 obtain ⟨c0, c1, c2, f1, f2, lo, hi, blk⟩ := D
 exact ⟨(hb.cell (p := ⟨b, 0, none⟩) blk).trans c0, (hb.cell (p := ⟨b, 1, none⟩) blk).trans c1, (hb.cell (p := ⟨b, 2, none⟩) blk).trans c2, (hb.frozen (p := ⟨b, 1, none⟩) blk).trans f1, (hb.frozen (p := ⟨b, 2, none⟩) blk).trans f2, lo, hi, Nat.lt_of_lt_of_le blk hb.size⟩
theorem Only.drewN {b : Nat} {x w : World} (h : Only b x w) (m : Nat) : Only b x (w.drewN m) := ⟨h.os, h.tape, h.output, h.size, h.block⟩
theorem qz3n {n : Int} (x : Int) (hn : 1 <= n) : 0 <= x % n /\ x % n < n :=
 ⟨Int.emod_nonneg x (by omega), Int.emod_lt_of_pos x (by omega)⟩
theorem qzd2 (B b : Nat) (a : Option Addr) (len cap : Nat) (i h n : Int) (w : World) (hB : B <= b) (hlen : len <= 4096) (D : qz1o .u64 w b a len cap i h) (C : qz1h B w a len) (hn1 : 1 <= n) (hn2 : n <= 1000) :
  Calls Try.prog 30 #[.pointer (some ⟨b, 0, none⟩), .int .i64 n] w fun e w' => ∃ r i' h', e = .returned (.int .i64 r) /\ 0 <= r /\ r < n /\ qz1o .u64 w' b a len cap i' h' /\ Only b w w' := by
 have D0 := (show Hid _ from D)
 obtain ⟨c0, c1, c2, f1, f2, lo, hi, blk⟩ := D
 by_cases hlt : i < len
 ·obtain ⟨bb, off, v, rfl, hbb, hcv, v0, v1⟩ := C i.toNat (by omega)
  obtain ⟨iN, rfl⟩ := Int.eq_ofNat_of_zero_le lo
  simp only [Int.toNat_natCast] at hcv
  have hcv2 : ∀ h1 : Int, (w.setCell ⟨b, 2, none⟩ (.int .u64 h1)).cell? ⟨bb, off + iN, none⟩ = some (.int .u8 v) := fun h1 => (World.cell?_setCell_other _ _ _ _ (by intro e; have := congrArg Addr.block e; simp at this; omega)).trans hcv
  clear C
  go_enter Try.func30, Try.ntmps30
  go_wp2
  generalize IntKind.u64.wrap (IntKind.u64.wrap (h * 6364136223846793005) + 1442695040888963407) = h1
  have hm := qz7e (h1 / 8589934592)
  generalize bits BinOp.and IntKind.u64 (h1 / 8589934592) 16777215 = x1 at *
  obtain ⟨hm1, hm2⟩ := hm
  have hx : wrap64 x1 = x1 := by unfold wrap64; omega
  rw [hx]
  clear hx
  go_quiet (fail)
  go_wp2
  go_quiet (fail)
  go_wp2
  go_ret
  exact ⟨_, iN + 1, h1, rfl, (qz3n _ hn1).1, (qz3n _ hn1).2, (((D0.out.set2 h1).drewN _).set1 (by omega)), (((Only.refl b w).setCell (Or.inl rfl) _).drewN _).setCell (Or.inl rfl) _⟩
 ·clear C
  go_enter Try.func30, Try.ntmps30
  go_wp2
  generalize IntKind.u64.wrap (IntKind.u64.wrap (h * 6364136223846793005) + 1442695040888963407) = h1
  have hm := qz7e (h1 / 8589934592)
  generalize bits BinOp.and IntKind.u64 (h1 / 8589934592) 16777215 = x1 at *
  obtain ⟨hm1, hm2⟩ := hm
  have hx : wrap64 x1 = x1 := by unfold wrap64; omega
  rw [hx]
  clear hx
  go_quiet (fail)
  go_wp2
  go_ret
  exact ⟨_, i, h1, rfl, (qz3n _ hn1).1, (qz3n _ hn1).2, (D0.out.set2 h1).drewN nq, ((Only.refl b w).setCell (Or.inl rfl) _).drewN nq⟩
theorem qz1o.alloc_new (k : IntKind) (w : World) (a : Option Addr) (len cap : Nat) (h : Int) (T : TypeId) : qz1o k (w.alloc (.cells #[.slice a len cap, .int .i64 0, .int k h] T)) w.heap.size a len cap 0 h := by
 refine ⟨?_, ?_, ?_, ?_, ?_, by omega, by omega, by simp⟩ <;> simp
theorem qzc0 (a : Option Addr) (len cap : Nat) (w : World) : Calls Try.prog 6 #[.slice a len cap] w fun e w' => e = .returned (.bool (decide (4096 < (len : Int)))) /\ w' = w := by
 go_enter Try.func6, Try.ntmps6
 go_wp2
 go_ret
 exact ⟨rfl, rfl⟩
theorem qz8r (a : Option Addr) (len cap : Nat) (w : World) (hlen : len <= 4096) (C : qz1h w.heap.size w a len) :
  Calls Try.prog 43 #[.slice a len cap] w fun e w' => e = .returned (.pointer (some ⟨w.heap.size, 0, none⟩)) /\ (∃ h, qz1o .i64 w' w.heap.size a len cap 0 h) /\ Below w.heap.size w w' := by
 go_enter Try.func43, Try.ntmps43
 go_wp2
 go_loop [3, 4] (fun hh i => ∃ (k : Nat) (x : Int), k <= len /\ i = .int .i64 k /\ hh = .int .i64 x /\ 0 <= x /\ x <= 1073741823) (fun _ i => len - (intOf i).toNat)
 case atStart => exact ⟨0, _, Nat.zero_le _, rfl, rfl, by omega, by omega⟩
 case round =>
  obtain ⟨k, x, hk, rfl, rfl, hx0, hx1⟩ := hrel
  by_cases hlt : k < len
  ·obtain ⟨bb, off, v, rfl, hbb, hcv, v0, v1⟩ := C k hlt
   clear C
   go_wp2
   have hm := qza9 (x * 193 + v + 11)
   go_round
   case rel => exact ⟨k + 1, _, by omega, by go_num, rfl, hm.1, hm.2⟩
   case measure => simp [intOf]; omega
  ·go_wp2
   go_ret
   exact ⟨rfl, ⟨x, qz1o.alloc_new _ _ _ _ _ _ _⟩, (Below.refl _ _).alloc (Nat.le_refl _) _⟩
theorem qz4b (B b : Nat) (a : Option Addr) (len cap : Nat) (i h : Int) (w : World) (hB : B <= b) (hlen : len <= 4096) (D : qz1o .i64 w b a len cap i h) (C : qz1h B w a len) :
  Calls Try.prog 85 #[.pointer (some ⟨b, 0, none⟩)] w fun e w' => ∃ r i' h', e = .returned (.int .i64 r) /\ 0 <= r /\ r <= 255 /\ qz1o .i64 w' b a len cap i' h' /\ Only b w w' := by
 have D0 := (show Hid _ from D)
 obtain ⟨c0, c1, c2, f1, f2, lo, hi, blk⟩ := D
 by_cases hlt : i < len
 ·obtain ⟨bb, off, v, rfl, hbb, hcv, v0, v1⟩ := C i.toNat (by omega)
  obtain ⟨iN, rfl⟩ := Int.eq_ofNat_of_zero_le lo
  simp only [Int.toNat_natCast] at hcv
  have hcv2 : ∀ h1 : Int, (w.setCell ⟨b, 2, none⟩ (.int .i64 h1)).cell? ⟨bb, off + iN, none⟩ = some (.int .u8 v) := fun h1 => (World.cell?_setCell_other _ _ _ _ (by intro e; have := congrArg Addr.block e; simp at this; omega)).trans hcv
  clear C
  go_enter Try.func85, Try.ntmps85
  go_wp2
  generalize wrap64 (wrap64 (h * 6364136223846793005) + 1442695040888963407) = h1
  go_quiet (fail)
  go_wp2
  have hm := qz73 (bits BinOp.xor IntKind.i64 (h1 / 8589934592) (h1 / 35184372088832))
  generalize bits BinOp.and IntKind.i64 (bits BinOp.xor IntKind.i64 (h1 / 8589934592) (h1 / 35184372088832)) 255 = x1 at *
  obtain ⟨hm1, hm2⟩ := hm
  go_quiet (fail)
  go_wp2
  go_quiet (fail)
  go_wp2
  have hm := qz73 (x1 + v)
  go_ret
  exact ⟨_, iN + 1, h1, rfl, hm.1, hm.2, (((D0.out.set2 h1).drewN _).set1 (by omega)), (((Only.refl b w).setCell (Or.inl rfl) _).drewN _).setCell (Or.inl rfl) _⟩
 ·clear C
  go_enter Try.func85, Try.ntmps85
  go_wp2
  generalize wrap64 (wrap64 (h * 6364136223846793005) + 1442695040888963407) = h1
  go_quiet (fail)
  go_wp2
  have hm := qz73 (bits BinOp.xor IntKind.i64 (h1 / 8589934592) (h1 / 35184372088832))
  generalize bits BinOp.and IntKind.i64 (bits BinOp.xor IntKind.i64 (h1 / 8589934592) (h1 / 35184372088832)) 255 = x1 at *
  obtain ⟨hm1, hm2⟩ := hm
  go_quiet (fail)
  go_wp2
  go_ret
  exact ⟨_, i, h1, rfl, hm1, hm2, ((D0.out.set2 h1).drewN _).drewN _, (((Only.refl b w).setCell (Or.inl rfl) _).drewN _).drewN _⟩
theorem qzz (B b : Nat) (a : Option Addr) (len cap : Nat) (i h n : Int) (w : World) (hB : B <= b) (hlen : len <= 4096) (D : qz1o .i64 w b a len cap i h) (C : qz1h B w a len) (hn1 : 1 <= n) (hn2 : n <= 4000000) :
  Calls Try.prog 58 #[.pointer (some ⟨b, 0, none⟩), .int .i64 n] w fun e w' => ∃ r i' h', e = .returned (.int .i64 r) /\ 0 <= r /\ r < n /\ qz1o .i64 w' b a len cap i' h' /\ qz1h B w' a len /\ Only b w w' := by
 have blk := D.blk
 by_cases hs : n <= 256
 ·go_enter Try.func58, Try.ntmps58
  go_wp2_with fail
  refine (qz4b B b a len cap i h w hB hlen D C).mono ?_
  rintro e w1 ⟨r, i1, h1, rfl, r0, r1, D1, O1⟩
  go_wp2
  go_ret
  exact ⟨_, i1, h1, rfl, (qz3n _ hn1).1, (qz3n _ hn1).2, D1, C.below (O1.below hB (by omega)), O1⟩
 ·go_enter Try.func58, Try.ntmps58
  go_wp2_with fail
  refine (qz4b B b a len cap i h w hB hlen D C).mono ?_
  rintro e w1 ⟨r1, i1, h1, rfl, r10, r11, D1, O1⟩
  have C1 := C.below (O1.below hB (by omega))
  go_wp2_with fail
  refine (qz4b B b a len cap i1 h1 w1 hB hlen D1 C1).mono ?_
  rintro e w2 ⟨r2, i2, h2, rfl, r20, r21, D2, O2⟩
  have C2 := C1.below (O2.below hB (by have := D1.blk; omega))
  go_wp2_with fail
  refine (qz4b B b a len cap i2 h2 w2 hB hlen D2 C2).mono ?_
  rintro e w3 ⟨r3, i3, h3, rfl, r30, r31, D3, O3⟩
  have C3 := C2.below (O3.below hB (by have := D2.blk; omega))
  go_wp2_with fail
  refine (qz4b B b a len cap i3 h3 w3 hB hlen D3 C3).mono ?_
  rintro e w4 ⟨r4, i4, h4, rfl, r40, r41, D4, O4⟩
  have C4 := C3.below (O4.below hB (by have := D3.blk; omega))
  go_wp2
  go_ret
  exact ⟨_, i4, h4, rfl, (qz3n _ hn1).1, (qz3n _ hn1).2, D4, C4, ((O1.trans O2).trans O3).trans O4⟩
theorem qz3y (B b : Nat) (a : Option Addr) (len cap : Nat) (i h n : Int) (w : World) (hB : B <= b) (hlen : len <= 4096) (D : qz1o .i64 w b a len cap i h) (C : qz1h B w a len) (hn1 : 1 <= n) (hn2 : n <= 4000000) :
  Calls Try.prog 73 #[.pointer (some ⟨b, 0, none⟩), .int .i64 n] w fun e w' => ∃ (r : Bool) (i' h' : Int), e = .returned (.bool r) /\ qz1o .i64 w' b a len cap i' h' /\ qz1h B w' a len /\ Only b w w' := by
 go_enter Try.func73, Try.ntmps73
 go_wp2_with fail
 refine (qzz B b a len cap i h n w hB hlen D C hn1 hn2).mono ?_
 rintro e w1 ⟨r, i1, h1, rfl, r0, r1, D1, C1, O1⟩
 go_wp2
 go_ret
 exact ⟨_, i1, h1, rfl, D1, C1, O1⟩
theorem qz8u (x y : Int) (w : World) : Calls Try.prog 90 #[.int .i64 x, .int .i64 y] w fun e w' => e = .returned (.int .i64 (min x y)) /\ w' = w := by
 by_cases h : x < y
 ·go_enter Try.func90, Try.ntmps90
  go_wp2
  go_ret
  exact ⟨by rw [show min x y = x by omega]; rfl, rfl⟩
 ·go_enter Try.func90, Try.ntmps90
  go_wp2
  go_ret
  exact ⟨by rw [show min x y = y by omega]; rfl, rfl⟩
end
end Go.Proofs.Ythjkdnlmopafkaa
