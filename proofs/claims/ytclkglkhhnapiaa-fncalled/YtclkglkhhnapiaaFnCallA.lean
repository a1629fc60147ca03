/-
  What the law's proof goes by, part 1.
-/
import Derived.Test.YtclkglkhhnapiaaRows
import Derived.WalkKit
import Derived.ProofKit
import Derived.OpenShut
import Derived.ShutString
import Derived.ChangeOld
import Derived.Below
import Derived.Lib.SmallJoins
import Derived.Laws.Bits128
import Derived.Deep.MidRow
import Derived.Deep.QuietTactic
import Derived.BigQuiet
import Derived.RegionTactic
import Derived.ChangeAlike
import Derived.Deep.RegionWith
import Derived.BigRegion
import Derived.Deep.RegionHeld3
import Derived.Deep.DrawnRows
import Derived.Deep.OwnRows
import Derived.Orders
import Derived.Deep.Quiet
namespace Go.Proofs.Ytclkglkhhnapiaa
open Go.ChangeShapes Go.WideShapes Go.ChangeAt Go.RowKit
set_option maxRecDepth 100000
set_option maxHeartbeats 16000000
set_option linter.unusedVariables false
set_option linter.unusedSimpArgs false
set_option linter.unnecessarySimpa false
set_option linter.unusedSectionVars false
section
theorem own : ownKnob Try.prog.godebug = none := by kernel_rfl
theorem qzd7 : laidOutB Try.prog = true := by kernel_rfl
def inB (n lo hi : Int) : Bool := decide (lo <= n) && decide (n <= hi)
theorem qz1b (n lo hi : Int) : inB n lo hi = true ↔ lo <= n /\ n <= hi := by simp [inB]
theorem qz8p {n lo hi : Int} (h1 : lo <= n) (h2 : n <= hi) : inB n lo hi = true := (qz1b n lo hi).2 ⟨h1, h2⟩
theorem qzb2 {n lo hi : Int} (h : ¬ (lo <= n /\ n <= hi)) : inB n lo hi = false := by
 cases e : inB n lo hi
 ·rfl
 ·exact absurd ((qz1b n lo hi).1 e) h
theorem qzp (n lo hi : Int) (w : World) :
  Calls Try.prog 41 #[.int .i64 n, .int .i64 lo, .int .i64 hi] w fun e w' => e = .returned (.bool (inB n lo hi)) /\ w' = w := by
 by_cases h1 : lo <= n
 ·by_cases h2 : n <= hi
  ·go_enter Try.func41, Try.ntmps41
   go_wp2
   go_ret
   exact ⟨by rw [qz8p h1 h2]; rfl, rfl⟩
  ·go_enter Try.func41, Try.ntmps41
   go_wp2
   go_ret
   exact ⟨by rw [qzb2 (by omega)]; rfl, rfl⟩
 ·go_enter Try.func41, Try.ntmps41
  go_wp2
  go_ret
  exact ⟨by rw [qzb2 (by omega)]; rfl, rfl⟩
theorem qzg (n lo hi : Int) (w : World) :
  Calls Try.prog 43 #[.int .i64 n, .int .i64 lo, .int .i64 hi] w fun e w' => e = .returned (.bool (inB n lo hi)) /\ w' = w := by
 by_cases h1 : lo <= n
 ·by_cases h2 : n <= hi
  ·go_enter Try.func43, Try.ntmps43
   go_wp2
   go_ret
   exact ⟨by rw [qz8p h1 h2]; rfl, rfl⟩
  ·go_enter Try.func43, Try.ntmps43
   go_wp2
   go_ret
   exact ⟨by rw [qzb2 (by omega)]; rfl, rfl⟩
 ·go_enter Try.func43, Try.ntmps43
  go_wp2
  go_ret
  exact ⟨by rw [qzb2 (by omega)]; rfl, rfl⟩
theorem qz1j (n : Int) (w : World) :
  Calls Try.prog 40 #[.int .i64 n] w fun e w' => e = .returned (.bool (inB n 0 63)) /\ w' = w := by
 go_enter Try.func40, Try.ntmps40
 go_wp2_with (go_at_call 41; refine (qzp _ _ _ _).mono ?_; rintro e w' ⟨rfl, rfl⟩)
 go_ret
 exact ⟨rfl, rfl⟩
theorem qzs (n : Int) (w : World) :
  Calls Try.prog 42 #[.int .i64 n] w fun e w' => e = .returned (.bool (inB n 0 63)) /\ w' = w := by
 go_enter Try.func42, Try.ntmps42
 go_wp2_with (go_at_call 43; refine (qzg _ _ _ _).mono ?_; rintro e w' ⟨rfl, rfl⟩)
 go_ret
 exact ⟨rfl, rfl⟩
def qz3o (a b c d : Int) : Bool := inB a 1 8 && inB b 1 60 && inB c 1 400 && inB d 1 8
theorem qz28 (a b c d : Int) : qz3o a b c d = true ↔ (1 <= a /\ a <= 8) /\ (1 <= b /\ b <= 60) /\ (1 <= c /\ c <= 400) /\ (1 <= d /\ d <= 8) := by
 unfold qz3o
 simp only [Bool.and_eq_true, qz1b]
 constructor
 ·rintro ⟨⟨⟨h1, h2⟩, h3⟩, h4⟩
  exact ⟨h1, h2, h3, h4⟩
 ·rintro ⟨h1, h2, h3, h4⟩
  exact ⟨⟨⟨h1, h2⟩, h3⟩, h4⟩
theorem qzbm (a b c d : Int) (w : World) :
  Calls Try.prog 45 #[.agg #[.int .i64 a, .int .i64 b, .int .i64 c, .int .i64 d]] w fun e w' => e = .returned (.bool (qz3o a b c d)) /\ Below w.heap.size w w' := by
 cases h1 : inB a 1 8
 ·have hp : qz3o a b c d = false := by simp [qz3o, h1]
  go_enter Try.func45, Try.ntmps45
  go_wp2_with (go_at_call 41; refine (qzp _ _ _ _).mono ?_; rintro e w' ⟨rfl, rfl⟩)
  go_ret
  exact ⟨by rw [hp]; rfl, (Below.refl _ _).alloc (Nat.le_refl _) _⟩
 ·cases h2 : inB b 1 60
  ·have hp : qz3o a b c d = false := by simp [qz3o, h1, h2]
   go_enter Try.func45, Try.ntmps45
   go_wp2_with (go_at_call 41; refine (qzp _ _ _ _).mono ?_; rintro e w' ⟨rfl, rfl⟩)
   go_ret
   exact ⟨by rw [hp]; rfl, (Below.refl _ _).alloc (Nat.le_refl _) _⟩
  ·cases h3 : inB c 1 400
   ·have hp : qz3o a b c d = false := by simp [qz3o, h1, h2, h3]
    go_enter Try.func45, Try.ntmps45
    go_wp2_with (go_at_call 41; refine (qzp _ _ _ _).mono ?_; rintro e w' ⟨rfl, rfl⟩)
    go_ret
    exact ⟨by rw [hp]; rfl, (Below.refl _ _).alloc (Nat.le_refl _) _⟩
   ·cases h4 : inB d 1 8
    ·have hp : qz3o a b c d = false := by simp [qz3o, h1, h2, h3, h4]
     go_enter Try.func45, Try.ntmps45
     go_wp2_with (go_at_call 41; refine (qzp _ _ _ _).mono ?_; rintro e w' ⟨rfl, rfl⟩)
     go_ret
     exact ⟨by rw [hp]; rfl, (Below.refl _ _).alloc (Nat.le_refl _) _⟩
    ·have hp : qz3o a b c d = true := by simp [qz3o, h1, h2, h3, h4]
     go_enter Try.func45, Try.ntmps45
     go_wp2_with (go_at_call 41; refine (qzp _ _ _ _).mono ?_; rintro e w' ⟨rfl, rfl⟩)
     go_ret
     exact ⟨by rw [hp]; rfl, (Below.refl _ _).alloc (Nat.le_refl _) _⟩
theorem qz1w (a b c d : Int) (w : World) :
  Calls Try.prog 60 #[.agg #[.int .i64 a, .int .i64 b, .int .i64 c, .int .i64 d]] w fun e w' => e = .returned (.bool (qz3o a b c d)) /\ Below w.heap.size w w' := by
 cases h1 : inB a 1 8
 ·have hp : qz3o a b c d = false := by simp [qz3o, h1]
  go_enter Try.func60, Try.ntmps60
  go_wp2_with (go_at_call 43; refine (qzg _ _ _ _).mono ?_; rintro e w' ⟨rfl, rfl⟩)
  go_ret
  exact ⟨by rw [hp]; rfl, (Below.refl _ _).alloc (Nat.le_refl _) _⟩
 ·cases h2 : inB b 1 60
  ·have hp : qz3o a b c d = false := by simp [qz3o, h1, h2]
   go_enter Try.func60, Try.ntmps60
   go_wp2_with (go_at_call 43; refine (qzg _ _ _ _).mono ?_; rintro e w' ⟨rfl, rfl⟩)
   go_ret
   exact ⟨by rw [hp]; rfl, (Below.refl _ _).alloc (Nat.le_refl _) _⟩
  ·cases h3 : inB c 1 400
   ·have hp : qz3o a b c d = false := by simp [qz3o, h1, h2, h3]
    go_enter Try.func60, Try.ntmps60
    go_wp2_with (go_at_call 43; refine (qzg _ _ _ _).mono ?_; rintro e w' ⟨rfl, rfl⟩)
    go_ret
    exact ⟨by rw [hp]; rfl, (Below.refl _ _).alloc (Nat.le_refl _) _⟩
   ·cases h4 : inB d 1 8
    ·have hp : qz3o a b c d = false := by simp [qz3o, h1, h2, h3, h4]
     go_enter Try.func60, Try.ntmps60
     go_wp2_with (go_at_call 43; refine (qzg _ _ _ _).mono ?_; rintro e w' ⟨rfl, rfl⟩)
     go_ret
     exact ⟨by rw [hp]; rfl, (Below.refl _ _).alloc (Nat.le_refl _) _⟩
    ·have hp : qz3o a b c d = true := by simp [qz3o, h1, h2, h3, h4]
     go_enter Try.func60, Try.ntmps60
     go_wp2_with (go_at_call 43; refine (qzg _ _ _ _).mono ?_; rintro e w' ⟨rfl, rfl⟩)
     go_ret
     exact ⟨by rw [hp]; rfl, (Below.refl _ _).alloc (Nat.le_refl _) _⟩
theorem qzdm {W w1 : World} (hb : Below W.heap.size W w1) : (∀ b o, b < W.heap.size -> w1.cell? ⟨b, o, none⟩ = W.cell? ⟨b, o, none⟩) /\ (∀ b o, b < W.heap.size -> w1.frozen? ⟨b, o, none⟩ = W.frozen? ⟨b, o, none⟩) :=
 ⟨fun b o h => hb.cell (p := ⟨b, o, none⟩) h, fun b o h => hb.frozen (p := ⟨b, o, none⟩) h⟩
def qz3r (W : World) (b : Nat) (x y z u : Int) : Prop :=
 W.cell? ⟨b, 0, none⟩ = some (.int .i64 x) /\ W.cell? ⟨b, 1, none⟩ = some (.int .i64 y) /\ W.cell? ⟨b, 2, none⟩ = some (.int .i64 z) /\ W.cell? ⟨b, 3, none⟩ = some (.int .i64 u)
theorem qz1t (w : World) (x y z u : Int) (T : TypeId) : qz3r (w.alloc (.cells #[.int .i64 x, .int .i64 y, .int .i64 z, .int .i64 u] T)) w.heap.size x y z u := by
 refine ⟨?_, ?_, ?_, ?_⟩ <;> simp
theorem qz3r.below {W w1 : World} {b : Nat} {x y z u : Int} (h : qz3r W b x y z u) (hb : Below W.heap.size W w1) (hlt : b < W.heap.size) : qz3r w1 b x y z u := by
 obtain ⟨hc, _⟩ := qzdm hb
 obtain ⟨h0, h1, h2, h3⟩ := h
 exact ⟨(hc b 0 hlt).trans h0, (hc b 1 hlt).trans h1, (hc b 2 hlt).trans h2, (hc b 3 hlt).trans h3⟩
theorem qzd6 {k u : Int} (h0 : 0 <= k) (h1 : k <= 63) (h2 : 1 <= u) (h3 : u <= 8) : 0 <= k * u /\ k * u <= 504 := by
 constructor
 ·exact Int.mul_nonneg h0 (by omega)
 ·have a : k * u <= 63 * u := Int.mul_le_mul_of_nonneg_right h1 (by omega)
  omega
def qz43 (x y z u k : Int) : Int := if qz3o x y z u && inB k 0 63 then k * u / 64 else -1
def qz40 (x y z u k : Int) : Int := if qz3o x y z u && inB k 0 63 then k * u / 64 - 1 else -1
theorem qz8s {x y z u k : Int} (h1 : qz3o x y z u = true) (h2 : inB k 0 63 = true) : qz43 x y z u k = k * u / 64 := by simp [qz43, h1, h2]
theorem qzbh {x y z u k : Int} (h1 : qz3o x y z u = true) (h2 : inB k 0 63 = true) : qz40 x y z u k = k * u / 64 - 1 := by simp [qz40, h1, h2]
theorem qzao {x y z u k : Int} (h : (qz3o x y z u && inB k 0 63) = false) : qz43 x y z u k = -1 := by simp only [qz43, h]; rfl
theorem qzb3 {x y z u k : Int} (h : (qz3o x y z u && inB k 0 63) = false) : qz40 x y z u k = -1 := by simp only [qz40, h]; rfl
theorem qz8x {x y z u k : Int} (h1 : qz3o x y z u = true) (h2 : inB k 0 63 = true) : 0 <= k /\ k <= 63 /\ 1 <= u /\ u <= 8 := by
 have a := (qz28 x y z u).1 h1
 have b := (qz1b k 0 63).1 h2
 exact ⟨b.1, b.2, a.2.2.2.1, a.2.2.2.2⟩
theorem qz4u (x y z u k : Int) (w : World) :
  Calls Try.prog 127 #[.agg #[.int .i64 x, .int .i64 y, .int .i64 z, .int .i64 u], .int .i64 k] w fun e w' => e = .returned (.int .i64 (qz43 x y z u k)) /\ Below w.heap.size w w' := by
 have P0 := qz1t w x y z u 25
 cases h1 : qz3o x y z u
 ·have hv : qz43 x y z u k = -1 := qzao (by simp [h1])
  go_enter Try.func127, Try.ntmps127
  go_wp2_with fail
  refine (qz1w _ _ _ _ _).mono ?_
  rintro e w1 ⟨rfl, hb1⟩
  go_wp2
  go_ret
  exact ⟨by rw [hv]; rfl, ((Below.refl _ _).alloc (Nat.le_refl _) _).trans (hb1.mono (by simp))⟩
 ·cases h2 : inB k 0 63
  ·have hv : qz43 x y z u k = -1 := qzao (by simp [h2])
   go_enter Try.func127, Try.ntmps127
   go_wp2_with fail
   refine (qz1w _ _ _ _ _).mono ?_
   rintro e w1 ⟨rfl, hb1⟩
   go_wp2_with (go_at_call 42; refine (qzs _ _).mono ?_; rintro e w' ⟨rfl, rfl⟩)
   go_ret
   exact ⟨by rw [hv]; rfl, ((Below.refl _ _).alloc (Nat.le_refl _) _).trans (hb1.mono (by simp))⟩
  ·obtain ⟨b0, b1, b2, b3⟩ := qz8x h1 h2
   obtain ⟨m0, m1⟩ := qzd6 b0 b1 b2 b3
   have Hv : Hid (qz43 x y z u k = k * u / 64) := qz8s h1 h2
   go_enter Try.func127, Try.ntmps127
   go_wp2_with fail
   refine (qz1w _ _ _ _ _).mono ?_
   rintro e w1 ⟨rfl, hb1⟩
   have hz1 := hb1.size
   simp at hz1
   obtain ⟨c0, c1, c2, c3⟩ := P0.below hb1 (by simp)
   go_wp2_with (go_at_call 42; refine (qzs _ _).mono ?_; rintro e w' ⟨rfl, rfl⟩)
   go_ret
   exact ⟨by rw [Hv.out]; rfl, ((Below.refl _ _).alloc (Nat.le_refl _) _).trans (hb1.mono (by simp))⟩
theorem qz6d (x y z u k : Int) (w : World) :
  Calls Try.prog 130 #[.agg #[.int .i64 x, .int .i64 y, .int .i64 z, .int .i64 u], .int .i64 k] w fun e w' => e = .returned (.int .i64 (qz40 x y z u k)) /\ Below w.heap.size w w' := by
 have P0 := qz1t w x y z u 25
 cases h1 : qz3o x y z u
 ·have hv : qz40 x y z u k = -1 := qzb3 (by simp [h1])
  go_enter Try.func130, Try.ntmps130
  go_wp2_with fail
  refine (qz1w _ _ _ _ _).mono ?_
  rintro e w1 ⟨rfl, hb1⟩
  go_wp2
  go_ret
  exact ⟨by rw [hv]; rfl, ((Below.refl _ _).alloc (Nat.le_refl _) _).trans (hb1.mono (by simp))⟩
 ·cases h2 : inB k 0 63
  ·have hv : qz40 x y z u k = -1 := qzb3 (by simp [h2])
   go_enter Try.func130, Try.ntmps130
   go_wp2_with fail
   refine (qz1w _ _ _ _ _).mono ?_
   rintro e w1 ⟨rfl, hb1⟩
   go_wp2_with (go_at_call 42; refine (qzs _ _).mono ?_; rintro e w' ⟨rfl, rfl⟩)
   go_ret
   exact ⟨by rw [hv]; rfl, ((Below.refl _ _).alloc (Nat.le_refl _) _).trans (hb1.mono (by simp))⟩
  ·obtain ⟨b0, b1, b2, b3⟩ := qz8x h1 h2
   obtain ⟨m0, m1⟩ := qzd6 b0 b1 b2 b3
   have Hv : Hid (qz40 x y z u k = k * u / 64 - 1) := qzbh h1 h2
   go_enter Try.func130, Try.ntmps130
   go_wp2_with fail
   refine (qz1w _ _ _ _ _).mono ?_
   rintro e w1 ⟨rfl, hb1⟩
   have hz1 := hb1.size
   simp at hz1
   obtain ⟨c0, c1, c2, c3⟩ := P0.below hb1 (by simp)
   go_wp2_with (go_at_call 42; refine (qzs _ _).mono ?_; rintro e w' ⟨rfl, rfl⟩)
   refine (qz4u _ _ _ _ _ _).mono ?_
   rintro e w2 ⟨rfl, hb2⟩
   rw [qz8s h1 h2]
   go_wp2
   go_ret
   exact ⟨by rw [Hv.out]; rfl, (((Below.refl _ _).alloc (Nat.le_refl _) _).trans (hb1.mono (by simp))).trans (hb2.mono (by omega))⟩
end
section
theorem qz81 (n : Int) : 0 <= bits .and .u64 n 16777215 /\ bits .and .u64 n 16777215 <= 16777215 := by
 have h127 : (BitVec.ofInt 64 16777215).toNat = 2 ^ 24 - 1 := by decide
 have key : (BitVec.ofInt 64 n &&& BitVec.ofInt 64 16777215).toNat = (n % ((2 ^ 64 : Nat) : Int)).toNat % 2 ^ 24 := by
  rw [BitVec.toNat_and, BitVec.toNat_ofInt, h127, Nat.and_two_pow_sub_one_eq_mod]
 have e : bits .and .u64 n 16777215 = IntKind.u64.wrap ((BitVec.ofInt 64 n &&& BitVec.ofInt 64 16777215).toNat : Nat) := rfl
 rw [e, key]
 have w : ∀ m : Int, IntKind.u64.wrap m = m % 18446744073709551616 := fun m => by simp [IntKind.wrap, IntKind.bits, IntKind.signed]
 rw [w]
 omega
theorem qz6y (n : Int) : 0 <= bits .and .i64 n 255 /\ bits .and .i64 n 255 <= 255 := by
 have h127 : (BitVec.ofInt 64 255).toNat = 2 ^ 8 - 1 := by decide
 have key : (BitVec.ofInt 64 n &&& BitVec.ofInt 64 255).toNat = (n % ((2 ^ 64 : Nat) : Int)).toNat % 2 ^ 8 := by
  rw [BitVec.toNat_and, BitVec.toNat_ofInt, h127, Nat.and_two_pow_sub_one_eq_mod]
 have e : bits .and .i64 n 255 = IntKind.i64.wrap ((BitVec.ofInt 64 n &&& BitVec.ofInt 64 255).toNat : Nat) := rfl
 rw [e, key, IntKind.wrap_i64]
 omega
theorem qzaa (n : Int) : 0 <= bits .and .i64 n 1073741823 /\ bits .and .i64 n 1073741823 <= 1073741823 := by
 have h127 : (BitVec.ofInt 64 1073741823).toNat = 2 ^ 30 - 1 := by decide
 have key : (BitVec.ofInt 64 n &&& BitVec.ofInt 64 1073741823).toNat = (n % ((2 ^ 64 : Nat) : Int)).toNat % 2 ^ 30 := by
  rw [BitVec.toNat_and, BitVec.toNat_ofInt, h127, Nat.and_two_pow_sub_one_eq_mod]
 have e : bits .and .i64 n 1073741823 = IntKind.i64.wrap ((BitVec.ofInt 64 n &&& BitVec.ofInt 64 1073741823).toNat : Nat) := rfl
 rw [e, key, IntKind.wrap_i64]
 omega
end
section
open Go.RowKit
structure Only (b : Nat) (w w' : World) : Prop where
 os : w'.os = w.os
 tape : w'.tape = w.tape
 output : w'.output = w.output
 size : w.heap.size <= w'.heap.size
 block : ∀ k, k < w.heap.size -> k ≠ b -> w'.heap[k]? = w.heap[k]?
theorem Only.refl (b : Nat) (w : World) : Only b w w := ⟨rfl, rfl, rfl, Nat.le_refl _, fun _ _ _ => rfl⟩
theorem Only.trans {b : Nat} {x y z : World} (h : Only b x y) (k : Only b y z) : Only b x z :=
 ⟨k.os.trans h.os, k.tape.trans h.tape, k.output.trans h.output, Nat.le_trans h.size k.size, fun i hi hb => (k.block i (Nat.lt_of_lt_of_le hi h.size) hb).trans (h.block i hi hb)⟩
theorem Only.alloc {b : Nat} {x w : World} (h : Only b x w) (o : Obj) : Only b x (w.alloc o) :=
 h.trans ⟨rfl, rfl, rfl, by simp, fun k hk _ => Below.heap_alloc _ _ _ hk⟩
theorem Only.setCell {b : Nat} {x w : World} (h : Only b x w) {p : Addr} (hp : p.block = b ∨ x.heap.size <= p.block) (u : Value) : Only b x (w.setCell p u) :=
 ⟨h.os, h.tape, h.output, by simpa [World.setCell] using h.size, fun k hk hb => (Below.heap_setCell _ _ _ _ (by omega)).trans (h.block k hk hb)⟩
theorem Only.of_below {b : Nat} {w w' : World} (h : Below w.heap.size w w') : Only b w w' := ⟨h.os, h.tape, h.output, h.size, fun k hk _ => h.block k hk⟩
theorem Only.below {b B : Nat} {w w' : World} (h : Only b w w') (hb : B <= b) (hB : B <= w.heap.size) : Below B w w' := ⟨h.os, h.tape, h.output, h.size, fun k hk => h.block k (by omega) (by omega)⟩
theorem Only.cell {b : Nat} {w w' : World} (h : Only b w w') {p : Addr} (h1 : p.block < w.heap.size) (h2 : p.block ≠ b) : w'.cell? p = w.cell? p := World.cell?_of_block (w := w) (h.block p.block h1 h2)
theorem Only.frozen {b : Nat} {w w' : World} (h : Only b w w') {p : Addr} (h1 : p.block < w.heap.size) (h2 : p.block ≠ b) : w'.frozen? p = w.frozen? p := World.frozen?_of_block (w := w) (h.block p.block h1 h2)
theorem qz8 (b : Nat) : ∀ (vs : List Value) (o : Nat) (w : World), Only b w (w.setCells b o vs)
 | [], _, w => Only.refl b w
 | v :: vs, o, w => ((Only.refl b w).setCell (p := ⟨b, o, none⟩) (Or.inl rfl) v).trans (qz8 b vs (o + 1) (w.setCell ⟨b, o, none⟩ v))
structure But (S : Nat -> Prop) (w w' : World) : Prop where
 os : w'.os = w.os
 tape : w'.tape = w.tape
 output : w'.output = w.output
 size : w.heap.size <= w'.heap.size
 block : ∀ k, k < w.heap.size -> ¬ S k -> w'.heap[k]? = w.heap[k]?
theorem But.trans {S : Nat -> Prop} {x y z : World} (h : But S x y) (k : But S y z) : But S x z :=
 ⟨k.os.trans h.os, k.tape.trans h.tape, k.output.trans h.output, Nat.le_trans h.size k.size, fun i hi hb => (k.block i (Nat.lt_of_lt_of_le hi h.size) hb).trans (h.block i hi hb)⟩
theorem But.of_only {S : Nat -> Prop} {b : Nat} {w w' : World} (h : Only b w w') (hb : S b) : But S w w' := ⟨h.os, h.tape, h.output, h.size, fun k hk hn => h.block k hk (fun e => hn (e ▸ hb))⟩
theorem But.of_below {S : Nat -> Prop} {w w' : World} (h : Below w.heap.size w w') : But S w w' := ⟨h.os, h.tape, h.output, h.size, fun k hk _ => h.block k hk⟩
theorem But.mono {S S' : Nat -> Prop} {w w' : World} (h : But S w w') (hS : ∀ k, S k -> S' k) : But S' w w' := ⟨h.os, h.tape, h.output, h.size, fun k hk hn => h.block k hk (fun e => hn (hS k e))⟩
theorem But.below {S : Nat -> Prop} {B : Nat} {w w' : World} (h : But S w w') (hB : B <= w.heap.size) (hS : ∀ k, S k -> B <= k) : Below B w w' := ⟨h.os, h.tape, h.output, h.size, fun k hk => h.block k (by omega) (fun e => by have := hS k e; omega)⟩
theorem But.cell {S : Nat -> Prop} {w w' : World} (h : But S w w') {p : Addr} (h1 : p.block < w.heap.size) (h2 : ¬ S p.block) : w'.cell? p = w.cell? p := World.cell?_of_block (w := w) (h.block p.block h1 h2)
theorem But.frozen {S : Nat -> Prop} {w w' : World} (h : But S w w') {p : Addr} (h1 : p.block < w.heap.size) (h2 : ¬ S p.block) : w'.frozen? p = w.frozen? p := World.frozen?_of_block (w := w) (h.block p.block h1 h2)
theorem But.range {S : Nat -> Prop} {w w' : World} (h : But S w w') {b o : Nat} {cs : List Value} (R : w.rangeAt b o cs) (h1 : b < w.heap.size) (h2 : ¬ S b) : w'.rangeAt b o cs := fun j v hv => (h.cell (p := ⟨b, o + j, none⟩) h1 h2).trans (R j v hv)
theorem But.there {S : Nat -> Prop} {w w' : World} (h : But S w w') {b o n : Nat} (T : w.there b o n) (h1 : b < w.heap.size) (h2 : ¬ S b) : w'.there b o n := fun j hj => by rw [h.cell (p := ⟨b, o + j, none⟩) h1 h2, h.frozen (p := ⟨b, o + j, none⟩) h1 h2]; exact T j hj
end
section
def qz1p (B : Nat) (w : World) (a : Option Addr) (len : Nat) : Prop :=
 ∀ j, j < len -> ∃ bb off v, a = some ⟨bb, off, none⟩ /\ bb < B /\ w.cell? ⟨bb, off + j, none⟩ = some (.int .u8 v) /\ 0 <= v /\ v <= 255
theorem qz1p.below {B : Nat} {w w' : World} {a : Option Addr} {len : Nat} (h : qz1p B w a len) (hb : Below B w w') : qz1p B w' a len := by
 intro j hj
 obtain ⟨bb, off, v, h1, h2, h3, h4⟩ := h j hj
 exact ⟨bb, off, v, h1, h2, (hb.cell (p := ⟨bb, off + j, none⟩) h2).trans h3, h4⟩
structure qz1y (k : IntKind) (w : World) (b : Nat) (a : Option Addr) (len cap : Nat) (i h : Int) : Prop where
 c0 : w.cell? ⟨b, 0, none⟩ = some (.slice a len cap)
 c1 : w.cell? ⟨b, 1, none⟩ = some (.int .i64 i)
 c2 : w.cell? ⟨b, 2, none⟩ = some (.int k h)
 f1 : w.frozen? ⟨b, 1, none⟩ = false
 f2 : w.frozen? ⟨b, 2, none⟩ = false
 lo : 0 <= i
 hi : i <= len
 blk : b < w.heap.size
theorem qz1y.set2 {k : IntKind} {w : World} {b : Nat} {a : Option Addr} {len cap : Nat} {i h : Int} (D : qz1y k w b a len cap i h) (h' : Int) : qz1y k (w.setCell ⟨b, 2, none⟩ (.int k h')) b a len cap i h' := by
 obtain ⟨c0, c1, c2, f1, f2, lo, hi, blk⟩ := D
 exact ⟨(World.cell?_setCell_other _ _ _ _ (by simp)).trans c0, (World.cell?_setCell_other _ _ _ _ (by simp)).trans c1, World.cell?_setCell_same _ _ _ c2, (World.frozen?_setCell _ _ _ _).trans f1, (World.frozen?_setCell _ _ _ _).trans f2, lo, hi, by rw [World.size_setCell]; exact blk⟩
theorem qz1y.set1 {k : IntKind} {w : World} {b : Nat} {a : Option Addr} {len cap : Nat} {i h : Int} (D : qz1y k w b a len cap i h) (hi' : i + 1 <= len) : qz1y k (w.setCell ⟨b, 1, none⟩ (.int .i64 (i + 1))) b a len cap (i + 1) h := by
 obtain ⟨c0, c1, c2, f1, f2, lo, hi, blk⟩ := D
 exact ⟨(World.cell?_setCell_other _ _ _ _ (by simp)).trans c0, World.cell?_setCell_same _ _ _ c1, (World.cell?_setCell_other _ _ _ _ (by simp)).trans c2, (World.frozen?_setCell _ _ _ _).trans f1, (World.frozen?_setCell _ _ _ _).trans f2, by omega, hi', by rw [World.size_setCell]; exact blk⟩
theorem qz1y.drewN {k : IntKind} {w : World} {b : Nat} {a : Option Addr} {len cap : Nat} {i h : Int} (D : qz1y k w b a len cap i h) (m : Nat) : qz1y k (w.drewN m) b a len cap i h := by
 obtain ⟨c0, c1, c2, f1, f2, lo, hi, blk⟩ := D
 exact ⟨c0, c1, c2, f1, f2, lo, hi, blk⟩
theorem qz1y.only {k : IntKind} {w w' : World} {b c : Nat} {a : Option Addr} {len cap : Nat} {i h : Int} (D : qz1y k w b a len cap i h) (hO : Only c w w') (hne : b ≠ c) : qz1y k w' b a len cap i h := by
 obtain ⟨c0, c1, c2, f1, f2, lo, hi, blk⟩ := D
 exact ⟨(hO.cell (p := ⟨b, 0, none⟩) blk hne).trans c0, (hO.cell (p := ⟨b, 1, none⟩) blk hne).trans c1, (hO.cell (p := ⟨b, 2, none⟩) blk hne).trans c2, (hO.frozen (p := ⟨b, 1, none⟩) blk hne).trans f1, (hO.frozen (p := ⟨b, 2, none⟩) blk hne).trans f2, lo, hi, Nat.lt_of_lt_of_le blk hO.size⟩
theorem qz1y.below {k : IntKind} {w w' : World} {b : Nat} {a : Option Addr} {len cap : Nat} {i h : Int} (D : qz1y k w b a len cap i h) (hb : Below w.heap.size w w') : qz1y k w' b a len cap i h := by
 obtain ⟨c0, c1, c2, f1, f2, lo, hi, blk⟩ := D
 exact ⟨(hb.cell (p := ⟨b, 0, none⟩) blk).trans c0, (hb.cell (p := ⟨b, 1, none⟩) blk).trans c1, (hb.cell (p := ⟨b, 2, none⟩) blk).trans c2, (hb.frozen (p := ⟨b, 1, none⟩) blk).trans f1, (hb.frozen (p := ⟨b, 2, none⟩) blk).trans f2, lo, hi, Nat.lt_of_lt_of_le blk hb.size⟩
theorem Only.drewN {b : Nat} {x w : World} (h : Only b x w) (m : Nat) : Only b x (w.drewN m) := ⟨h.os, h.tape, h.output, h.size, h.block⟩
theorem qz3u {n : Int} (x : Int) (hn : 1 <= n) : 0 <= x % n /\ x % n < n :=
 ⟨Int.emod_nonneg x (by omega), Int.emod_lt_of_pos x (by omega)⟩
theorem qzdc (B b : Nat) (a : Option Addr) (len cap : Nat) (i h n : Int) (w : World) (hB : B <= b) (hlen : len <= 4096) (D : qz1y .u64 w b a len cap i h) (C : qz1p B w a len) (hn1 : 1 <= n) (hn2 : n <= 1000) :
  Calls Try.prog 50 #[.pointer (some ⟨b, 0, none⟩), .int .i64 n] w fun e w' => ∃ r i' h', e = .returned (.int .i64 r) /\ 0 <= r /\ r < n /\ qz1y .u64 w' b a len cap i' h' /\ Only b w w' := by
 have D0 := (show Hid _ from D)
 obtain ⟨c0, c1, c2, f1, f2, lo, hi, blk⟩ := D
 by_cases hlt : i < len
 ·obtain ⟨bb, off, v, rfl, hbb, hcv, v0, v1⟩ := C i.toNat (by omega)
  obtain ⟨iN, rfl⟩ := Int.eq_ofNat_of_zero_le lo
  simp only [Int.toNat_natCast] at hcv
  have hcv2 : ∀ h1 : Int, (w.setCell ⟨b, 2, none⟩ (.int .u64 h1)).cell? ⟨bb, off + iN, none⟩ = some (.int .u8 v) := fun h1 => (World.cell?_setCell_other _ _ _ _ (by intro e; have := congrArg Addr.block e; simp at this; omega)).trans hcv
  clear C
  go_enter Try.func50, Try.ntmps50
  go_wp2
  generalize IntKind.u64.wrap (IntKind.u64.wrap (h * 6364136223846793005) + 1442695040888963407) = h1
  have hm := qz81 (h1 / 8589934592)
  generalize bits BinOp.and IntKind.u64 (h1 / 8589934592) 16777215 = x1 at *
  obtain ⟨hm1, hm2⟩ := hm
  have hx : wrap64 x1 = x1 := by unfold wrap64; omega
  rw [hx]
  clear hx
  go_quiet (fail)
  go_wp2
  go_quiet (fail)
  go_wp2
  go_ret
  exact ⟨_, iN + 1, h1, rfl, (qz3u _ hn1).1, (qz3u _ hn1).2, (((D0.out.set2 h1).drewN _).set1 (by omega)), (((Only.refl b w).setCell (Or.inl rfl) _).drewN _).setCell (Or.inl rfl) _⟩
 ·clear C
  go_enter Try.func50, Try.ntmps50
  go_wp2
  generalize IntKind.u64.wrap (IntKind.u64.wrap (h * 6364136223846793005) + 1442695040888963407) = h1
  have hm := qz81 (h1 / 8589934592)
  generalize bits BinOp.and IntKind.u64 (h1 / 8589934592) 16777215 = x1 at *
  obtain ⟨hm1, hm2⟩ := hm
  have hx : wrap64 x1 = x1 := by unfold wrap64; omega
  rw [hx]
  clear hx
  go_quiet (fail)
  go_wp2
  go_ret
  exact ⟨_, i, h1, rfl, (qz3u _ hn1).1, (qz3u _ hn1).2, (D0.out.set2 h1).drewN nq, ((Only.refl b w).setCell (Or.inl rfl) _).drewN nq⟩
theorem qz1y.alloc_new (k : IntKind) (w : World) (a : Option Addr) (len cap : Nat) (h : Int) (T : TypeId) : qz1y k (w.alloc (.cells #[.slice a len cap, .int .i64 0, .int k h] T)) w.heap.size a len cap 0 h := by
 refine ⟨?_, ?_, ?_, ?_, ?_, by omega, by omega, by simp⟩ <;> simp
theorem qzc5 (a : Option Addr) (len cap : Nat) (w : World) : Calls Try.prog 6 #[.slice a len cap] w fun e w' => e = .returned (.bool (decide (4096 < (len : Int)))) /\ w' = w := by
 go_enter Try.func6, Try.ntmps6
 go_wp2
 go_ret
 exact ⟨rfl, rfl⟩
theorem qz90 (a : Option Addr) (len cap : Nat) (w : World) (hlen : len <= 4096) (C : qz1p w.heap.size w a len) :
  Calls Try.prog 30 #[.slice a len cap] w fun e w' => e = .returned (.pointer (some ⟨w.heap.size, 0, none⟩)) /\ (∃ h, qz1y .i64 w' w.heap.size a len cap 0 h) /\ Below w.heap.size w w' := by
 go_enter Try.func30, Try.ntmps30
 go_wp2
 go_loop [3, 4] (fun hh i => ∃ (k : Nat) (x : Int), k <= len /\ i = .int .i64 k /\ hh = .int .i64 x /\ 0 <= x /\ x <= 1073741823) (fun _ i => len - (intOf i).toNat)
 case atStart => exact ⟨0, _, Nat.zero_le _, rfl, rfl, by omega, by omega⟩
 case round =>
  obtain ⟨k, x, hk, rfl, rfl, hx0, hx1⟩ := hrel
  by_cases hlt : k < len
  ·obtain ⟨bb, off, v, rfl, hbb, hcv, v0, v1⟩ := C k hlt
   clear C
   go_wp2
   have hm := qzaa (x * 193 + v + 11)
   go_round
   case rel => exact ⟨k + 1, _, by omega, by go_num, rfl, hm.1, hm.2⟩
   case measure => simp [intOf]; omega
  ·go_wp2
   go_ret
   exact ⟨rfl, ⟨x, qz1y.alloc_new _ _ _ _ _ _ _⟩, (Below.refl _ _).alloc (Nat.le_refl _) _⟩
theorem qz4i (B b : Nat) (a : Option Addr) (len cap : Nat) (i h : Int) (w : World) (hB : B <= b) (hlen : len <= 4096) (D : qz1y .i64 w b a len cap i h) (C : qz1p B w a len) :
  Calls Try.prog 99 #[.pointer (some ⟨b, 0, none⟩)] w fun e w' => ∃ r i' h', e = .returned (.int .i64 r) /\ 0 <= r /\ r <= 255 /\ qz1y .i64 w' b a len cap i' h' /\ Only b w w' := by
 have D0 := (show Hid _ from D)
 obtain ⟨c0, c1, c2, f1, f2, lo, hi, blk⟩ := D
 by_cases hlt : i < len
 ·obtain ⟨bb, off, v, rfl, hbb, hcv, v0, v1⟩ := C i.toNat (by omega)
  obtain ⟨iN, rfl⟩ := Int.eq_ofNat_of_zero_le lo
  simp only [Int.toNat_natCast] at hcv
  have hcv2 : ∀ h1 : Int, (w.setCell ⟨b, 2, none⟩ (.int .i64 h1)).cell? ⟨bb, off + iN, none⟩ = some (.int .u8 v) := fun h1 => (World.cell?_setCell_other _ _ _ _ (by intro e; have := congrArg Addr.block e; simp at this; omega)).trans hcv
  clear C
  go_enter Try.func99, Try.ntmps99
  go_wp2
  generalize wrap64 (wrap64 (h * 6364136223846793005) + 1442695040888963407) = h1
  go_quiet (fail)
  go_wp2
  have hm := qz6y (bits BinOp.xor IntKind.i64 (h1 / 8589934592) (h1 / 35184372088832))
  generalize bits BinOp.and IntKind.i64 (bits BinOp.xor IntKind.i64 (h1 / 8589934592) (h1 / 35184372088832)) 255 = x1 at *
  obtain ⟨hm1, hm2⟩ := hm
  go_quiet (fail)
  go_wp2
  go_quiet (fail)
  go_wp2
  have hm := qz6y (x1 + v)
  go_ret
  exact ⟨_, iN + 1, h1, rfl, hm.1, hm.2, (((D0.out.set2 h1).drewN _).set1 (by omega)), (((Only.refl b w).setCell (Or.inl rfl) _).drewN _).setCell (Or.inl rfl) _⟩
 ·clear C
  go_enter Try.func99, Try.ntmps99
  go_wp2
  generalize wrap64 (wrap64 (h * 6364136223846793005) + 1442695040888963407) = h1
  go_quiet (fail)
  go_wp2
  have hm := qz6y (bits BinOp.xor IntKind.i64 (h1 / 8589934592) (h1 / 35184372088832))
  generalize bits BinOp.and IntKind.i64 (bits BinOp.xor IntKind.i64 (h1 / 8589934592) (h1 / 35184372088832)) 255 = x1 at *
  obtain ⟨hm1, hm2⟩ := hm
  go_quiet (fail)
  go_wp2
  go_ret
  exact ⟨_, i, h1, rfl, hm1, hm2, ((D0.out.set2 h1).drewN _).drewN _, (((Only.refl b w).setCell (Or.inl rfl) _).drewN _).drewN _⟩
theorem qz12 (B b : Nat) (a : Option Addr) (len cap : Nat) (i h n : Int) (w : World) (hB : B <= b) (hlen : len <= 4096) (D : qz1y .i64 w b a len cap i h) (C : qz1p B w a len) (hn1 : 1 <= n) (hn2 : n <= 4000000) :
  Calls Try.prog 73 #[.pointer (some ⟨b, 0, none⟩), .int .i64 n] w fun e w' => ∃ r i' h', e = .returned (.int .i64 r) /\ 0 <= r /\ r < n /\ qz1y .i64 w' b a len cap i' h' /\ qz1p B w' a len /\ Only b w w' := by
 have blk := D.blk
 by_cases hs : n <= 256
 ·go_enter Try.func73, Try.ntmps73
  go_wp2_with fail
  refine (qz4i B b a len cap i h w hB hlen D C).mono ?_
  rintro e w1 ⟨r, i1, h1, rfl, r0, r1, D1, O1⟩
  go_wp2
  go_ret
  exact ⟨_, i1, h1, rfl, (qz3u _ hn1).1, (qz3u _ hn1).2, D1, C.below (O1.below hB (by omega)), O1⟩
 ·go_enter Try.func73, Try.ntmps73
  go_wp2_with fail
  refine (qz4i B b a len cap i h w hB hlen D C).mono ?_
  rintro e w1 ⟨r1, i1, h1, rfl, r10, r11, D1, O1⟩
  have C1 := C.below (O1.below hB (by omega))
  go_wp2_with fail
  refine (qz4i B b a len cap i1 h1 w1 hB hlen D1 C1).mono ?_
  rintro e w2 ⟨r2, i2, h2, rfl, r20, r21, D2, O2⟩
  have C2 := C1.below (O2.below hB (by have := D1.blk; omega))
  go_wp2_with fail
  refine (qz4i B b a len cap i2 h2 w2 hB hlen D2 C2).mono ?_
  rintro e w3 ⟨r3, i3, h3, rfl, r30, r31, D3, O3⟩
  have C3 := C2.below (O3.below hB (by have := D2.blk; omega))
  go_wp2_with fail
  refine (qz4i B b a len cap i3 h3 w3 hB hlen D3 C3).mono ?_
  rintro e w4 ⟨r4, i4, h4, rfl, r40, r41, D4, O4⟩
  have C4 := C3.below (O4.below hB (by have := D3.blk; omega))
  go_wp2
  go_ret
  exact ⟨_, i4, h4, rfl, (qz3u _ hn1).1, (qz3u _ hn1).2, D4, C4, ((O1.trans O2).trans O3).trans O4⟩
theorem qz2z (B b : Nat) (a : Option Addr) (len cap : Nat) (i h n : Int) (w : World) (hB : B <= b) (hlen : len <= 4096) (D : qz1y .i64 w b a len cap i h) (C : qz1p B w a len) (hn1 : 1 <= n) (hn2 : n <= 4000000) :
  Calls Try.prog 32 #[.pointer (some ⟨b, 0, none⟩), .int .i64 n] w fun e w' => ∃ (r : Bool) (i' h' : Int), e = .returned (.bool r) /\ qz1y .i64 w' b a len cap i' h' /\ qz1p B w' a len /\ Only b w w' := by
 go_enter Try.func32, Try.ntmps32
 go_wp2_with fail
 refine (qz12 B b a len cap i h n w hB hlen D C hn1 hn2).mono ?_
 rintro e w1 ⟨r, i1, h1, rfl, r0, r1, D1, C1, O1⟩
 go_wp2
 go_ret
 exact ⟨_, i1, h1, rfl, D1, C1, O1⟩
theorem qz8q (x y : Int) (w : World) : Calls Try.prog 97 #[.int .i64 x, .int .i64 y] w fun e w' => e = .returned (.int .i64 (min x y)) /\ w' = w := by
 by_cases h : x < y
 ·go_enter Try.func97, Try.ntmps97
  go_wp2
  go_ret
  exact ⟨by rw [show min x y = x by omega]; rfl, rfl⟩
 ·go_enter Try.func97, Try.ntmps97
  go_wp2
  go_ret
  exact ⟨by rw [show min x y = y by omega]; rfl, rfl⟩
end
section
def qzbn (w : World) (b : Nat) (xs : List Int) : Prop := b < w.heap.size /\ ∀ j, j < xs.length -> w.cell? ⟨b, j, none⟩ = some (.int .i64 (xs.getD j 0))
theorem qz51 (w : World) (xs : List Int) (C : Array Value) (T : TypeId) (h : C = (xs.map (Value.int .i64)).toArray) : qzbn (w.alloc (.cells C T)) w.heap.size xs := by
 refine ⟨by simp, fun j hj => ?_⟩
 rw [World.cell?_alloc_new, h]
 simp [hj]
theorem qzbn.only {w w' : World} {b c : Nat} {xs : List Int} (h : qzbn w b xs) (hO : Only c w w') (hne : b ≠ c) : qzbn w' b xs :=
 ⟨Nat.lt_of_lt_of_le h.1 hO.size, fun j hj => (hO.cell (p := ⟨b, j, none⟩) h.1 hne).trans (h.2 j hj)⟩
theorem qz1y.alloc {k : IntKind} {w : World} {b : Nat} {a : Option Addr} {len cap : Nat} {i h : Int} (D : qz1y k w b a len cap i h) (o : Obj) : qz1y k (w.alloc o) b a len cap i h :=
 D.only ((Only.refl w.heap.size w).alloc o) (by have := D.blk; omega)
theorem qz1p.alloc {B : Nat} {w : World} {a : Option Addr} {len : Nat} (h : qz1p B w a len) (hB : B <= w.heap.size) (o : Obj) : qz1p B (w.alloc o) a len :=
 h.below ((Below.refl _ _).alloc hB o)
theorem qz1p.weaken {B B' : Nat} {w : World} {a : Option Addr} {len : Nat} (h : qz1p B w a len) (hB : B <= B') : qz1p B' w a len := by
 intro j hj
 obtain ⟨bb, off, v, h1, h2, h3⟩ := h j hj
 exact ⟨bb, off, v, h1, by omega, h3⟩
theorem qzbe (B b : Nat) (a : Option Addr) (len cap : Nat) (i h : Int) (w : World) (hB : B <= b) (hlen : len <= 4096) (D : qz1y .i64 w b a len cap i h) (C : qz1p B w a len) :
  Calls Try.prog 100 #[.pointer (some ⟨b, 0, none⟩)] w fun e w' => ∃ r i' h', e = .returned (.int .i64 r) /\ qz1y .i64 w' b a len cap i' h' /\ qz1p B w' a len /\ Only b w w' := by
 have blk := D.blk
 go_enter Try.func100, Try.ntmps100
 go_wp2_with fail
 refine (qz12 B b a len cap i h 10 _ hB hlen (D.alloc _) (C.alloc (by omega) _) (by omega) (by omega)).mono ?_
 rintro e w1 ⟨r, i1, h1, rfl, r0, r1, D1, C1, O1⟩
 have I1 := (qz51 w [-1, 0, 1, 2147483648, -2147483648, 1099511627776, 4611686018427387904, -4611686018427387904, 9223372036854775807, -9223372036854775808] _ 2 rfl).only O1 (by omega)
 obtain ⟨rN, rfl⟩ := Int.eq_ofNat_of_zero_le r0
 obtain ⟨v, hv⟩ : ∃ v, w1.cell? ⟨w.heap.size, rN, none⟩ = some (.int .i64 v) := ⟨_, I1.2 rN (by simp; omega)⟩
 clear I1
 have r2 : (rN : Int) < 10 := r1
 go_wp2
 go_ret
 exact ⟨v, i1, h1, rfl, D1, C1, ((Only.refl _ _).alloc _).trans O1⟩
theorem qz3x (B b : Nat) (a : Option Addr) (len cap : Nat) (i h m : Int) (w : World) (hB : B <= b) (hlen : len <= 4096) (D : qz1y .i64 w b a len cap i h) (C : qz1p B w a len) (hm1 : 0 <= m) (hm2 : m <= 2000000) :
  Calls Try.prog 75 #[.pointer (some ⟨b, 0, none⟩), .int .i64 m] w fun e w' => ∃ r i' h', e = .returned (.int .i64 r) /\ qz1y .i64 w' b a len cap i' h' /\ qz1p B w' a len /\ Only b w w' := by
 go_enter Try.func75, Try.ntmps75
 go_wp2_with fail
 refine (qz2z B b a len cap i h 10 _ hB hlen D C (by omega) (by omega)).mono ?_
 rintro e w1 ⟨r, i1, h1, rfl, D1, C1, O1⟩
 cases r
 ·go_wp2_with fail
  refine (qz2z B b a len cap i1 h1 2 _ hB hlen D1 C1 (by omega) (by omega)).mono ?_
  rintro e w2 ⟨r, i2, h2, rfl, D2, C2, O2⟩
  cases r
  ·go_wp2_with fail
   refine (qz12 B b a len cap i2 h2 _ _ hB hlen D2 C2 (by omega) (by omega)).mono ?_
   rintro e w3 ⟨r, i3, h3, rfl, r0, r1, D3, C3, O3⟩
   go_wp2
   go_ret
   exact ⟨_, i3, h3, rfl, D3, C3, (O1.trans O2).trans O3⟩
  ·go_wp2_with fail
   refine (qz8q _ _ _).mono ?_
   rintro e w3 ⟨rfl, rfl⟩
   have hq : 0 <= min m 4 /\ min m 4 <= 4 := by omega
   generalize min m 4 = q at *
   obtain ⟨q0, q1⟩ := hq
   go_wp2_with fail
   refine (qz12 B b a len cap i2 h2 _ _ hB hlen D2 C2 (by omega) (by omega)).mono ?_
   rintro e w3 ⟨r, i3, h3, rfl, r0, r1, D3, C3, O3⟩
   go_wp2
   go_ret
   exact ⟨_, i3, h3, rfl, D3, C3, (O1.trans O2).trans O3⟩
 ·go_wp2_with fail
  refine (qzbe B b a len cap i1 h1 _ hB hlen D1 C1).mono ?_
  rintro e w2 ⟨z, i2, h2, rfl, D2, C2, O2⟩
  go_wp2_with fail
  refine (qz12 B b a len cap i2 h2 4 _ hB hlen (D2.alloc _) (C2.alloc (by have := D2.blk; omega) _) (by omega) (by omega)).mono ?_
  rintro e w3 ⟨r, i3, h3, rfl, r0, r1, D3, C3, O3⟩
  have I3 := (qz51 w2 [-1, m, m + 1, z] _ 2 rfl).only O3 (by have := D2.blk; omega)
  obtain ⟨rN, rfl⟩ := Int.eq_ofNat_of_zero_le r0
  obtain ⟨v, hv⟩ : ∃ v, w3.cell? ⟨w2.heap.size, rN, none⟩ = some (.int .i64 v) := ⟨_, I3.2 rN (by simp; omega)⟩
  clear I3
  go_wp2
  go_ret
  exact ⟨v, i3, h3, rfl, D3, C3, (O1.trans O2).trans (((Only.refl _ _).alloc _).trans O3)⟩
structure qz5w (w : World) (b : Nat) (x y z u : Int) : Prop where
 c0 : w.cell? ⟨b, 0, none⟩ = some (.int .i64 x)
 c1 : w.cell? ⟨b, 1, none⟩ = some (.int .i64 y)
 c2 : w.cell? ⟨b, 2, none⟩ = some (.int .i64 z)
 c3 : w.cell? ⟨b, 3, none⟩ = some (.int .i64 u)
 f0 : w.frozen? ⟨b, 0, none⟩ = false
 f1 : w.frozen? ⟨b, 1, none⟩ = false
 f2 : w.frozen? ⟨b, 2, none⟩ = false
 f3 : w.frozen? ⟨b, 3, none⟩ = false
 blk : b < w.heap.size
theorem qz5k (w : World) (x y z u : Int) (T : TypeId) : qz5w (w.alloc (.cells #[.int .i64 x, .int .i64 y, .int .i64 z, .int .i64 u] T)) w.heap.size x y z u := by
 refine ⟨?_, ?_, ?_, ?_, ?_, ?_, ?_, ?_, by simp⟩ <;> simp
theorem qz5w.only {w w' : World} {b c : Nat} {x y z u : Int} (P : qz5w w b x y z u) (hO : Only c w w') (hne : b ≠ c) : qz5w w' b x y z u :=
 ⟨(hO.cell (p := ⟨b, 0, none⟩) P.blk hne).trans P.c0, (hO.cell (p := ⟨b, 1, none⟩) P.blk hne).trans P.c1, (hO.cell (p := ⟨b, 2, none⟩) P.blk hne).trans P.c2, (hO.cell (p := ⟨b, 3, none⟩) P.blk hne).trans P.c3,
  (hO.frozen (p := ⟨b, 0, none⟩) P.blk hne).trans P.f0, (hO.frozen (p := ⟨b, 1, none⟩) P.blk hne).trans P.f1, (hO.frozen (p := ⟨b, 2, none⟩) P.blk hne).trans P.f2, (hO.frozen (p := ⟨b, 3, none⟩) P.blk hne).trans P.f3, Nat.lt_of_lt_of_le P.blk hO.size⟩
theorem qz5w.alloc {w : World} {b : Nat} {x y z u : Int} (P : qz5w w b x y z u) (o : Obj) : qz5w (w.alloc o) b x y z u :=
 P.only ((Only.refl w.heap.size w).alloc o) (by have := P.blk; omega)
theorem qz5u (w : World) (c : Nat) (x y z u : Int) : Only c w ((((w.setCell ⟨c, 0, none⟩ (.int .i64 x)).setCell ⟨c, 1, none⟩ (.int .i64 y)).setCell ⟨c, 2, none⟩ (.int .i64 z)).setCell ⟨c, 3, none⟩ (.int .i64 u)) :=
 ((((Only.refl c w).setCell (Or.inl rfl) _).setCell (Or.inl rfl) _).setCell (Or.inl rfl) _).setCell (Or.inl rfl) _
theorem Only.set4 {b c : Nat} {x w : World} (h : Only b x w) (hc : x.heap.size <= c) (p q r s : Int) : Only b x ((((w.setCell ⟨c, 0, none⟩ (.int .i64 p)).setCell ⟨c, 1, none⟩ (.int .i64 q)).setCell ⟨c, 2, none⟩ (.int .i64 r)).setCell ⟨c, 3, none⟩ (.int .i64 s)) :=
 (((h.setCell (Or.inr hc) _).setCell (Or.inr hc) _).setCell (Or.inr hc) _).setCell (Or.inr hc) _
theorem qz7u (B b : Nat) (a : Option Addr) (len cap : Nat) (i h : Int) (w : World) (hB : B <= b) (hlen : len <= 4096) (D : qz1y .i64 w b a len cap i h) (C : qz1p B w a len) :
  Calls Try.prog 96 #[.pointer (some ⟨b, 0, none⟩)] w fun e w' => ∃ x y z u i' h', qz3o x y z u = true /\ e = .returned (.agg #[.int .i64 x, .int .i64 y, .int .i64 z, .int .i64 u]) /\ qz1y .i64 w' b a len cap i' h' /\ qz1p B w' a len /\ Only b w w' := by
 have blk := D.blk
 go_enter Try.func96, Try.ntmps96
 go_wp2_with fail
 have R0 := qz5k w 0 0 0 0 25
 refine (qz12 B b a len cap i h 4 _ hB hlen (D.alloc _) (C.alloc (by omega) _) (by omega) (by omega)).mono ?_
 rintro e w1 ⟨r1, i1, h1, rfl, r10, r11, D1, C1, O1⟩
 have R1 := R0.only O1 (by omega)
 go_wp2_with fail
 refine (qz12 B b a len cap i1 h1 12 _ hB hlen D1 C1 (by omega) (by omega)).mono ?_
 rintro e w2 ⟨r2, i2, h2, rfl, r20, r21, D2, C2, O2⟩
 have R2 := R1.only O2 (by omega)
 go_wp2_with fail
 refine (qz12 B b a len cap i2 h2 60 _ hB hlen D2 C2 (by omega) (by omega)).mono ?_
 rintro e w3 ⟨r3, i3, h3, rfl, r30, r31, D3, C3, O3⟩
 have R3 := R2.only O3 (by omega)
 go_wp2_with fail
 refine (qz12 B b a len cap i3 h3 4 _ hB hlen D3 C3 (by omega) (by omega)).mono ?_
 rintro e w4 ⟨r4, i4, h4, rfl, r40, r41, D4, C4, O4⟩
 have R4 := R3.only O4 (by omega)
 have b4 := D4.blk
 have O04 := ((((Only.refl b w).alloc (Obj.cells #[.int .i64 0, .int .i64 0, .int .i64 0, .int .i64 0] 25)).trans O1).trans O2).trans (O3.trans O4)
 clear R0 R1 R2 R3 D1 D2 D3 C1 C2 C3 O1 O2 O3 O4
 go_wp2_with fail
 have P5 := qz5k w4 (1 + r1) (2 + r2) (10 + r3) (1 + r4) 25
 refine (qz2z B b a len cap i4 h4 8 _ hB hlen (D4.alloc _) (C4.alloc (by omega) _) (by omega) (by omega)).mono ?_
 rintro e w5 ⟨r5, i5, h5, rfl, D5, C5, O5⟩
 have P6 := P5.only O5 (by omega)
 have R5 := (R4.alloc _).only O5 (by omega)
 have O05 := (O04.alloc _).trans O5
 have hz4 := R4.blk
 have hz5 := P6.blk
 clear P5 R4 O5 D4 C4 O04
 cases r5
 ·obtain ⟨c0, c1, c2, c3, _, _, _, _, _⟩ := P6
  obtain ⟨k0, k1, k2, k3, f0, f1, f2, f3, _⟩ := R5
  go_wp2
  exact bodyPost_ret (v := .agg #[.int .i64 (1 + r1), .int .i64 (2 + r2), .int .i64 (10 + r3), .int .i64 (1 + r4)]) (by simp [results, Try.results96, go_sem, k0, k1, k2, k3]) rfl ⟨_, _, _, _, i5, h5, (qz28 _ _ _ _).2 (by omega), rfl, D5.only (qz5u _ _ _ _ _ _) (by omega), C5.below ((qz5u _ _ _ _ _ _).below (by omega) (by omega)), O05.set4 (by omega) _ _ _ _⟩
 ·go_wp2_with fail
  refine (qz12 B b a len cap i5 h5 12 _ hB hlen D5 C5 (by omega) (by omega)).mono ?_
  rintro e w6 ⟨r6, i6, h6, rfl, r60, r61, D6, C6, O6⟩
  have P7 := P6.only O6 (by omega)
  have R6 := R5.only O6 (by omega)
  have O06 := O05.trans O6
  have hz6 := O6.size
  clear P6 R5 D5 C5 O6
  obtain ⟨c0, c1, c2, c3, _, _, g2, _, _⟩ := P7
  obtain ⟨k0, k1, k2, k3, f0, f1, f2, f3, _⟩ := R6
  go_wp2
  exact bodyPost_ret (v := .agg #[.int .i64 (1 + r1), .int .i64 (2 + r2), .int .i64 (1 + r6), .int .i64 (1 + r4)]) (by simp [results, Try.results96, go_sem, k0, k1, k2, k3]) rfl ⟨_, _, _, _, i6, h6, (qz28 _ _ _ _).2 (by omega), rfl, (D6.only ((Only.refl w4.heap.size w6).setCell (Or.inl rfl) _) (by omega)).only (qz5u _ _ _ _ _ _) (by omega), (C6.below ((Below.refl _ _).setCell (by simp; omega) _)).below ((qz5u _ _ _ _ _ _).below (by omega) (by simp; omega)), (O06.setCell (Or.inr (by simp; omega)) _).set4 (by omega) _ _ _ _⟩
end
section
open Go.RowKit
theorem qzh (w : World) (C : Array Value) (T : TypeId) (n : Nat) (h : n <= C.size) : (w.alloc (.cells C T)).there w.heap.size 0 n := by
 intro j hj
 rw [Nat.zero_add, World.cell?_alloc_new]
 refine ⟨?_, by simp⟩
 rw [Array.getElem?_eq_getElem (by omega)]
 rfl
theorem qzd (w : World) (cs : List Value) (T : TypeId) : (w.alloc (.cells cs.toArray T)).rangeAt w.heap.size 0 cs := by
 intro j v hv
 rw [Nat.zero_add, World.cell?_alloc_new]
 simpa using hv
theorem qz0 {w w' : World} {B b o : Nat} {cs : List Value} (h : w.rangeAt b o cs) (hb : Below B w w') (hB : b < B) : w'.rangeAt b o cs :=
 fun j v hv => (hb.cell (p := ⟨b, o + j, none⟩) hB).trans (h j v hv)
theorem qz6 {w w' : World} {B b o n : Nat} (h : w.there b o n) (hb : Below B w w') (hB : b < B) : w'.there b o n :=
 fun j hj => by rw [hb.cell (p := ⟨b, o + j, none⟩) hB, hb.frozen (p := ⟨b, o + j, none⟩) hB]; exact h j hj
theorem qzj (b : Nat) : ∀ (vs : List Value) (o : Nat) (w : World), (w.setCells b o vs).heap.size = w.heap.size
 | [], _, _ => rfl
 | v :: vs, o, w => by
  show ((w.setCell ⟨b, o, none⟩ v).setCells b (o + 1) vs).heap.size = _
  rw [qzj b vs (o + 1), World.size_setCell]
theorem Below.setCells {B b : Nat} {a : World} (hB : B <= b) : ∀ (vs : List Value) (o : Nat) (w : World), Below B a w -> Below B a (w.setCells b o vs)
 | [], _, _, h => h
 | v :: vs, o, w, h => Below.setCells hB vs (o + 1) (w.setCell ⟨b, o, none⟩ v) (h.setCell hB v)
theorem qz4 {w : World} {b o n : Nat} (h : w.there b o n) (a : Addr) (v : Value) : (w.setCell a v).there b o n := by
 intro j hj
 refine ⟨?_, (World.frozen?_setCell _ _ _ _).trans (h j hj).2⟩
 by_cases e : a = ⟨b, o + j, none⟩
 ·subst e
  obtain ⟨u, hu⟩ := Option.isSome_iff_exists.1 (h j hj).1
  rw [World.cell?_setCell_same _ _ _ hu]
  rfl
 ·rw [World.cell?_setCell_other _ _ _ _ e]
  exact (h j hj).1
theorem qz5 {P : Program} {fn : Func} {p : Tmp} {ty : TypeId} (h : fn.results = #[.cell p ty]) (tmps : Array Value) (w : World) (b o : Nat) (hp : tmps.getD p undef = .pointer (some ⟨b, o, none⟩))
  (cs : List Value) (d : TypeDesc) (hc : w.rangeAt b o cs) (hu : P.underlying ty = some d) (hd : d.isRow = true) (hi : (P.info? ty).map (·.size) = some cs.length) : (results fn tmps).run P w = .ok (.agg cs.toArray) w := by
 have hl := run_loadVar_mid (P := P) w b o ty cs d hc hu hd hi
 rw [Array.getD_eq_getD_getElem?] at hp
 simp [results, h, hp, asAddr, hl]
theorem qzi {P : Program} {fn : Func} {p q : Tmp} {ty : TypeId} (h : fn.results = #[.cell p ty, .tmp q]) (tmps : Array Value) (w : World) (b o : Nat) (hp : tmps.getD p undef = .pointer (some ⟨b, o, none⟩))
  (cs : List Value) (d : TypeDesc) (hc : w.rangeAt b o cs) (hu : P.underlying ty = some d) (hd : d.isRow = true) (hi : (P.info? ty).map (·.size) = some cs.length) : (results fn tmps).run P w = .ok (.tuple #[.agg cs.toArray, tmps.getD q undef]) w := by
 have hl := run_loadVar_mid (P := P) w b o ty cs d hc hu hd hi
 rw [Array.getD_eq_getD_getElem?] at hp
 simp [results, h, hp, asAddr, Result.andThen, hl]
end
section
attribute [local go_sem ↓] Go.wp_at_zero Go.wp_at_succ
structure Nd where
 key : Int
 value : Int
 head : Int
structure Vr where
 next : Int
 gone : Bool
 stamp : Int
 prev : Int
 kind : Int
structure Ar where
 camera : Int
 slots : List Int
 guides : List Int
 nodes : List Nd
 vers : List Vr
def intC (n : Int) : List Value := [.int .i64 n]
def ndC (x : Nd) : List Value := [.int .i64 x.key, .int .i64 x.value, .int .i64 x.head]
def vrC (x : Vr) : List Value := [.int .i64 x.next, .bool x.gone, .int .i64 x.stamp, .int .i64 x.prev, .int .i64 x.kind]
def qzq {α : Type} (f : α -> List Value) (l : List α) : List Value := l.flatMap f
theorem qz2h {α : Type} {f : α -> List Value} {sz : Nat} (hf : ∀ x, (f x).length = sz) (l : List α) : (qzq f l).length = l.length * sz := by
 induction l with
 | nil => simp [qzq]
 | cons x l ih => simp only [qzq, List.flatMap_cons, List.length_append, List.length_cons] at ih ⊢; rw [ih, hf, Nat.add_mul]; omega
theorem qz2s {α : Type} (f : α -> List Value) (l : List α) (x : α) : qzq f (l ++ [x]) = qzq f l ++ f x := by simp [qzq]
theorem qz1q {α : Type} {f : α -> List Value} {sz : Nat} (hf : ∀ x, (f x).length = sz) : ∀ (l : List α) (i : Nat) (hi : i < l.length) (j : Nat), j < sz -> (qzq f l)[i * sz + j]? = (f l[i])[j]?
 | x :: l, 0, _, j, hj => by
  simp only [qzq, List.flatMap_cons, Nat.zero_mul, Nat.zero_add, List.getElem_cons_zero]
  rw [List.getElem?_append_left (by rw [hf]; exact hj)]
 | x :: l, i + 1, hi, j, hj => by
  have ih := qz1q hf l i (by simpa using hi) j hj
  simp only [qzq, List.flatMap_cons, List.getElem_cons_succ] at ih ⊢
  rw [List.getElem?_append_right (by rw [hf, Nat.add_mul]; omega), hf, <- ih]
  congr 1
  rw [Nat.add_mul]
  omega
def qz14 (B : Nat) (w : World) (v : Value) (len : Nat) (cs : List Value) : Prop :=
 ∃ a cap, v = .slice a len cap /\ (len = 0 ∨ ∃ bb off, a = some ⟨bb, off, none⟩ /\ bb < B /\ w.rangeAt bb off cs)
theorem qz14.below {B : Nat} {w w' : World} {v : Value} {len : Nat} {cs : List Value} (h : qz14 B w v len cs) (hb : Below B w w') : qz14 B w' v len cs := by
 obtain ⟨a, cap, rfl, h⟩ := h
 refine ⟨a, cap, rfl, ?_⟩
 rcases h with h | ⟨bb, off, rfl, h1, h2⟩
 ·exact Or.inl h
 ·exact Or.inr ⟨bb, off, rfl, h1, qz0 h2 hb h1⟩
theorem qz14.weaken {B B' : Nat} {w : World} {v : Value} {len : Nat} {cs : List Value} (h : qz14 B w v len cs) (hB : B <= B') : qz14 B' w v len cs := by
 obtain ⟨a, cap, rfl, h⟩ := h
 refine ⟨a, cap, rfl, ?_⟩
 rcases h with h | ⟨bb, off, rfl, h1, h2⟩
 ·exact Or.inl h
 ·exact Or.inr ⟨bb, off, rfl, by omega, h2⟩
theorem qzu {α : Type} {f : α -> List Value} {sz : Nat} (hf : ∀ x, (f x).length = sz) {w : World} {b o : Nat} {l : List α} (R : w.rangeAt b o (qzq f l)) (i : Nat) (hi : i < l.length) : w.rangeAt b (o + i * sz) (f l[i]) := by
 intro j v hj
 have hlt : j < sz := by
  rcases Nat.lt_or_ge j (f l[i]).length with h | h
  ·rw [hf] at h; exact h
  ·rw [List.getElem?_eq_none h] at hj; cases hj
 have := R (i * sz + j) v (by rw [qz1q hf l i hi j hlt]; exact hj)
 rw [Nat.add_assoc]
 exact this
theorem qz1c {w : World} {b o n : Nat} (T : w.there b o n) (k m : Nat) (h : k + m <= n) : w.there b (o + k) m := by
 intro j hj
 have := T (k + j) (by omega)
 rw [<- Nat.add_assoc] at this
 exact this
theorem qzb6 : (Try.prog.info? 96).map (fun i => (i.zero, i.size, i.bytes)) = some (some (.agg #[.int .i64 0, .int .i64 0, .int .i64 0]), 3, 24) := by kernel_rfl
theorem qza8 : (Try.prog.info? 62).map (fun i => (i.zero, i.size, i.bytes)) = some (some (.agg #[.int .i64 0, .bool false, .int .i64 0, .int .i64 0, .int .i64 0]), 5, 40) := by kernel_rfl
structure qz25 (B : Nat) (w : World) (s g n r : Value) (A : Ar) : Prop where
 s : qz14 B w s A.slots.length (qzq intC A.slots)
 g : qz14 B w g A.guides.length (qzq intC A.guides)
 n : qz14 B w n A.nodes.length (qzq ndC A.nodes)
 r : qz14 B w r A.vers.length (qzq vrC A.vers)
def Ar.size (A : Ar) : Nat := A.slots.length + A.guides.length + A.nodes.length + A.vers.length
theorem qz25.below {B : Nat} {w w' : World} {s g n r : Value} {A : Ar} (I : qz25 B w s g n r A) (hb : Below B w w') : qz25 B w' s g n r A :=
 ⟨I.s.below hb, I.g.below hb, I.n.below hb, I.r.below hb⟩
theorem qz25.weaken {B B' : Nat} {w : World} {s g n r : Value} {A : Ar} (I : qz25 B w s g n r A) (hB : B <= B') : qz25 B' w s g n r A :=
 ⟨I.s.weaken hB, I.g.weaken hB, I.n.weaken hB, I.r.weaken hB⟩
theorem qzc {w : World} {b : Nat} {cs : List Value} (R : w.rangeAt b 0 cs) (k : Nat) (hk : k < cs.length) (v : Value) : (w.setCell ⟨b, k, none⟩ v).rangeAt b 0 (cs.set k v) := by
 intro j u hj
 rw [Nat.zero_add]
 by_cases e : k = j
 ·subst e
  rw [List.getElem?_set_self hk] at hj
  cases hj
  have := R k cs[k] (List.getElem?_eq_getElem hk)
  rw [Nat.zero_add] at this
  exact World.cell?_setCell_same _ _ _ this
 ·rw [List.getElem?_set_ne e] at hj
  have := R j u hj
  rw [Nat.zero_add] at this
  exact (World.cell?_setCell_other _ _ _ _ (by simp)).trans this
theorem qz3g {w : World} {b o : Nat} {cs : List Value} (R : w.rangeAt b o cs) {a : Addr} (h : a.block ≠ b) (v : Value) : (w.setCell a v).rangeAt b o cs := by
 intro j u hj
 refine (World.cell?_setCell_other _ _ _ _ ?_).trans (R j u hj)
 intro e
 exact h (by rw [e])
theorem row5 {w : World} {b : Nat} {v0 v1 v2 v3 v4 : Value} (R : w.rangeAt b 0 [v0, v1, v2, v3, v4]) : w.cell? ⟨b, 0, none⟩ = some v0 /\ w.cell? ⟨b, 1, none⟩ = some v1 /\ w.cell? ⟨b, 2, none⟩ = some v2 /\ w.cell? ⟨b, 3, none⟩ = some v3 /\ w.cell? ⟨b, 4, none⟩ = some v4 := by
 refine ⟨?_, ?_, ?_, ?_, ?_⟩
 ·simpa using R 0 v0 rfl
 ·simpa using R 1 v1 rfl
 ·simpa using R 2 v2 rfl
 ·simpa using R 3 v3 rfl
 ·simpa using R 4 v4 rfl
end
section
def qz2g (xN uN : Nat) : Ar := ⟨0, List.replicate xN (-1), List.replicate uN 0, [⟨-1, 0, 0⟩], [⟨-1, false, 0, -1, 0⟩]⟩
theorem qz14.of {B : Nat} {w : World} {b len n cap : Nat} {cs : List Value} (hl : n = len) (hb : b < B) (R : w.rangeAt b 0 cs) : qz14 B w (.slice (some ⟨b, 0, none⟩) n cap) len cs := by
 subst hl
 exact ⟨_, _, rfl, Or.inr ⟨b, 0, rfl, hb, R⟩⟩
theorem qz60 (n : Nat) (v : Int) : qzq intC (List.replicate n v) = List.replicate n (.int .i64 v) := by
 induction n with
 | zero => rfl
 | succ n ih => simp only [List.replicate_succ, qzq, List.flatMap_cons] at ih ⊢; rw [ih]; rfl
theorem qzb9 {w : World} {base : Nat} {e : TypeId} {g n cap : Nat} {xs : List Value} (h : w.ownsRow base e 1 (.slice (some ⟨g, 0, none⟩) n cap) n xs) (hn : 0 < n) : g < w.heap.size /\ w.rangeAt g 0 xs := by
 rcases h.2 with ⟨h0, _⟩ | ⟨g', cap', cur, hv, hg, hh, hnc, _, hs, ht⟩
 ·cases h0
 ·injection hv with hv _ _
  injection hv with hv
  injection hv with hv _ _
  subst hv
  have hlt : g < w.heap.size := by
   rcases Nat.lt_or_ge g w.heap.size with hl | hl
   ·exact hl
   ·rw [Array.getElem?_eq_none hl] at hh; cases hh
  refine ⟨hlt, ?_⟩
  have R := World.rangeAt_of_block hh 0 n
  have e1 : (cur.extract 0 (0 + n)).toList = xs := by rw [<- ht]; simp
  rw [e1] at R
  exact R
theorem qza4 : (Try.prog.info? 2).map (fun i => (i.zero, i.size, i.bytes)) = some (some (.int .i64 0), 1, 8) := by kernel_rfl
theorem qz2q : (Try.prog.info? 38).map (fun i => i.size) = some 5 := by kernel_rfl
theorem qz1l {w : World} {base : Nat} {e : TypeId} {size : Nat} {v : Value} {n : Nat} {xs : List Value} (h : w.ownsRow base e size v n xs) {j : Nat} (hj : v.ownBlock = some j) : base <= j := by
 rcases h.2 with ⟨rfl, _⟩ | ⟨g, cap, cur, rfl, hg, _⟩
 ·simp [Value.ownBlock] at hj
 ·simp [Value.ownBlock] at hj
  omega
theorem qz19 {w : World} {base : Nat} {e : TypeId} {size : Nat} {v : Value} {n : Nat} {xs : List Value} (h : w.ownsRow base e size v n xs) (hn : 0 < n) : ∃ g cap, v = .slice (some ⟨g, 0, none⟩) n cap := by
 rcases h.2 with ⟨rfl, h0⟩ | ⟨g, cap, cur, rfl, _⟩
 ·omega
 ·exact ⟨g, cap, rfl⟩
def qz6j (w1 : World) (uN : Nat) : World :=
 (((w1.alloc (Obj.cells (madeCells #[Value.int IntKind.i64 0] uN) 2)).alloc (Obj.cells #[Value.int IntKind.i64 (-1), Value.int IntKind.i64 0, Value.int IntKind.i64 0] 96)).alloc
  (Obj.cells #[Value.int IntKind.i64 (-1), Value.bool false, Value.int IntKind.i64 0, Value.int IntKind.i64 (-1), Value.int IntKind.i64 0] 62)).alloc
   (Obj.cells #[Value.int IntKind.i64 0, Value.slice none 0 0, Value.slice (some ⟨w1.heap.size, 0, none⟩) uN uN, Value.slice (some ⟨w1.heap.size + 1, 0, none⟩) 1 1, Value.slice (some ⟨w1.heap.size + 1 + 1, 0, none⟩) 1 1] 38)
theorem qz9l (w1 : World) (uN : Nat) : (qz6j w1 uN).heap.size = w1.heap.size + 4 := by simp [qz6j]
theorem qz9i (w1 : World) (uN : Nat) : (qz6j w1 uN).rangeAt w1.heap.size 0 (qzq intC (List.replicate uN 0)) /\ (qz6j w1 uN).rangeAt (w1.heap.size + 1) 0 (ndC ⟨-1, 0, 0⟩) /\ (qz6j w1 uN).rangeAt (w1.heap.size + 1 + 1) 0 (vrC ⟨-1, false, 0, -1, 0⟩) := by
 have e : madeCells #[Value.int IntKind.i64 0] uN = (qzq intC (List.replicate uN 0)).toArray := by
  apply Array.toList_inj.1
  rw [toList_madeCells_one, qz60]
 unfold qz6j
 rw [e]
 refine ⟨?_, ?_, ?_⟩
 ·exact World.rangeAt_alloc (World.rangeAt_alloc (World.rangeAt_alloc (qzd w1 _ _) _) _) _
 ·have h := qzd (w1.alloc (Obj.cells (qzq intC (List.replicate uN 0)).toArray 2)) (ndC ⟨-1, 0, 0⟩) 96
  simp only [World.size_alloc] at h
  exact World.rangeAt_alloc (World.rangeAt_alloc h _) _
 ·have h := qzd ((w1.alloc (Obj.cells (qzq intC (List.replicate uN 0)).toArray 2)).alloc (Obj.cells (ndC ⟨-1, 0, 0⟩).toArray 96)) (vrC ⟨-1, false, 0, -1, 0⟩) 62
  simp only [World.size_alloc] at h
  exact World.rangeAt_alloc h _
structure qz67 (w1 : World) (uN : Nat) (wr : World) (k : Nat) (s : Value) : Prop where
 a0 : wr.cell? ⟨w1.heap.size + 1 + 1 + 1, 0, none⟩ = some (.int .i64 0)
 a1 : wr.cell? ⟨w1.heap.size + 1 + 1 + 1, 1, none⟩ = some s
 a2 : wr.cell? ⟨w1.heap.size + 1 + 1 + 1, 2, none⟩ = some (.slice (some ⟨w1.heap.size, 0, none⟩) uN uN)
 a3 : wr.cell? ⟨w1.heap.size + 1 + 1 + 1, 3, none⟩ = some (.slice (some ⟨w1.heap.size + 1, 0, none⟩) 1 1)
 a4 : wr.cell? ⟨w1.heap.size + 1 + 1 + 1, 4, none⟩ = some (.slice (some ⟨w1.heap.size + 1 + 1, 0, none⟩) 1 1)
 f1 : wr.frozen? ⟨w1.heap.size + 1 + 1 + 1, 1, none⟩ = false
 own : wr.ownsRow (w1.heap.size + 4) 2 1 s k (List.replicate k (.int .i64 (-1)))
 bel : Below (w1.heap.size + 3) (qz6j w1 uN) wr
theorem qz67.blk {w1 : World} {uN : Nat} {wr : World} {k : Nat} {s : Value} (D : qz67 w1 uN wr k s) : w1.heap.size + 4 <= wr.heap.size := by
 have := D.bel.size
 rw [qz9l] at this
 exact this
theorem qz7p (w1 : World) (uN : Nat) : qz67 w1 uN (qz6j w1 uN) 0 (.slice none 0 0) := by
 have h := (qzh (((w1.alloc (Obj.cells (madeCells #[Value.int IntKind.i64 0] uN) 2)).alloc (Obj.cells #[Value.int IntKind.i64 (-1), Value.int IntKind.i64 0, Value.int IntKind.i64 0] 96)).alloc
  (Obj.cells #[Value.int IntKind.i64 (-1), Value.bool false, Value.int IntKind.i64 0, Value.int IntKind.i64 (-1), Value.int IntKind.i64 0] 62))
   #[Value.int IntKind.i64 0, Value.slice none 0 0, Value.slice (some ⟨w1.heap.size, 0, none⟩) uN uN, Value.slice (some ⟨w1.heap.size + 1, 0, none⟩) 1 1, Value.slice (some ⟨w1.heap.size + 1 + 1, 0, none⟩) 1 1] 38 5 (by simp) 1 (by omega)).2
 simp only [World.size_alloc, Nat.zero_add] at h
 refine ⟨?_, ?_, ?_, ?_, ?_, h, World.ownsRow_nil _ _ _ _, Below.refl _ _⟩ <;> simp [qz6j, World.cell?_alloc_at]
theorem qz67.step {w1 : World} {uN : Nat} {wr : World} {k : Nat} {s : Value} (D : qz67 w1 uN wr k s) {o : Obj} {w2 : World} {v' : Value}
  (ho : w2.ownsRow (w1.heap.size + 4) 2 1 v' (k + 1) (List.replicate k (.int .i64 (-1)) ++ [.int .i64 (-1)])) (hg : (wr.alloc o).grownBy w2 s.ownBlock) :
  qz67 w1 uN (w2.setCell ⟨w1.heap.size + 1 + 1 + 1, 1, none⟩ v') (k + 1) v' := by
 have hz := D.blk
 have b2 : Below (w1.heap.size + 4) wr w2 := ((Below.refl _ wr).alloc hz o).grown hg (by simp; omega) (fun j e => qz1l D.own e)
 have hc : ∀ j, w2.cell? ⟨w1.heap.size + 1 + 1 + 1, j, none⟩ = wr.cell? ⟨w1.heap.size + 1 + 1 + 1, j, none⟩ := fun j => b2.cell (p := ⟨w1.heap.size + 1 + 1 + 1, j, none⟩) (by simp)
 have hf := b2.frozen (p := ⟨w1.heap.size + 1 + 1 + 1, 1, none⟩) (by simp)
 refine ⟨?_, World.cell?_setCell_same _ _ _ ((hc 1).trans D.a1), ?_, ?_, ?_, (World.frozen?_setCell _ _ _ _).trans (hf.trans D.f1), ?_, ?_⟩
 ·exact (World.cell?_setCell_other _ _ _ _ (by simp)).trans ((hc 0).trans D.a0)
 ·exact (World.cell?_setCell_other _ _ _ _ (by simp)).trans ((hc 2).trans D.a2)
 ·exact (World.cell?_setCell_other _ _ _ _ (by simp)).trans ((hc 3).trans D.a3)
 ·exact (World.cell?_setCell_other _ _ _ _ (by simp)).trans ((hc 4).trans D.a4)
 ·rw [List.replicate_succ']
  exact ownsRow_setCell_below ho (by simp) _
 ·exact (D.bel.trans (b2.mono (by omega))).setCell (by simp) _
end
section
def qz3d : List Value := [.int .i64 0, .int .i64 0, .int .i64 0, .int .i64 (-1), .int .i64 0, .int .i64 0, .int .i64 0, .int .i64 0, .int .i64 0, .int .i64 (-1), .int .i64 0, .int .i64 0, .int .i64 0, .int .i64 0, .int .i64 0, .int .i64 0, .int .i64 (-1), .int .i64 0, .int .i64 (-1), .int .i64 0, .int .i64 0, .int .i64 0]
theorem qzch : (Try.prog.info? 27).map (fun i => i.size) = some qz3d.toArray.size := by kernel_rfl
theorem qzbx : (Try.prog.info? 27).map (fun i => i.size) = some qz3d.length := by kernel_rfl
theorem qzd8 : qz3d.toArray.all (·.oneCell') = true := by kernel_rfl
theorem qz95 (w : World) (C : Array Value) (T : TypeId) (h : C.size = 22) : (w.alloc (.cells C T)).there w.heap.size 0 qz3d.toArray.size := qzh w C T _ (by rw [h]; decide)
theorem qz4v (w : World) : Calls Try.prog 76 #[] w fun e w' => e = .returned (.agg qz3d.toArray) /\ Below w.heap.size w w' := by
 go_enter Try.func76, Try.ntmps76
 go_wp2_with (refine wpList_store_mid rfl 27 (.tmp 0) (.tmp 1) rfl w.heap.size 0 _ rfl rfl ?ht ?hi ?h1 ?_)
 case ht => exact qz95 _ _ _ rfl
 case hi => exact qzch
 case h1 => exact qzd8
 refine bodyPost_ret (v := .agg qz3d.toArray) ?_ rfl ⟨rfl, ?_⟩
 ·exact qz5 Try.results76 _ _ w.heap.size 0 rfl qz3d _ (World.rangeAt_setCells_same _ _ _ _ (qz95 _ _ _ rfl)) Try.underlying27 rfl qzbx
 ·exact Below.setCells (Nat.le_refl _) _ _ _ ((Below.refl _ _).alloc (Nat.le_refl _) _)
end
section
theorem qz7q (xN uN : Nat) (y z : Int) (w : World) (hp : qz3o xN y z uN = true) :
  Calls Try.prog 19 #[.agg #[.int .i64 xN, .int .i64 y, .int .i64 z, .int .i64 uN]] w fun e w' => ∃ sg sc gb nb vb, e = .returned (.agg #[.int .i64 0, .slice (some ⟨sg, 0, none⟩) xN sc, .slice (some ⟨gb, 0, none⟩) uN uN, .slice (some ⟨nb, 0, none⟩) 1 1, .slice (some ⟨vb, 0, none⟩) 1 1]) /\
   qz25 w'.heap.size w' (.slice (some ⟨sg, 0, none⟩) xN sc) (.slice (some ⟨gb, 0, none⟩) uN uN) (.slice (some ⟨nb, 0, none⟩) 1 1) (.slice (some ⟨vb, 0, none⟩) 1 1) (qz2g xN uN) /\ Below w.heap.size w w' /\ Hid (w.heap.size <= sg /\ w.heap.size <= gb /\ w.heap.size <= nb /\ w.heap.size <= vb) := by
 have hr := (qz28 xN y z uN).1 hp
 obtain ⟨⟨hx1, hx2⟩, ⟨hy1, hy2⟩, ⟨hz1, hz2⟩, hu1, hu2⟩ := hr
 have hmk := fun w => run_make_row' (P := Try.prog) 34 2 (.int .i64 0) 8 Try.underlying34 qza4 rfl .i64 .i64 uN (by omega) (by omega) w
 have P0 := qz1t w xN y z uN 25
 go_enter Try.func19, Try.ntmps19
 go_wp2_with fail
 have R0 := qzh (w.alloc (Obj.cells #[.int .i64 xN, .int .i64 y, .int .i64 z, .int .i64 uN] 25)) #[.int .i64 0, .slice none 0 0, .slice none 0 0, .slice none 0 0, .slice none 0 0] 38 5 (by decide)
 refine (qz1w _ _ _ _ _).mono ?_
 rintro e w1 ⟨rfl, b1⟩
 have hz1 := b1.size
 simp at hz1
 have P1 := (P0.below ((Below.refl _ _).alloc (Nat.le_refl _) _) (by simp)).below b1 (by simp; omega)
 have R1 := qz6 R0 b1 (by simp)
 have bb1 := (((Below.refl w.heap.size w).alloc (Nat.le_refl _) (Obj.cells #[.int .i64 xN, .int .i64 y, .int .i64 z, .int .i64 uN] 25)).alloc (by simp) (Obj.cells #[.int .i64 0, .slice none 0 0, .slice none 0 0, .slice none 0 0, .slice none 0 0] 38)).trans (b1.mono (by simp; omega))
 have P1' := P1
 obtain ⟨c0, c1, c2, c3⟩ := P1'
 clear b1 P0 R0
 rw [hp]
 obtain ⟨i0, hi, hzr, hsz, hby⟩ := info_parts qza4
 go_wp2
 go_loopw [4] (fun i wr => ∃ (k : Nat) (s : Value), k <= xN /\ i = .int .i64 k /\ qz67 w1 uN wr k s) (fun i _ => xN - (intOf i).toNat)
 case atStart => exact ⟨0, _, Nat.zero_le _, rfl, qz7p w1 uN⟩
 case round =>
  obtain ⟨k, s, hk, rfl, D⟩ := hrel
  have hz := D.blk
  have bW : Below w1.heap.size w1 wr := (by
   have h1 : Below w1.heap.size w1 (qz6j w1 uN) := ((((Below.refl w1.heap.size w1).alloc (Nat.le_refl _) _).alloc (by simp) _).alloc (by simp; omega) _).alloc (by simp; omega) _
   exact h1.trans (D.bel.mono (by omega)))
  obtain ⟨e0, e1, e2, e3⟩ := P1.below bW (by omega)
  by_cases hlt : k < xN
  ·have D0 := D
   obtain ⟨a0, a1, a2, a3, a4, f1, own, bel⟩ := D
   go_wp2_with (at_builtin; refine wpList_append_own _ rfl _ _ 34 rfl (w1.heap.size + 4) 2 i0 (.int .i64 0) 1 8 Try.underlying34 hi hzr hsz hby rfl (by decide) _ _ _ rfl (own.alloc _) ⟨wr.heap.size, 0, none⟩ 1 1 [.int .i64 (-1)] rfl rfl ?c1 ?c2 ?c3 ?c4 ?c5 ?_)
   case c1 =>
    intro j u hj
    match j, hj with
    | 0, hj => simp at hj; subst hj; simp [Addr.add]
   case c2 => intro u hu; simp at hu; subst hu; rfl
   case c3 => unfold maxLen; omega
   case c4 => omega
   case c5 => simp; omega
   intro v' w2 hown' hgrow _
   have S := D0.step hown' hgrow
   have b2 : Below (w1.heap.size + 4) wr w2 := ((Below.refl _ wr).alloc hz _).grown hgrow (by simp; omega) (fun j e => qz1l own e)
   have g1 := (b2.cell (p := ⟨w1.heap.size + 1 + 1 + 1, 1, none⟩) (by simp)).trans a1
   have g2 := (b2.frozen (p := ⟨w1.heap.size + 1 + 1 + 1, 1, none⟩) (by simp)).trans f1
   obtain ⟨g, cap, hv⟩ := qz19 hown' (by omega)
   rw [hv] at S ⊢
   clear own bel D0 hown' hgrow b2 bW
   go_wp2
   go_roundw
   case rel => exact ⟨k + 1, _, by omega, by go_num, S⟩
   case measure => simp [intOf]; omega
  ·obtain rfl : k = xN := by omega
   have D0 := D
   obtain ⟨a0, a1, a2, a3, a4, f1, own, bel⟩ := D
   have R2 := qz6 R1 bW (by simp; omega)
   simp only [World.size_alloc] at R2
   obtain ⟨g, cap, rfl⟩ := qz19 own (by omega)
   obtain ⟨gz, gr⟩ := qzb9 own (by omega)
   rw [<- qz60] at gr
   obtain ⟨B0, B1, B2⟩ := qz9i w1 uN
   have M0 := qz0 B0 bel (by omega)
   have M1 := qz0 B1 bel (by omega)
   have M2 := qz0 B2 bel (by omega)
   have gg := qz1l own rfl
   have gg' : w1.heap.size + 4 <= g := gg
   have hlow : Hid (w.heap.size <= g /\ w.heap.size <= w1.heap.size /\ w.heap.size <= w1.heap.size + 1 /\ w.heap.size <= w1.heap.size + 1 + 1) := by show _ /\ _; omega
   clear bel own B0 B1 B2 gg'
   go_wp2_with (refine wpList_store_mid rfl 38 (.tmp 2) (.tmp 28) rfl (w.heap.size + 1) 0 _ rfl rfl R2 qz2q (by simp [Value.oneCell']) ?_)
   refine bodyPost_ret (v := .agg #[.int .i64 0, .slice (some ⟨g, 0, none⟩) k cap, .slice (some ⟨w1.heap.size, 0, none⟩) uN uN, .slice (some ⟨w1.heap.size + 1, 0, none⟩) 1 1, .slice (some ⟨w1.heap.size + 1 + 1, 0, none⟩) 1 1]) ?_ rfl ⟨_, _, _, _, _, rfl, ⟨?_, ?_, ?_, ?_⟩, ?_, hlow⟩
   ·exact qz5 Try.results19 _ _ (w.heap.size + 1) 0 rfl [.int .i64 0, .slice (some ⟨g, 0, none⟩) k cap, .slice (some ⟨w1.heap.size, 0, none⟩) uN uN, .slice (some ⟨w1.heap.size + 1, 0, none⟩) 1 1, .slice (some ⟨w1.heap.size + 1 + 1, 0, none⟩) 1 1] _ (World.rangeAt_setCells_same _ _ _ _ R2) Try.underlying38 rfl qz2q
   ·exact qz14.of (by simp [qz2g]) (by rw [qzj]; omega) (World.rangeAt_setCells_apart gr (w.heap.size + 1) 0 [.int .i64 0, .slice (some ⟨g, 0, none⟩) k cap, .slice (some ⟨w1.heap.size, 0, none⟩) uN uN, .slice (some ⟨w1.heap.size + 1, 0, none⟩) 1 1, .slice (some ⟨w1.heap.size + 1 + 1, 0, none⟩) 1 1] (Or.inl (by omega)))
   ·exact qz14.of (by simp [qz2g]) (by rw [qzj]; omega) (World.rangeAt_setCells_apart M0 (w.heap.size + 1) 0 [.int .i64 0, .slice (some ⟨g, 0, none⟩) k cap, .slice (some ⟨w1.heap.size, 0, none⟩) uN uN, .slice (some ⟨w1.heap.size + 1, 0, none⟩) 1 1, .slice (some ⟨w1.heap.size + 1 + 1, 0, none⟩) 1 1] (Or.inl (by omega)))
   ·exact qz14.of (rfl) (by rw [qzj]; omega) (World.rangeAt_setCells_apart M1 (w.heap.size + 1) 0 [.int .i64 0, .slice (some ⟨g, 0, none⟩) k cap, .slice (some ⟨w1.heap.size, 0, none⟩) uN uN, .slice (some ⟨w1.heap.size + 1, 0, none⟩) 1 1, .slice (some ⟨w1.heap.size + 1 + 1, 0, none⟩) 1 1] (Or.inl (by omega)))
   ·exact qz14.of (rfl) (by rw [qzj]; omega) (World.rangeAt_setCells_apart M2 (w.heap.size + 1) 0 [.int .i64 0, .slice (some ⟨g, 0, none⟩) k cap, .slice (some ⟨w1.heap.size, 0, none⟩) uN uN, .slice (some ⟨w1.heap.size + 1, 0, none⟩) 1 1, .slice (some ⟨w1.heap.size + 1 + 1, 0, none⟩) 1 1] (Or.inl (by omega)))
   ·exact Below.setCells (by omega) _ _ _ (bb1.trans (bW.mono (by omega)))
end
section
def qz5c : Value -> Option Nat
 | .pointer (some p) => some p.block
 | .slice (some p) _ _ => some p.block
 | _ => none
def qz3p (ops : Array Oper) (i : Nat) : Option Tmp := (ops[i]?).bind (·.dst)
def laid (ops : Array Oper) (vs : Nat -> Value) (listed : Array Bool) : List Nat -> Act -> Act
 | [], a => a
 | i :: l, a => laid ops vs listed l (if listed.getD i false then a.put (qz3p ops i) (vs i) else a)
def upd (vs : Nat -> Value) (i : Nat) (v : Value) : Nat -> Value := fun j => if j = i then v else vs j
def Lone (ops : Array Oper) : Prop := ∀ i j d, i ≠ j -> qz3p ops i = some d -> qz3p ops j ≠ some d
def qzcs (ops : Array Oper) : Bool := (List.range ops.size).all fun i => (List.range ops.size).all fun j => (i == j) || match qz3p ops i, qz3p ops j with | some d, some e => d != e | _, _ => true
theorem qz97 {ops : Array Oper} (h : qzcs ops = true) : Lone ops := by
 intro i j d hij hi hj
 have hi' : i < ops.size := by
  rcases Nat.lt_or_ge i ops.size with h | h
  ·exact h
  ·simp [qz3p, Array.getElem?_eq_none h] at hi
 have hj' : j < ops.size := by
  rcases Nat.lt_or_ge j ops.size with h | h
  ·exact h
  ·simp [qz3p, Array.getElem?_eq_none h] at hj
 have h1 := (List.all_eq_true.1 h) i (List.mem_range.2 hi')
 have h2 := (List.all_eq_true.1 h1) j (List.mem_range.2 hj')
 rw [hi, hj] at h2
 simp [hij] at h2
def Back (ops : Array Oper) : Prop := ∀ (i : Nat) (o : Oper), ops[i]? = some o -> ∀ e ∈ o.after, e.on < i
def qzdh (ops : Array Oper) : Bool := (List.range ops.size).all fun i => match ops[i]? with | some o => o.after.all fun e => decide (e.on < i) | none => true
theorem qzc6 {ops : Array Oper} (h : qzdh ops = true) : Back ops := by
 intro i o ho e he
 have hi' : i < ops.size := by
  rcases Nat.lt_or_ge i ops.size with h | h
  ·exact h
  ·rw [Array.getElem?_eq_none h] at ho; cases ho
 have h1 := (List.all_eq_true.1 h) i (List.mem_range.2 hi')
 simp only [ho] at h1
 exact of_decide_eq_true (Array.all_eq_true_iff_forall_mem.1 h1 e he)
def qz9r (ops : Array Oper) (t : Nat) : Bool := (List.range ops.size).all fun k => qz3p ops k != some t
theorem qz73 {ops : Array Oper} {t : Nat} (h : qz9r ops t = true) (k : Nat) : qz3p ops k ≠ some t := by
 intro hk
 have hi' : k < ops.size := by
  rcases Nat.lt_or_ge k ops.size with h | h
  ·exact h
  ·simp [qz3p, Array.getElem?_eq_none h] at hk
 have := (List.all_eq_true.1 h) k (List.mem_range.2 hi')
 simp [hk] at this
def dstB (ops : Array Oper) (n : Nat) : Bool := (List.range ops.size).all fun i => match qz3p ops i with | some d => decide (d < n) | none => true
theorem qzbw {ops : Array Oper} {n : Nat} (h : dstB ops n = true) (k d : Nat) (hk : qz3p ops k = some d) : d < n := by
 have hi' : k < ops.size := by
  rcases Nat.lt_or_ge k ops.size with h | h
  ·exact h
  ·simp [qz3p, Array.getElem?_eq_none h] at hk
 have := (List.all_eq_true.1 h) k (List.mem_range.2 hi')
 rw [hk] at this
 exact of_decide_eq_true this
theorem qz4z {ops : Array Oper} (L : Lone ops) (vs : Nat -> Value) (listed : Array Bool) (i : Nat) (v : Value) : ∀ (l : List Nat) (a : Act), i ∉ l ->
  laid ops (upd vs i v) (listed.setIfInBounds i true) l (a.put (qz3p ops i) v) = (laid ops vs listed l a).put (qz3p ops i) v
 | [], a, _ => rfl
 | j :: l, a, h => by
  have hji : j ≠ i := fun e => h (by simp [e])
  have hl : i ∉ l := fun e => h (by simp [e])
  simp only [laid]
  rw [getD_set_ne false (Ne.symm hji)]
  have hu : upd vs i v j = vs j := by simp [upd, hji]
  rw [hu]
  split
  ·rw [Act.put_comm a v (vs j) (fun d h1 h2 => L i j d (Ne.symm hji) h1 h2)]
   exact qz4z L vs listed i v l _ hl
  ·exact qz4z L vs listed i v l _ hl
theorem qz5g {ops : Array Oper} (L : Lone ops) (vs : Nat -> Value) (listed : Array Bool) (i : Nat) (v : Value) (hi : i < listed.size) (hf : listed.getD i false = false) : ∀ (l : List Nat) (a : Act), l.Nodup -> i ∈ l ->
  (laid ops vs listed l a).put (qz3p ops i) v = laid ops (upd vs i v) (listed.setIfInBounds i true) l a
 | [], a, _, h => by cases h
 | j :: l, a, hn, h => by
  have hn' := List.nodup_cons.1 hn
  simp only [laid]
  by_cases hji : j = i
  ·subst hji
   rw [hf]
   have ht : (listed.setIfInBounds j true).getD j false = true := by simp [hi]
   have hu : upd vs j v j = v := by simp [upd]
   rw [ht, hu]
   simp only [if_true, Bool.false_eq_true, if_false]
   exact (qz4z L vs listed j v l a hn'.1).symm
  ·have hl : i ∈ l := by rcases List.mem_cons.1 h with h | h; exact absurd h.symm hji; exact h
   have hu : upd vs i v j = vs j := by simp [upd, hji]
   rw [getD_set_ne false (Ne.symm hji), hu]
   exact qz5g L vs listed i v hi hf l _ hn'.2 hl
theorem qzat (a : Act) (x : Option Tmp) (v : Value) : (a.put x v).tmps.size = a.tmps.size := by cases x <;> simp [Act.put]
theorem qz82 (a : Act) (x : Option Tmp) (v : Value) (d : Nat) (h : x ≠ some d) : (a.put x v).tmps.getD d undef = a.tmps.getD d undef := by
 cases x with
 | none => rfl
 | some e =>
  have : e ≠ d := fun h' => h (by rw [h'])
  simp [Act.put, Array.getElem?_setIfInBounds_ne this]
theorem qzb4 (a : Act) (v : Value) (d : Nat) (h : d < a.tmps.size) : (a.put (some d) v).tmps.getD d undef = v := by
 simp [Act.put, h]
theorem qz3f (ops : Array Oper) (vs : Nat -> Value) (listed : Array Bool) (d : Nat) : ∀ (l : List Nat) (a : Act), (∀ k ∈ l, qz3p ops k ≠ some d) -> (laid ops vs listed l a).tmps.getD d undef = a.tmps.getD d undef
 | [], a, _ => rfl
 | i :: l, a, h => by
  simp only [laid]
  rw [qz3f ops vs listed d l _ (fun k hk => h k (by simp [hk]))]
  split
  ·exact qz82 _ _ _ _ (h i (by simp))
  ·rfl
theorem qz5f {ops : Array Oper} (L : Lone ops) (vs : Nat -> Value) (listed : Array Bool) (j d : Nat) (hd : qz3p ops j = some d) (hj : listed.getD j false = true) : ∀ (l : List Nat) (a : Act), l.Nodup -> j ∈ l -> d < a.tmps.size -> (laid ops vs listed l a).tmps.getD d undef = vs j
 | [], a, _, h, _ => by cases h
 | i :: l, a, hn, h, hs => by
  have hn' := List.nodup_cons.1 hn
  simp only [laid]
  by_cases hij : i = j
  ·subst hij
   rw [qz3f ops vs listed d l _ (fun k hk h' => L i k d (fun e => hn'.1 (by rw [e]; exact hk)) hd h'), hj, hd]
   exact qzb4 _ _ _ hs
  ·have hl : j ∈ l := by rcases List.mem_cons.1 h with h | h; exact absurd h.symm hij; exact h
   exact qz5f L vs listed j d hd hj l _ hn'.2 hl (by split; rw [qzat]; exact hs; exact hs)
def qz5i (listed : Array Bool) : Nat := listed.toList.count false
theorem qz4h {listed : Array Bool} {i : Nat} (hi : i < listed.size) (h : listed.getD i false = false) : qz5i (listed.setIfInBounds i true) + 1 = qz5i listed := by
 have h' : listed.toList[i]'(by simpa using hi) = false := by simpa [hi] using h
 have hp : 0 < listed.toList.count false := List.count_pos_iff.2 (by rw [<- h']; exact List.getElem_mem _)
 have e := List.count_set (a := true) (b := false) (l := listed.toList) (i := i) (by simpa using hi)
 rw [h'] at e
 have e1 : (if (false == false) = true then 1 else 0) = 1 := rfl
 have e2 : (if (true == false) = true then 1 else 0) = 0 := rfl
 rw [e1, e2] at e
 unfold qz5i
 rw [Array.toList_setIfInBounds, e]
 omega
theorem qzz {P : Program} {op : Oper} {a : Act} {w : World} {K : Act -> World -> Prop} {Q : Exit -> Act -> World -> Prop} (ty : TypeId) (x : Operand) (ho : op.op = .load ty x)
  (b o : Nat) (hx : a.eval x = .pointer (some ⟨b, o, none⟩)) (cs : List Value) (d : TypeDesc) (hc : w.rangeAt b o cs)
  (hu : P.underlying ty = some d) (hd : d.isRow = true) (hi : (P.info? ty).map (·.size) = some cs.length)
  (h : K (a.put op.dst (.agg cs.toArray)) w) : op.wp P a w K Q := wp_load_mid ty x ho b o hx cs d hc hu hd hi h
theorem qz2i {P : Program} {op : Oper} {a : Act} {w : World} {K : Act -> World -> Prop} {Q : Exit -> Act -> World -> Prop} {f : FuncId} {args : Array Value} {R : Value -> World -> Prop}
  (he : (execOp a.eval op).run P w = .ok (.enter f args) w) (hc : Calls P f args w fun e w' => ∃ v, e = .returned v /\ R v w') (h : ∀ v w', R v w' -> K (a.put op.dst v) w') : op.wp P a w K Q := by
 unfold Oper.wp
 rw [he]
 simp only [Oper.upon]
 refine hc.mono ?_
 rintro e w' ⟨v, rfl, hR⟩
 exact h v w' hR
theorem qz2 {P : Program} {op : Oper} {a : Act} {w w' : World} {v : Value} {K : Act -> World -> Prop} {Q : Exit -> Act -> World -> Prop}
  (he : (execOp a.eval op).run P w = .ok (.value v) w') (h : K (a.put op.dst v) w') : op.wp P a w K Q := by
 unfold Oper.wp
 rw [he]
 exact h
end
section
theorem qz2e {P : Program} {ops : Array Oper} {Q : Exit -> Act -> World -> Prop} {l : List Oper} {a : Act} (w : World) (h : Hid (wpList P ops Q l a w)) : wpList P ops Q l a w := h
section
variable {P : Program} {ops : Array Oper} {md : Region.Mode} {C : World -> Prop}
def qzav (md : Region.Mode) (ops : Array Oper) : Nat -> Nat -> Nat -> Bool
 | 0, _, _ => false
 | f + 1, j, i => match ops[j]? with
  | some o => o.after.any fun e => Region.binds md e && (e.on == i || qzav md ops f e.on i)
  | none => false
def qz87 (md : Region.Mode) (ops : Array Oper) (k : Nat) : Bool := (List.range ops.size).all fun j => decide (j < k) || (List.range k).all fun i => qzav md ops ops.size j i
def qzd3 (md : Region.Mode) (ops : Array Oper) : Nat -> Nat -> Array Bool -> Bool
 | 0, _, _ => true
 | f + 1, k, listed => (Region.ready md ops listed).contains k && Region.free md ops listed k && qzd3 md ops f (k + 1) (listed.setIfInBounds k true)
def qz3q : Nat -> Nat -> Array Bool -> Array Bool
 | 0, _, l => l
 | f + 1, k, l => qz3q f (k + 1) (l.setIfInBounds k true)
def qz4g (md : Region.Mode) (ops : Array Oper) : Nat -> Nat -> Array Bool -> Bool
 | 0, _, listed => (Region.ready md ops listed).isEmpty
 | f + 1, k, listed => (Region.ready md ops listed == [k]) && qz4g md ops f (k + 1) (listed.setIfInBounds k true)
def qzbc (md : Region.Mode) (ops : Array Oper) (k m : Nat) : Bool :=
 (ops.size == k + m) && Region.noSelect ops && qzd3 md ops k 0 (Array.replicate ops.size false) && qz87 md ops k && qz4g md ops m k (qz3q k 0 (Array.replicate ops.size false))
theorem qz2r : ∀ (f k : Nat) (l : Array Bool), (qz3q f k l).size = l.size
 | 0, _, _ => rfl
 | f + 1, k, l => by rw [qz3q, qz2r f (k + 1)]; simp
theorem qz39 : ∀ (f k : Nat) (l : Array Bool) (i : Nat), i < l.size -> (qz3q f k l).getD i false = if k <= i /\ i < k + f then true else l.getD i false
 | 0, k, l, i, h => by rw [if_neg (by omega)]; rfl
 | f + 1, k, l, i, h => by
  rw [qz3q, qz39 f (k + 1) _ i (by simpa using h)]
  by_cases e : k = i
  ·subst e
   rw [if_neg (by omega), if_pos (by omega)]
   simp [h]
  ·rw [getD_set_ne false e]
   by_cases c : k + 1 <= i /\ i < k + 1 + f
   ·rw [if_pos c, if_pos (by omega)]
   ·rw [if_neg c, if_neg (by omega)]
def qz4t (md : Region.Mode) (ops : Array Oper) (listed : Array Bool) : Prop := ∀ j o, ops[j]? = some o -> listed.getD j false = true -> ∀ e ∈ o.after, Region.binds md e = true -> listed.getD e.on false = true
theorem qz4t.set {listed : Array Bool} (hc : qz4t md ops listed) {j : Nat} (hj : j ∈ Region.ready md ops listed) : qz4t md ops (listed.setIfInBounds j true) := by
 intro i o ho hi e he hb
 by_cases hij : j = i
 ·subst hij
  obtain ⟨_, o', ho', hall⟩ := mem_ready.1 hj
  rw [ho] at ho'
  cases ho'
  exact getD_set_true (hall e he hb)
 ·rw [getD_set_ne false hij] at hi
  exact getD_set_true (hc i o ho hi e he hb)
theorem qz50 {listed : Array Bool} (hc : qz4t md ops listed) : ∀ (f j i : Nat), qzav md ops f j i = true -> (∀ o, ops[j]? = some o -> ∀ e ∈ o.after, Region.binds md e = true -> listed.getD e.on false = true) -> listed.getD i false = true
 | 0, j, i, h, _ => by cases h
 | f + 1, j, i, h, hall => by
  unfold qzav at h
  cases ho : ops[j]? with
  | none => rw [ho] at h; cases h
  | some o =>
   rw [ho] at h
   obtain ⟨e, he, hb⟩ := Array.any_eq_true'.1 h
   simp only [Bool.and_eq_true, Bool.or_eq_true, beq_iff_eq] at hb
   have h1 := hall o ho e he hb.1
   rcases hb.2 with h2 | h2
   ·rw [<- h2]; exact h1
   ·exact qz50 hc f e.on i h2 (fun o' ho' => hc e.on o' ho' h1)
theorem qz3m {k : Nat} {listed : Array Bool} (hw : qz87 md ops k = true) (hc : qz4t md ops listed) {i j : Nat} (hi : i < k) (hu : listed.getD i true = false) (hj : j ∈ Region.ready md ops listed) : j < k := by
 rcases Nat.lt_or_ge j k with h | h
 ·exact h
 ·obtain ⟨_, o, ho, hall⟩ := mem_ready.1 hj
  have hjs : j < ops.size := (Array.getElem?_eq_some_iff.1 ho).1
  have h1 := (List.all_eq_true.1 hw) j (List.mem_range.2 hjs)
  simp only [Bool.or_eq_true, decide_eq_true_eq] at h1
  rcases h1 with h1 | h1
  ·exact h1
  ·have h2 := (List.all_eq_true.1 h1) i (List.mem_range.2 hi)
   have h3 := qz50 hc _ j i h2 (fun o' ho' => by rw [ho] at ho'; cases ho'; exact hall)
   rcases Nat.lt_or_ge i listed.size with h' | h'
   ·simp [h'] at hu h3; rw [hu] at h3; cases h3
   ·simp [Array.getElem?_eq_none h'] at hu
def qzal (P : Program) (md : Region.Mode) (ops : Array Oper) (C : World -> Prop) (k : Nat) (Q : Act -> Prop) : Nat -> Array Bool -> Act -> Prop
 | 0, listed, a => (∀ i, i < k -> listed.getD i true = true) /\ Q a
 | f + 1, listed, a => (∃ i, i < k /\ i ∈ Region.ready md ops listed) /\ ∀ i ∈ Region.ready md ops listed, qOp P ops C i (qzal P md ops C k Q f (listed.setIfInBounds i true)) a
theorem qz8d {k : Nat} {Q : Act -> Prop} {i : Nat} {oi : Oper} {v : Value} (hw : qz87 md ops k = true) (hik : i < k) (hi : ops[i]? = some oi) (hsel : ∀ (j : Nat) (o : Oper) cs b, ops[j]? = some o -> o.op ≠ .select cs b) :
  ∀ (f : Nat) (listed : Array Bool) (a : Act), qz4t md ops listed ->
   (∀ j oj, ops[j]? = some oj -> j ≠ i -> listed.getD j true = false -> (∀ e ∈ oj.after, Region.binds md e = true -> e.on ≠ i) -> oi.apart ops oj = true) ->
   i ∈ Region.ready md ops listed -> YieldsIn P ops C oi v a ->
   qzal P md ops C k Q f (listed.setIfInBounds i true) (a.put oi.dst v) -> qzal P md ops C k Q (f + 1) listed a := by
 intro f
 induction f with
 | zero =>
  intro listed a hc _ hr hy H
  refine ⟨⟨i, hik, hr⟩, fun j hj => ?_⟩
  by_cases hji : j = i
  ·subst hji; exact hy.qOp hi H
  ·have hjk := qz3m hw hc hik (mem_ready.1 hr).1 hj
   have h1 := H.1 j hjk
   rw [getD_set_ne true (Ne.symm hji), (mem_ready.1 hj).1] at h1
   cases h1
 | succ f ih =>
  intro listed a hc hfree hr hy H
  refine ⟨⟨i, hik, hr⟩, fun j hj => ?_⟩
  by_cases hji : j = i
  ·subst hji; exact hy.qOp hi H
  ·have h1 := H.2 j (ready_mono hj hji)
   obtain ⟨hjun, oj, hoj, hall⟩ := mem_ready.1 hj
   have hnot : ∀ e ∈ oj.after, Region.binds md e = true -> e.on ≠ i := fun e he hb heq => by
    have h1 := hall e he hb
    have h0 := (mem_ready.1 hr).1
    rw [heq] at h1
    rcases Nat.lt_or_ge i listed.size with h' | h'
    ·simp [h'] at h0 h1; rw [h0] at h1; cases h1
    ·simp [Array.getElem?_eq_none h'] at h1
   have h2 := qOp_put hoj (hfree j oj hoj hji hjun hnot) (fun cs b => hsel i oi cs b hi) (fun cs b => hsel j oj cs b hoj) hy h1
   have hfree' : ∀ k ok, ops[k]? = some ok -> k ≠ i -> (listed.setIfInBounds j true).getD k true = false ->
     (∀ e ∈ ok.after, Region.binds md e = true -> e.on ≠ i) -> oi.apart ops ok = true := fun k ok hk hki hun hno => by
    refine hfree k ok hk hki ?_ hno
    by_cases hjk : j = k
    ·subst hjk; exact hjun
    ·rw [getD_set_ne true hjk] at hun; exact hun
   refine qOp_mono (fun a' h3 => ih (listed.setIfInBounds j true) a' (hc.set hj) hfree' (ready_mono hr (Ne.symm hji)) h3.1 ?_) h2
   rw [Array.setIfInBounds_comm _ _ hji]
   exact h3.2
theorem qz55 {k : Nat} {Q : Act -> Prop} (hw : qz87 md ops k = true) (hs : Region.noSelect ops = true) : ∀ (l : List Oper) (n : Nat) (listed : Array Bool) (a : Act), n + l.length = k -> (∀ j, j < l.length -> l[j]? = ops[n + j]?) -> qz4t md ops listed -> (∀ i, i < n -> listed.getD i true = true) -> k <= listed.size ->
  qzd3 md ops l.length n listed = true -> wpQuiet P ops C Q l a -> qzal P md ops C k Q l.length listed a
 | [], n, listed, _, hn, _, _, hall, _, _, h => ⟨fun i hi => hall i (by simp at hn; omega), h⟩
 | o :: l, n, listed, a, hn, hl, hc, hall, hsz, hB, h => by
  have h0 : ops[n]? = some o := by simpa using (hl 0 (by simp)).symm
  simp only [List.length_cons, qzd3, Bool.and_eq_true] at hB
  obtain ⟨⟨hr, hf⟩, hB'⟩ := hB
  have hr' : n ∈ Region.ready md ops listed := by simpa using hr
  have hst : qOp P ops C n (wpQuiet P ops C Q l) a := by unfold qOp; simp only [h0]; exact h
  obtain ⟨v, hy, hK⟩ := yieldsIn_of_qOp h0 hst
  simp only [List.length_cons] at hn
  refine qz8d hw (by omega) h0 (Region.noSelect_spec hs) l.length listed a hc (Region.free_spec h0 hf) hr' hy ?_
  refine qz55 hw hs l (n + 1) _ _ (by omega) (fun j hj => by have := hl (j + 1) (by simp; omega); simpa [Nat.add_assoc, Nat.add_comm 1 j] using this) (hc.set hr') (fun i hi => ?_) (by simpa using hsz) hB' hK
  by_cases e : n = i
  ·subst e
   have : n < listed.size := by omega
   simp [this]
  ·rw [getD_set_ne true e]
   exact hall i (by omega)
theorem qz5a {k m : Nat} {Q : Act -> Prop} {Q' : Exit -> Act -> World -> Prop} (hw : qz87 md ops k = true) (hkm : ops.size = k + m)
  (hQ : ∀ a w, C w -> Q a -> wpAny P md ops Q' m (qz3q k 0 (Array.replicate ops.size false)) a w) : ∀ (f : Nat) (listed : Array Bool) (a : Act) (w : World), C w -> qz4t md ops listed -> listed.size = ops.size -> (∀ j, k <= j -> listed.getD j false = false) ->
  qzal P md ops C k Q f listed a -> wpAny P md ops Q' (f + m) listed a w
 | 0, listed, a, w, hC, _, hsz, htail, h => by
  have e : listed = qz3q k 0 (Array.replicate ops.size false) := by
   apply Array.ext
   ·rw [qz2r, hsz]; simp
   ·intro i h1 h2
    have g := qz39 k 0 (Array.replicate ops.size false) i (by simp; omega)
    have g1 : (qz3q k 0 (Array.replicate ops.size false))[i] = (qz3q k 0 (Array.replicate ops.size false)).getD i false := by simp [h2]
    have g2 : listed[i] = listed.getD i false := by simp [h1]
    rw [g1, g2, g]
    by_cases c : i < k
    ·rw [if_pos (by omega)]
     have := h.1 i c
     simpa [h1] using this
    ·have hio : i < ops.size := by omega
     rw [if_neg (by omega), htail i (by omega)]
     simp [hio]
  rw [e, Nat.zero_add]
  exact hQ a w hC h.2
 | f + 1, listed, a, w, hC, hc, hsz, htail, h => by
  obtain ⟨⟨i0, hi0, hr0⟩, hall⟩ := h
  rw [show f + 1 + m = (f + m) + 1 by omega]
  refine ⟨fun h0 => (by rw [h0] at hr0; cases hr0), fun i hi => ?_⟩
  have hik := qz3m hw hc hi0 (mem_ready.1 hr0).1 hi
  refine wpOp_of_qOp hC (fun a' w' hC' hT => qz5a hw hkm hQ f _ a' w' hC' (hc.set hi) (by simpa using hsz) (fun j hj => ?_) hT) (hall i hi)
  rw [getD_set_ne false (by omega)]
  exact htail j hj
theorem qz5q {Q : Exit -> Act -> World -> Prop} : ∀ (l : List Oper) (n : Nat) (listed : Array Bool) (a : Act) (w : World), (∀ j, l[j]? = ops[n + j]?) -> qz4g md ops l.length n listed = true -> wpList P ops Q l a w -> wpAny P md ops Q l.length listed a w
 | [], _, listed, a, w, _, hB, h => ⟨by simpa [qz4g] using hB, h⟩
 | o :: l, n, listed, a, w, hl, hB, h => by
  have h0 : ops[n]? = some o := by simpa using (hl 0).symm
  simp only [List.length_cons, qz4g, Bool.and_eq_true] at hB
  obtain ⟨hr, hB'⟩ := hB
  have hr' : Region.ready md ops listed = [n] := by simpa using hr
  have ih := fun a w => qz5q (Q := Q) l (n + 1) (listed.setIfInBounds n true) a w (fun j => by have := hl (j + 1); simpa [Nat.add_assoc, Nat.add_comm 1 j] using this) hB'
  refine wpAny_all hr' (by simp) (fun i hi => ?_)
  obtain rfl := List.mem_singleton.1 hi
  unfold wpOp
  unfold wpList at h
  simp only [h0]
  split
  ·rename_i hwd
   rw [if_pos hwd] at h
   rcases h with h | h
   ·exact .inl (Oper.wp_mono ih h)
   ·exact .inr h
  ·rename_i hwd
   rw [if_neg hwd] at h
   exact ih _ _ h
theorem qz3i {id : Nat} {Q : Exit -> Act -> World -> Prop} {a : Act} {w : World} {l : List Oper} (k : Nat) (hm : P.follows .mixedOrders = true) (hB : qzbc .any l.toArray k (l.length - k) = true)
  (h : wpQuiet P l.toArray (fun w' => ∃ n, w' = w.drewN n) (fun a' => ∀ w', (∃ n, w' = w.drewN n) -> wpList P l.toArray Q (l.drop k) a' w') (l.take k) a) : (Code.region id l.toArray true).wp P Q a w := by
 simp only [qzbc, Bool.and_eq_true, beq_iff_eq] at hB
 obtain ⟨⟨⟨⟨hkm, hs⟩, hlex⟩, hw⟩, hseq⟩ := hB
 have hkl : k <= l.length := by simp at hkm; omega
 have hsz : l.toArray.size = l.length := by simp
 refine wp_region_any hm ?_
 have hc0 : qz4t .any l.toArray (Array.replicate l.toArray.size false) := by
  intro j o ho hj
  exfalso
  rcases Nat.lt_or_ge j l.toArray.size with h' | h'
  ·simp at h'; simp [h'] at hj
  ·simp at h'; simp [h'] at hj
 have hT := qz55 (P := P) (md := .any) (C := fun w' => ∃ n, w' = w.drewN n) (Q := fun a' => ∀ w', (∃ n, w' = w.drewN n) -> wpList P l.toArray Q (l.drop k) a' w') hw hs (l.take k) 0 (Array.replicate l.toArray.size false) a (by simp; omega) (fun j hj => by simp at hj; simp [hj]) hc0 (fun i hi => by omega) (by simp; omega) (by simpa [Nat.min_eq_left hkl] using hlex) h
 have hfin := qz5a (P := P) (md := .any) (Q' := Q) hw hkm (fun a' w' hC hq => by
  have := qz5q (P := P) (md := .any) (Q := Q) (l.drop k) k (qz3q k 0 (Array.replicate l.toArray.size false)) a' w' (fun j => by simp) (by simpa using hseq) (hq w' hC)
  simpa using this) (l.take k).length (Array.replicate l.toArray.size false) a { w with drawn := w.drawn + 1 } ⟨1, rfl⟩ hc0 (by simp) (fun j _ => by
   rcases Nat.lt_or_ge j l.toArray.size with h' | h'
   ·simp at h'; simp [h']
   ·simp at h'; simp [h']) hT
 rw [show (l.take k).length + (l.length - k) = l.toArray.size by simp; omega] at hfin
 exact hfin
theorem qz3v {Q : Act -> Prop} {a : Act} {o : Oper} {rest : List Oper} (hw : Region.wanted o (yielded ops a.tmps) = true) (ty : TypeId) (x : Operand) (ho : o.op = .load ty x)
  (b f : Nat) (hx : a.eval x = .pointer (some ⟨b, f, none⟩)) (cs : List Value) (d : TypeDesc) (hc : ∀ w, C w -> w.rangeAt b f cs)
  (hu : P.underlying ty = some d) (hd : d.isRow = true) (hi : (P.info? ty).map (·.size) = some cs.length)
  (h : wpQuiet P ops C Q rest (a.put o.dst (.agg cs.toArray))) : wpQuiet P ops C Q (o :: rest) a := by
 refine wpQuiet_step fun K hK => ?_
 rw [if_pos hw]
 refine ⟨.agg cs.toArray, fun w hw => ?_, hK _ h⟩
 unfold Oper.quietAt execOp
 simp only [ho, hx, Instr.loadAt, Instr.sureAddr, Sem.run_bind, Sem.run_pure, Result.andThen_ok, run_loadVar_mid w b f ty cs d (hc w hw) hu hd hi]
 exact ⟨rfl, rfl⟩
theorem qz1m {Q : Act -> Prop} {a : Act} {o : Oper} {rest : List Oper} (hgd : o.guard = none) (ty : TypeId) (x : Operand) (ho : o.op = .load ty x)
  (b f : Nat) (hx : a.eval x = .pointer (some ⟨b, f, none⟩)) (cs : List Value) (d : TypeDesc) (hc : ∀ w, C w -> w.rangeAt b f cs)
  (hu : P.underlying ty = some d) (hd : d.isRow = true) (hi : (P.info? ty).map (·.size) = some cs.length)
  (h : wpQuiet P ops C Q rest (a.put o.dst (.agg cs.toArray))) : wpQuiet P ops C Q (o :: rest) a :=
 qz3v (by simp [Region.wanted, hgd]) ty x ho b f hx cs d hc hu hd hi h
end
end
section
theorem qz29 {P : Program} {ops : Array Oper} {md : Region.Mode} {Q : Exit -> Act -> World -> Prop} (c : Nat) : ∀ (l : List Oper) (n : Nat) (listed : Array Bool) (a : Act) (w : World), (∀ j, l[j]? = ops[n + j]?) -> qz4g md ops l.length n listed = true -> wpList P ops Q l a w -> wpAny P md ops Q (l.length + c) listed a w
 | [], _, listed, a, w, _, hB, h => by
  have h0 : Region.ready md ops listed = [] := by simpa [qz4g] using hB
  exact wpAny_done h0 h _
 | o :: l, n, listed, a, w, hl, hB, h => by
  have h0 : ops[n]? = some o := by simpa using (hl 0).symm
  simp only [List.length_cons, qz4g, Bool.and_eq_true] at hB
  obtain ⟨hr, hB'⟩ := hB
  have hr' : Region.ready md ops listed = [n] := by simpa using hr
  have ih := fun a w => qz29 (P := P) (Q := Q) c l (n + 1) (listed.setIfInBounds n true) a w (fun j => by have := hl (j + 1); simpa [Nat.add_assoc, Nat.add_comm 1 j] using this) hB'
  rw [show (o :: l).length + c = (l.length + c) + 1 by simp; omega]
  refine wpAny_all hr' (by simp) (fun i hi => ?_)
  obtain rfl := List.mem_singleton.1 hi
  unfold wpOp
  unfold wpList at h
  simp only [h0]
  split
  ·rename_i hwd
   rw [if_pos hwd] at h
   rcases h with h | h
   ·exact .inl (Oper.wp_mono ih h)
   ·exact .inr h
  ·rename_i hwd
   rw [if_neg hwd] at h
   exact ih _ _ h
theorem qz4d (a : Array Bool) (i : Nat) (h : i < a.size) : a[i] = a.getD i false := by simp [h]
theorem qz4p {listed : Array Bool} {k m i : Nat} (hs : listed.size = k + m) (ht : ∀ j, k <= j -> listed.getD j false = false) (hi : i < k) (hu : listed.getD i false = false) : m + 1 <= qz5i listed := by
 unfold qz5i
 rw [<- List.take_append_drop k listed.toList, List.count_append]
 have h1 : (listed.toList.drop k).count false = m := by
  rw [List.count_eq_length.2]
  ·simp [hs]
  ·intro b hb
   obtain ⟨j, hj, rfl⟩ := List.getElem_of_mem hb
   have h2 := ht (k + j) (by omega)
   simp at hj
   have h3 : k + j < listed.size := by omega
   simp [h3] at h2
   simp [h2]
 have h2 : 0 < (listed.toList.take k).count false := by
  apply List.count_pos_iff.2
  have h3 : i < listed.size := by omega
  have h4 : listed[i] = false := by simpa [h3] using hu
  rw [<- h4]
  apply List.mem_iff_getElem.2
  exact ⟨i, by simp; omega, by simp⟩
 omega
def qzcq (ops : Array Oper) (k m : Nat) : Bool := (ops.size == k + m) && qz87 .any ops k && qz4g .any ops m k (qz3q k 0 (Array.replicate ops.size false))
theorem qz2k {P : Program} {l : List Oper} {Q : Exit -> Act -> World -> Prop} {id : Nat} {a0 : Act} {w0 : World} (k : Nat) (hm : P.follows .mixedOrders = true)
  (G : Nat -> Value -> World -> Prop) (fresh : Nat -> Bool) (hT : qzcq l.toArray k (l.length - k) = true) (hL : qzcs l.toArray = true) (hBk : qzdh l.toArray = true) (hg : (l.take k).all (fun o => o.guard.isNone) = true)
  (hdst0 : dstB l.toArray a0.tmps.size = true)
  (mono : ∀ i v w w', w0.heap.size <= w.heap.size -> G i v w -> Below w.heap.size w w' -> G i v w')
  (blk : ∀ i v w b, fresh i = true -> G i v w -> qz5c v = some b -> b < w.heap.size)
  (step : ∀ (i : Nat) (o : Oper), i < k -> l[i]? = some o -> ∀ (a : Act) (w : World), Below w0.heap.size w0 w -> (∀ t, qz9r l.toArray t = true -> a.eval (.tmp t) = a0.tmps.getD t undef) ->
   (∀ e ∈ o.after, Region.binds .any e = true -> ∀ d, qz3p l.toArray e.on = some d -> G e.on (a.eval (.tmp d)) w) ->
   ∀ K : Act -> World -> Prop, (∀ v w', G i v w' -> Below w.heap.size w w' -> (fresh i = true -> ∀ b, qz5c v = some b -> w.heap.size <= b) -> K (a.put o.dst v) w') -> o.wp P a w K Q)
  (final : ∀ vs w', Below w0.heap.size w0 w' -> (∀ i, i < k -> G i (vs i) w') ->
   (∀ i j b, i < k -> j < k -> i ≠ j -> fresh i = true -> fresh j = true -> qz5c (vs i) = some b -> qz5c (vs j) ≠ some b) ->
   wpList P l.toArray Q (l.drop k) (laid l.toArray vs (qz3q k 0 (Array.replicate l.toArray.size false)) (List.range l.toArray.size) a0) w') :
  (Code.region id l.toArray true).wp P Q a0 w0 := by
 have hdst := qzbw hdst0
 have L := qz97 hL
 have hBack : ∀ i, i < k -> ∀ o, l.toArray[i]? = some o -> ∀ e ∈ o.after, e.on < i := fun i _ o ho => qzc6 hBk i o ho
 simp only [qzcq, Bool.and_eq_true, beq_iff_eq] at hT
 obtain ⟨⟨hkm, hw⟩, hseq⟩ := hT
 have hsl : l.toArray.size = l.length := by simp
 have hkl : k <= l.length := by omega
 refine wp_region_any hm ?_
 have key : ∀ (c : Nat) (listed : Array Bool) (vs : Nat -> Value) (w : World), qz5i listed <= c + (l.length - k) -> listed.size = l.toArray.size -> qz4t .any l.toArray listed -> (∀ j, k <= j -> listed.getD j false = false) -> Below w0.heap.size w0 w ->
   (∀ i, i < l.toArray.size -> listed.getD i false = true -> G i (vs i) w) ->
   (∀ i j b, i < l.toArray.size -> j < l.toArray.size -> i ≠ j -> listed.getD i false = true -> listed.getD j false = true -> fresh i = true -> fresh j = true -> qz5c (vs i) = some b -> qz5c (vs j) ≠ some b) ->
   wpAny P .any l.toArray Q (c + (l.length - k)) listed (laid l.toArray vs listed (List.range l.toArray.size) a0) w := by
  intro c
  induction c with
  | zero =>
   intro listed vs w hf hs hc htail hb hG hD
   by_cases hall : ∀ i, i < k -> listed.getD i false = true
   ·have he : listed = qz3q k 0 (Array.replicate l.toArray.size false) := by
     apply Array.ext
     ·rw [qz2r, hs]; simp
     ·intro i h1 h2
      have g := qz39 k 0 (Array.replicate l.toArray.size false) i (by simp; omega)
      have g1 : (qz3q k 0 (Array.replicate l.toArray.size false))[i] = (qz3q k 0 (Array.replicate l.toArray.size false)).getD i false := qz4d _ _ h2
      have g2 : listed[i] = listed.getD i false := by simp [h1]
      rw [g1, g2, g]
      by_cases c : i < k
      ·rw [if_pos (by omega), hall i c]
      ·have hio : i < l.length := by omega
       rw [if_neg (by omega), htail i (by omega)]
       simp [hio]
    have hfin := final vs w hb (fun i hi => hG i (by omega) (hall i hi)) (fun i j b hi hj hij => hD i j b (by omega) (by omega) hij (hall i hi) (hall j hj))
    rw [<- he] at hfin
    have := qz29 (P := P) (md := .any) (Q := Q) 0 (l.drop k) k listed _ w (fun j => by simp) (by rw [he]; simpa using hseq) hfin
    simpa using this
   ·exfalso
    simp only [Classical.not_forall] at hall
    obtain ⟨i, hi, hu⟩ := hall
    have := qz4p (m := l.length - k) (by omega) htail hi (by simpa using hu)
    omega
  | succ c ih =>
   intro listed vs w hf hs hc htail hb hG hD
   by_cases hall : ∀ i, i < k -> listed.getD i false = true
   ·have he : listed = qz3q k 0 (Array.replicate l.toArray.size false) := by
     apply Array.ext
     ·rw [qz2r, hs]; simp
     ·intro i h1 h2
      have g := qz39 k 0 (Array.replicate l.toArray.size false) i (by simp; omega)
      have g1 : (qz3q k 0 (Array.replicate l.toArray.size false))[i] = (qz3q k 0 (Array.replicate l.toArray.size false)).getD i false := qz4d _ _ h2
      have g2 : listed[i] = listed.getD i false := by simp [h1]
      rw [g1, g2, g]
      by_cases c : i < k
      ·rw [if_pos (by omega), hall i c]
      ·have hio : i < l.length := by omega
       rw [if_neg (by omega), htail i (by omega)]
       simp [hio]
    have hfin := final vs w hb (fun i hi => hG i (by omega) (hall i hi)) (fun i j b hi hj hij => hD i j b (by omega) (by omega) hij (hall i hi) (hall j hj))
    rw [<- he] at hfin
    have := qz29 (P := P) (md := .any) (Q := Q) (c + 1) (l.drop k) k listed _ w (fun j => by simp) (by rw [he]; simpa using hseq) hfin
    rw [show c + 1 + (l.length - k) = (l.drop k).length + (c + 1) by simp; omega]
    exact this
   simp only [Classical.not_forall] at hall
   obtain ⟨i1, hi1, hu1⟩ := hall
   have hu1' : listed.getD i1 false = false := by simpa using hu1
   have hu1'' : listed.getD i1 true = false := by
    have : i1 < listed.size := by omega
    simpa [this] using hu1'
   have hex : ∃ i, i < k /\ i ∈ Region.ready .any l.toArray listed := by
    apply Classical.byContradiction
    intro hno
    have : ∀ n i, i < n -> i < k -> listed.getD i false = true := by
     intro n
     induction n with
     | zero => intro i hi; omega
     | succ n ihn =>
      intro i hi hik
      rcases Nat.lt_or_ge i n with h | h
      ·exact ihn i h hik
      ·have hin : i = n := by omega
       subst hin
       cases hq : listed.getD i false with
       | true => rfl
       | false =>
        exfalso
        apply hno
        refine ⟨i, hik, mem_ready.2 ⟨?_, ?_⟩⟩
        ·have : i < listed.size := by omega
         simpa [this] using hq
        ·have hil : i < l.toArray.size := by omega
         refine ⟨l.toArray[i], by simp, fun e he hbd => ?_⟩
         exact ihn e.on (hBack i hik _ (by simp) e he) (Nat.lt_trans (hBack i hik _ (by simp) e he) hik)
    have h9 := this (i1 + 1) i1 (by omega) hi1
    rw [hu1'] at h9
    cases h9
   rw [show c + 1 + (l.length - k) = (c + (l.length - k)) + 1 by omega]
   obtain ⟨i0, hi0, hr0⟩ := hex
   refine ⟨fun h0 => (by rw [h0] at hr0; cases hr0), ?_⟩
   intro i hi
   have hik := qz3m hw hc hi1 hu1'' hi
   obtain ⟨h0, o, ho, hall⟩ := mem_ready.1 hi
   have hi' : i < l.toArray.size := (Array.getElem?_eq_some_iff.1 ho).1
   have hlt : i < listed.size := by omega
   have h1 : listed.getD i false = false := by simpa [hlt] using h0
   have ho' : l[i]? = some o := by simpa using ho
   have hguard : o.guard = none := by
    have := (List.all_eq_true.1 hg) o (List.mem_of_getElem? (i := i) (by rw [List.getElem?_take]; simp [hik, ho']))
    simpa using this
   have hnd : (List.range l.toArray.size).Nodup := List.nodup_range
   have hlt' : ∀ e ∈ o.after, Region.binds .any e = true -> ∀ d, qz3p l.toArray e.on = some d -> e.on < l.toArray.size /\ listed.getD e.on false = true /\ (laid l.toArray vs listed (List.range l.toArray.size) a0).eval (.tmp d) = vs e.on := by
    intro e he hbd d hd
    have hel := hall e he hbd
    have hes : e.on < l.toArray.size := by
     rcases Nat.lt_or_ge e.on l.toArray.size with h | h
     ·exact h
     ·simp only [qz3p, Array.getElem?_eq_none h] at hd
      cases hd
    exact ⟨hes, hel, qz5f L vs listed e.on d hd hel _ _ hnd (List.mem_range.2 hes) (hdst _ _ hd)⟩
   have hstep := step i o hik ho' (laid l.toArray vs listed (List.range l.toArray.size) a0) w hb
    (fun t ht => qz3f l.toArray vs listed t _ _ (fun k _ => qz73 ht k))
    (fun e he hbd d hd => by
     obtain ⟨h2, h3, h4⟩ := hlt' e he hbd d hd
     rw [h4]
     exact hG e.on h2 h3)
   have hwn : Region.wanted o (yielded l.toArray (laid l.toArray vs listed (List.range l.toArray.size) a0).tmps) = true := by simp [Region.wanted, hguard]
   unfold wpOp
   simp only [ho, hwn, if_true]
   refine Or.inl (hstep _ ?_)
   intro v w' hGi hb' hfr
   have hd' : o.dst = qz3p l.toArray i := by simp only [qz3p, ho, Option.bind_some]
   rw [hd', qz5g L vs listed i v hlt h1 _ _ hnd (List.mem_range.2 hi')]
   have hsz := hb.size
   refine ih _ _ _ (by have := qz4h hlt h1; omega) (by simpa using hs) (hc.set hi) (fun j hj => by rw [getD_set_ne false (by omega)]; exact htail j hj) (hb.trans (hb'.mono hsz)) ?_ ?_
   ·intro j hj hjl
    by_cases hji : j = i
    ·subst hji
     simp only [upd, if_true]
     exact hGi
    ·rw [getD_set_ne false (Ne.symm hji)] at hjl
     simp only [upd, hji, if_false]
     exact mono j _ w w' hsz (hG j hj hjl) hb'
   ·intro j k b hj hk hjk hjl hkl hfj hfk hbj hbk
    by_cases hji : j = i
    ·subst hji
     have hkj : k ≠ j := Ne.symm hjk
     rw [getD_set_ne false hjk] at hkl
     simp only [upd, if_true] at hbj
     simp only [upd, hkj, if_false] at hbk
     have h2 := hfr hfj b hbj
     have h3 := blk k _ w b hfk (hG k hk hkl) hbk
     omega
    ·rw [getD_set_ne false (Ne.symm hji)] at hjl
     simp only [upd, hji, if_false] at hbj
     by_cases hki : k = i
     ·subst hki
      simp only [upd, if_true] at hbk
      have h2 := hfr hfk b hbk
      have h3 := blk j _ w b hfj (hG j hj hjl) hbj
      omega
     ·rw [getD_set_ne false (Ne.symm hki)] at hkl
      simp only [upd, hki, if_false] at hbk
      exact hD j k b hj hk hjk hjl hkl hfj hfk hbj hbk
 have hgf : ∀ i, (Array.replicate l.toArray.size false).getD i false = false := by
  intro i
  rcases Nat.lt_or_ge i l.toArray.size with h | h
  ·simp at h; simp [h]
  ·simp at h; simp [h]
 have h0 : laid l.toArray (fun _ => undef) (Array.replicate l.toArray.size false) (List.range l.toArray.size) a0 = a0 := by
  have : ∀ (q : List Nat) (a : Act), laid l.toArray (fun _ => undef) (Array.replicate l.toArray.size false) q a = a := by
   intro q
   induction q with
   | nil => intro a; rfl
   | cons i q ih =>
    intro a
    simp only [laid]
    rw [hgf i]
    simpa using ih a
  exact this _ _
 have hk := key k (Array.replicate l.toArray.size false) (fun _ => undef) { w0 with drawn := w0.drawn + 1 } (by unfold qz5i; simp; omega) (by simp) (fun j o _ hj => by rw [hgf j] at hj; cases hj) (fun j _ => hgf j) ⟨rfl, rfl, rfl, Nat.le_refl _, fun _ _ => rfl⟩ (fun i hi h => by rw [hgf i] at h; cases h) (fun i j b hi hj hij h => by rw [hgf i] at h; cases h)
 rw [h0, show k + (l.length - k) = l.toArray.size by simp; omega] at hk
 exact hk
end
end Go.Proofs.Ytclkglkhhnapiaa
