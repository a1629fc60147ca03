/-
  What the law's proof goes by, part 44.
-/
import Derived.Test.YthjkdnlmopafkaaGreatDoorFnSwappedCard00
import Derived.Test.YthjkdnlmopafkaaGreatDoorFnSwappedCard04
import Derived.Test.YthjkdnlmopafkaaGreatDoorFnSwappedCard42
namespace Go.Proofs.YthjkdnlmopafkaaGreatDoor
open Go.ChangeShapes Go.WideShapes Go.ChangeAt Go.RowKit
set_option maxRecDepth 100000
set_option maxHeartbeats 16000000
set_option linter.unusedVariables false
set_option linter.unusedSimpArgs false
set_option linter.unnecessarySimpa false
set_option linter.unusedSectionVars false
section
attribute [local go_sem ↓] Go.wp_at_zero Go.wp_at_succ
theorem qzbt (bb off : Nat) (x : Nd) (h : Bool) (w : World) (R : w.rangeAt bb off (ndC x)) :
  Calls Tryz.prog 123 #[.pointer (some ⟨bb, off, none⟩), .bool h] w fun e w' => e = .returned (.bool (if h then (x.key == -1) && (x.value == 0) else inB x.key 0 63 && inB x.value 0 9999)) /\ w' = w := by
 have f0 : w.cell? ⟨bb, off, none⟩ = some (.int .i64 x.key) := R 0 _ rfl
 have f1 : w.cell? ⟨bb, off + 1, none⟩ = some (.int .i64 x.value) := R 1 _ rfl
 clear R
 cases h
 ·cases e1 : inB x.key 0 63
  ·go_enter Tryz.func123, Tryz.ntmps123
   go_wp2_with (first | (go_at_call 67; refine (qz6d _ _).mono ?_; rintro e w' ⟨rfl, hw⟩; obtain rfl := hw.symm) | (go_at_call 71; refine (qz1b _ _ _ _).mono ?_; rintro e w' ⟨rfl, hw⟩; obtain rfl := hw.symm))
   go_ret
   exact ⟨rfl, rfl⟩
  ·go_enter Tryz.func123, Tryz.ntmps123
   go_wp2_with (first | (go_at_call 67; refine (qz6d _ _).mono ?_; rintro e w' ⟨rfl, hw⟩; obtain rfl := hw.symm) | (go_at_call 71; refine (qz1b _ _ _ _).mono ?_; rintro e w' ⟨rfl, hw⟩; obtain rfl := hw.symm))
   go_ret
   exact ⟨rfl, rfl⟩
 ·cases e1 : (x.key == -1)
  ·go_enter Tryz.func123, Tryz.ntmps123
   go_wp2
   go_ret
   exact ⟨rfl, rfl⟩
  ·go_enter Tryz.func123, Tryz.ntmps123
   go_wp2
   go_ret
   exact ⟨rfl, rfl⟩
def verR (nn cam : Int) (i : Int) (v : Vr) : Bool :=
 inB v.next (-1) (nn - 1) && (v.next != 0) && inB v.stamp (-1) cam && inB v.prev (-1) (i - 1) && inB v.kind 0 2
theorem qzf7 (nn : Nat) (cam : Int) (i : Nat) (v : Vr) : verR nn cam i v = verB nn cam i v := by
 have h : (inB v.next (-1) ((nn : Int) - 1) && (v.next != 0)) = ((v.next == -1) || inB v.next 1 ((nn : Int) - 1)) := by
  rw [Bool.eq_iff_iff]
  simp only [Bool.and_eq_true, Bool.or_eq_true, qz13, bne_iff_ne, beq_iff_eq]
  omega
 simp only [verR, verB, h]
theorem qz72 (bb off : Nat) (x : Vr) (i cam : Int) (nn : Nat) (w : World) (hn : nn <= 1048576) (hi0 : 0 <= i) (hi1 : i <= 1048576) (R : w.rangeAt bb off (vrC x)) :
  Calls Tryz.prog 75 #[.pointer (some ⟨bb, off, none⟩), .int .i64 i, .int .i64 cam, .int .i64 nn] w fun e w' => e = .returned (.bool (verR nn cam i x)) /\ w' = w := by
 have f0 : w.cell? ⟨bb, off, none⟩ = some (.int .i64 x.next) := R 0 _ rfl
 have f2 : w.cell? ⟨bb, off + 2, none⟩ = some (.int .i64 x.stamp) := R 2 _ rfl
 have f3 : w.cell? ⟨bb, off + 3, none⟩ = some (.int .i64 x.prev) := R 3 _ rfl
 have f4 : w.cell? ⟨bb, off + 4, none⟩ = some (.int .i64 x.kind) := R 4 _ rfl
 clear R
 cases e1 : inB x.next (-1) ((nn : Int) - 1)
 ·have hv : verR nn cam i x = false := by simp [verR, e1]
  go_enter Tryz.func75, Tryz.ntmps75
  go_wp2_with (go_at_call 71; refine (qz1b _ _ _ _).mono ?_; rintro e w' ⟨rfl, hw⟩; obtain rfl := hw.symm)
  go_ret
  exact ⟨by rw [hv]; rfl, rfl⟩
 cases e2 : (x.next != 0)
 ·have hv : verR nn cam i x = false := by simp [verR, e2]
  go_enter Tryz.func75, Tryz.ntmps75
  go_wp2_with (go_at_call 71; refine (qz1b _ _ _ _).mono ?_; rintro e w' ⟨rfl, hw⟩; obtain rfl := hw.symm)
  go_ret
  exact ⟨by rw [hv]; rfl, rfl⟩
 cases e3 : inB x.stamp (-1) cam
 ·have hv : verR nn cam i x = false := by simp [verR, e3]
  go_enter Tryz.func75, Tryz.ntmps75
  go_wp2_with (go_at_call 71; refine (qz1b _ _ _ _).mono ?_; rintro e w' ⟨rfl, hw⟩; obtain rfl := hw.symm)
  go_ret
  exact ⟨by rw [hv]; rfl, rfl⟩
 cases e4 : inB x.prev (-1) (i - 1)
 ·have hv : verR nn cam i x = false := by simp [verR, e4]
  go_enter Tryz.func75, Tryz.ntmps75
  go_wp2_with (go_at_call 71; refine (qz1b _ _ _ _).mono ?_; rintro e w' ⟨rfl, hw⟩; obtain rfl := hw.symm)
  go_ret
  exact ⟨by rw [hv]; rfl, rfl⟩
 ·have hv : verR nn cam i x = inB x.kind 0 2 := by simp [verR, e1, e2, e3, e4]
  go_enter Tryz.func75, Tryz.ntmps75
  go_wp2_with (go_at_call 71; refine (qz1b _ _ _ _).mono ?_; rintro e w' ⟨rfl, hw⟩; obtain rfl := hw.symm)
  go_ret
  exact ⟨by rw [hv]; rfl, rfl⟩
theorem qz90 (B : Nat) (v : Value) (l : List Int) (w : World) (hB : B <= Q6o) (hl : l.length <= 1048576) (S : qzu B w v l.length (qz8 intC l)) :
  Calls Tryz.prog 83 #[v] w fun e w' => e = .returned (.bool (qz2l (fun _ v => inB v (-1) 100) l)) /\ Below Q6o w w' := by
 obtain ⟨a, cap, rfl, hS⟩ := S
 go_enter Tryz.func83, Tryz.ntmps83
 go_wp2
 go_loopw [7] (fun i wr => ∃ k : Nat, k <= l.length /\ i = .int .i64 k /\ Hid (∀ j (h : j < l.length), j < k -> inB l[j] (-1) 100 = true) /\ Below Q6o w wr) (fun i _ => l.length - (intOf i).toNat)
 case atStart => exact ⟨0, Nat.zero_le _, rfl, fun _ _ h => absurd h (by omega), Q6s _ _⟩
 case round =>
  obtain ⟨k, hk, rfl, hall, bel⟩ := hrel
  by_cases hlt : k < l.length
  ·rcases hS with h0 | ⟨bb, off, rfl, hbb, R0⟩
   ·omega
   ·have hc : wr.cell? ⟨bb, off + k, none⟩ = some (.int .i64 l[k]) := (qz0 R0 (bel.mono hB) hbb) k (.int .i64 l[k]) (by have := qzy (f := intC) (sz := 1) (fun _ => rfl) l k hlt 0 (by omega); simpa [intC] using this)
    clear R0
    cases hq : inB l[k] (-1) 100
    ·have hv : qz2l (fun _ v => inB v (-1) 100) l = false := qz3t (f := (fun _ v => inB v (-1) 100)) hlt hq
     go_wp2_with (go_at_call 71; refine (qz1b _ _ _ _).mono ?_; rintro e w' ⟨rfl, hw⟩; obtain rfl := hw.symm)
     go_ret
     exact ⟨by rw [hv]; rfl, bel⟩
    ·have hall' : Hid (∀ j (h : j < l.length), j < k + 1 -> inB l[j] (-1) 100 = true) := fun j h hj => by rcases Nat.lt_or_ge j k with hl | hl; exact hall.out j h hl; obtain rfl : j = k := (by omega); exact hq
     go_wp2_with (go_at_call 71; refine (qz1b _ _ _ _).mono ?_; rintro e w' ⟨rfl, hw⟩; obtain rfl := hw.symm)
     go_roundw
     case rel => exact ⟨k + 1, by omega, by go_num, hall', bel⟩
     case measure => simp [intOf]; omega
  ·have hv : qz2l (fun _ v => inB v (-1) 100) l = true := (qz1k (fun _ v => inB v (-1) 100) l).2 (fun i h => hall.out i h (by omega))
   go_wp2
   go_ret
   exact ⟨by rw [hv]; rfl, bel⟩
theorem qz7d (B : Nat) (v : Value) (l : List Int) (nn : Nat) (w : World) (hB : B <= Q6o) (hl : l.length <= 1048576) (hn : nn <= 1048576) (S : qzu B w v l.length (qz8 intC l)) :
  Calls Tryz.prog 84 #[v, .int .i64 nn] w fun e w' => e = .returned (.bool (qz2l (fun _ v => inB v 0 ((nn : Int) - 1)) l)) /\ Below Q6o w w' := by
 obtain ⟨a, cap, rfl, hS⟩ := S
 go_enter Tryz.func84, Tryz.ntmps84
 go_wp2
 go_loopw [9] (fun i wr => ∃ k : Nat, k <= l.length /\ i = .int .i64 k /\ Hid (∀ j (h : j < l.length), j < k -> inB l[j] 0 ((nn : Int) - 1) = true) /\ Below Q6o w wr) (fun i _ => l.length - (intOf i).toNat)
 case atStart => exact ⟨0, Nat.zero_le _, rfl, fun _ _ h => absurd h (by omega), Q6s _ _⟩
 case round =>
  obtain ⟨k, hk, rfl, hall, bel⟩ := hrel
  by_cases hlt : k < l.length
  ·rcases hS with h0 | ⟨bb, off, rfl, hbb, R0⟩
   ·omega
   ·have hc : wr.cell? ⟨bb, off + k, none⟩ = some (.int .i64 l[k]) := (qz0 R0 (bel.mono hB) hbb) k (.int .i64 l[k]) (by have := qzy (f := intC) (sz := 1) (fun _ => rfl) l k hlt 0 (by omega); simpa [intC] using this)
    clear R0
    cases hq : inB l[k] 0 ((nn : Int) - 1)
    ·have hv : qz2l (fun _ v => inB v 0 ((nn : Int) - 1)) l = false := qz3t (f := (fun _ v => inB v 0 ((nn : Int) - 1))) hlt hq
     go_wp2_with (go_at_call 71; refine (qz1b _ _ _ _).mono ?_; rintro e w' ⟨rfl, hw⟩; obtain rfl := hw.symm)
     go_ret
     exact ⟨by rw [hv]; rfl, bel⟩
    ·have hall' : Hid (∀ j (h : j < l.length), j < k + 1 -> inB l[j] 0 ((nn : Int) - 1) = true) := fun j h hj => by rcases Nat.lt_or_ge j k with hl | hl; exact hall.out j h hl; obtain rfl : j = k := (by omega); exact hq
     go_wp2_with (go_at_call 71; refine (qz1b _ _ _ _).mono ?_; rintro e w' ⟨rfl, hw⟩; obtain rfl := hw.symm)
     go_roundw
     case rel => exact ⟨k + 1, by omega, by go_num, hall', bel⟩
     case measure => simp [intOf]; omega
  ·have hv : qz2l (fun _ v => inB v 0 ((nn : Int) - 1)) l = true := (qz1k (fun _ v => inB v 0 ((nn : Int) - 1)) l).2 (fun i h => hall.out i h (by omega))
   go_wp2
   go_ret
   exact ⟨by rw [hv]; rfl, bel⟩
theorem qz8a (B : Nat) (A : Ar) (a0 a1 a2 a3 : Option Addr) (c0 c1 c2 c3 : Nat) (w : World) (hB : B <= Q6o) (hA : A.size <= 1048576) (I : qz1j B w Q0x Q0w Q0t Q11 A) :
  Calls Tryz.prog 85 #[.agg Q02] w fun e w' => e = .returned (.bool (qz2l (qz46 Q6r) A.nodes)) /\ Below Q6o w w' := by
 unfold Ar.size at hA
 have X0 : World.rangeAt Q35 Q6o 0 Q0j := qz6 w Q0j 30
 have K0 := (Q6s Q6o w).alloc (Q6v _) (.cells Q02 30)
 have hz0 : Q6o < (Q35).heap.size := by simp
 have I0 := I.below (K0.mono hB)
 clear I
 obtain ⟨x0, x1, x2, x3, x4⟩ := row5 X0
 go_enter Tryz.func85, Tryz.ntmps85
 go_wp2
 clear x0 x1 x2 x3 x4
 generalize w.alloc (.cells Q02 30) = w1 at X0 K0 hz0 I0 ⊢
 go_loopw [8] (fun i wr => ∃ k : Nat, k <= Q6q /\ i = .int .i64 k /\ Hid (∀ j (h : j < Q6q), j < k -> qz46 Q6r j A.nodes[j] = true) /\ Below Q6y w1 wr) (fun i _ => Q6q - (intOf i).toNat)
 case atStart => exact ⟨0, Nat.zero_le _, rfl, fun _ _ h => absurd h (by omega), Q6s _ _⟩
 case round =>
  obtain ⟨k, hk, rfl, hall, bel⟩ := hrel
  obtain ⟨x0, x1, x2, x3, x4⟩ := row5 (qz0 X0 bel hz0)
  have KK := K0.trans (bel.mono (show Q6o <= Q6y by omega))
  by_cases hlt : k < Q6q
  ·obtain ⟨bb, off, rfl, hbb, R⟩ := qzu.at I0.n (by omega)
   have E := qzi (sz := 3) (fun _ => rfl) (qz0 R (bel.mono (by omega)) hbb) k hlt
   have f2 : wr.cell? ⟨bb, off + k * 3 + 2, none⟩ = some (.int .i64 A.nodes[k].head) := E 2 _ rfl
   clear R
   have hlt' : (k : Int) < (Q6q : Int) := by omega
   have hk0 : (0 : Int) <= (k : Int) := by omega
   obtain ⟨nm, hnm⟩ : ∃ nm : Bool, nm = (if ((k : Int) == 0) then (A.nodes[k].key == -1) && (A.nodes[k].value == 0) else inB A.nodes[k].key 0 63 && inB A.nodes[k].value 0 9999) := ⟨_, rfl⟩
   have hnd : qz46 Q6r k A.nodes[k] = (inB A.nodes[k].head 0 ((Q6r : Int) - 1) && nm) := by
    rw [hnm]
    unfold qz46
    by_cases h0 : k = 0
    ·subst h0; simp [Bool.and_comm]
    ·have : ((k : Int) == 0) = false := by simp; omega
     rw [this, if_neg h0]; simp [Bool.and_comm]
   have hN : ∀ W : World, W.rangeAt bb (off + k * 3) (ndC A.nodes[k]) -> Calls Tryz.prog 123 #[.pointer (some ⟨bb, off + k * 3, none⟩), .bool ((k : Int) == 0)] W fun e w' => e = .returned (.bool nm) /\ w' = W := by
    intro W hW
    rw [hnm]
    exact qzbt bb (off + k * 3) A.nodes[k] _ W hW
   clear hnm
   cases e1 : inB A.nodes[k].head 0 ((Q6r : Int) - 1)
   ·have hq : qz46 A.vers.length k A.nodes[k] = false := by rw [hnd, e1]; rfl
    have hv : qz2l (qz46 Q6r) A.nodes = false := qz3t (f := qz46 Q6r) hlt hq
    clear hq hnd hN
    go_wp2
    go_quiet (first | (go_at_call 71; exact Calls.quiet_of_same (qz1b _ _ _ _)) | (go_at_call 123; exact Calls.quiet_of_same (qzbt bb (off + k * 3) A.nodes[k] _ _ E)))
    go_wp2
    go_ret
    exact ⟨by rw [hv]; rfl, qz41 KK _⟩
   ·cases nm
    ·have hq : qz46 A.vers.length k A.nodes[k] = false := by rw [hnd, e1]; rfl
     have hv : qz2l (qz46 Q6r) A.nodes = false := qz3t (f := qz46 Q6r) hlt hq
     clear hq hnd
     go_wp2
     go_quiet (first | (go_at_call 71; exact Calls.quiet_of_same (qz1b _ _ _ _)) | (go_at_call 123; exact Calls.quiet_of_same (hN _ E)))
     go_wp2
     go_ret
     exact ⟨by rw [hv]; rfl, qz41 KK _⟩
    ·have hq : qz46 A.vers.length k A.nodes[k] = true := by rw [hnd, e1]; rfl
     have hall' : Hid (∀ j (h : j < Q6q), j < k + 1 -> qz46 Q6r j A.nodes[j] = true) := fun j h hj => by rcases Nat.lt_or_ge j k with hl | hl; exact hall.out j h hl; obtain rfl : j = k := (by omega); exact hq
     clear hq hnd
     go_wp2
     go_quiet (first | (go_at_call 71; exact Calls.quiet_of_same (qz1b _ _ _ _)) | (go_at_call 123; exact Calls.quiet_of_same (hN _ E)))
     go_wp2
     go_roundw
     case rel => exact ⟨k + 1, by omega, by go_num, hall', qz41 bel _⟩
     case measure => simp [intOf]; omega
  ·have hv : qz2l (qz46 Q6r) A.nodes = true := (qz1k (qz46 Q6r) A.nodes).2 (fun i h => hall.out i h (by omega))
   go_wp2
   go_ret
   exact ⟨by rw [hv]; rfl, KK⟩
theorem qz9x (B : Nat) (A : Ar) (a0 a1 a2 a3 : Option Addr) (c0 c1 c2 c3 : Nat) (w : World) (hB : B <= Q6o) (hA : A.size <= 1048576) (I : qz1j B w Q0x Q0w Q0t Q11 A) :
  Calls Tryz.prog 86 #[.agg Q02] w fun e w' => e = .returned (.bool (qz2l (verB Q6q Q6w) A.vers)) /\ Below Q6o w w' := by
 unfold Ar.size at hA
 have X0 : World.rangeAt Q35 Q6o 0 Q0j := qz6 w Q0j 30
 have K0 := (Q6s Q6o w).alloc (Q6v _) (.cells Q02 30)
 have hz0 : Q6o < (Q35).heap.size := by simp
 have I0 := I.below (K0.mono hB)
 clear I
 obtain ⟨x0, x1, x2, x3, x4⟩ := row5 X0
 go_enter Tryz.func86, Tryz.ntmps86
 go_wp2
 clear x0 x1 x2 x3 x4
 generalize w.alloc (.cells Q02 30) = w1 at X0 K0 hz0 I0 ⊢
 go_loopw [7] (fun i wr => ∃ k : Nat, k <= Q6r /\ i = .int .i64 k /\ Hid (∀ j (h : j < Q6r), j < k -> verB Q6q Q6w j A.vers[j] = true) /\ Below Q6y w1 wr) (fun i _ => Q6r - (intOf i).toNat)
 case atStart => exact ⟨0, Nat.zero_le _, rfl, fun _ _ h => absurd h (by omega), Q6s _ _⟩
 case round =>
  obtain ⟨k, hk, rfl, hall, bel⟩ := hrel
  obtain ⟨x0, x1, x2, x3, x4⟩ := row5 (qz0 X0 bel hz0)
  have KK := K0.trans (bel.mono (show Q6o <= Q6y by omega))
  by_cases hlt : k < Q6r
  ·obtain ⟨bb, off, rfl, hbb, R⟩ := qzu.at I0.r (by omega)
   have E := qzi (sz := 5) (fun _ => rfl) (qz0 R (bel.mono (by omega)) hbb) k hlt
   clear R
   have hlt' : (k : Int) < (Q6r : Int) := by omega
   have hk0 : (0 : Int) <= (k : Int) := by omega
   have hN : ∀ W : World, W.rangeAt bb (off + k * 5) (vrC A.vers[k]) -> Calls Tryz.prog 75 #[.pointer (some ⟨bb, off + k * 5, none⟩), .int .i64 k, .int .i64 Q6w, .int .i64 Q6q] W fun e w' => e = .returned (.bool (verB Q6q Q6w k A.vers[k])) /\ w' = W := by
    intro W hW
    rw [<- qzf7]
    exact qz72 bb (off + k * 5) A.vers[k] k Q6w Q6q W (by omega) (by omega) (by omega) hW
   cases hq : verB Q6q Q6w k A.vers[k]
   ·have hv : qz2l (verB Q6q Q6w) A.vers = false := qz3t (f := verB Q6q Q6w) hlt hq
    rw [hq] at hN
    clear hq
    go_wp2
    go_quiet ((go_at_call 75; exact Calls.quiet_of_same (hN _ E)))
    go_wp2
    go_ret
    exact ⟨by rw [hv]; rfl, qz41 KK _⟩
   ·have hall' : Hid (∀ j (h : j < Q6r), j < k + 1 -> verB Q6q Q6w j A.vers[j] = true) := fun j h hj => by rcases Nat.lt_or_ge j k with hl | hl; exact hall.out j h hl; obtain rfl : j = k := (by omega); exact hq
    rw [hq] at hN
    clear hq
    go_wp2
    go_quiet ((go_at_call 75; exact Calls.quiet_of_same (hN _ E)))
    go_wp2
    go_roundw
    case rel => exact ⟨k + 1, by omega, by go_num, hall', qz41 bel _⟩
    case measure => simp [intOf]; omega
  ·have hv : qz2l (verB Q6q Q6w) A.vers = true := (qz1k (verB Q6q Q6w) A.vers).2 (fun i h => hall.out i h (by omega))
   go_wp2
   go_ret
   exact ⟨by rw [hv]; rfl, KK⟩
def qz6a (x y z u : Int) (l0 l1 l2 l3 : Nat) : Bool := ((l0 : Int) == x) && ((l1 : Int) == u) && inB l2 1 y && inB l3 1 z
theorem qze7 (x y z u cam : Int) (a0 a1 a2 a3 : Option Addr) (l0 l1 l2 l3 c0 c1 c2 c3 : Nat) (w : World) (hA : l0 + l1 + l2 + l3 <= 1048576) :
  Calls Tryz.prog 82 #[.agg Q06, .agg #[.int .i64 cam, .slice a0 l0 c0, .slice a1 l1 c1, .slice a2 l2 c2, .slice a3 l3 c3]] w fun e w' => e = .returned (.bool (qz6a x y z u l0 l1 l2 l3)) /\ Below Q6o w w' := by
 have KK := ((Q6s Q6o w).alloc (Q6v _) (.cells Q06 25)).alloc (by simp) (.cells #[.int .i64 cam, .slice a0 l0 c0, .slice a1 l1 c1, .slice a2 l2 c2, .slice a3 l3 c3] 30)
 cases e1 : ((l0 : Int) == x)
 ·have hv : qz6a x y z u l0 l1 l2 l3 = false := by simp [qz6a, e1]
  go_enter Tryz.func82, Tryz.ntmps82
  go_wp2_with (go_at_call 71; refine (qz1b _ _ _ _).mono ?_; rintro e w' ⟨rfl, hw⟩; obtain rfl := hw.symm)
  go_ret
  exact ⟨by rw [hv]; rfl, KK⟩
 cases e2 : ((l1 : Int) == u)
 ·have hv : qz6a x y z u l0 l1 l2 l3 = false := by simp [qz6a, e2]
  go_enter Tryz.func82, Tryz.ntmps82
  go_wp2_with (go_at_call 71; refine (qz1b _ _ _ _).mono ?_; rintro e w' ⟨rfl, hw⟩; obtain rfl := hw.symm)
  go_ret
  exact ⟨by rw [hv]; rfl, KK⟩
 cases e3 : inB l2 1 y
 ·have hv : qz6a x y z u l0 l1 l2 l3 = false := by simp [qz6a, e3]
  go_enter Tryz.func82, Tryz.ntmps82
  go_wp2_with (go_at_call 71; refine (qz1b _ _ _ _).mono ?_; rintro e w' ⟨rfl, hw⟩; obtain rfl := hw.symm)
  go_ret
  exact ⟨by rw [hv]; rfl, KK⟩
 ·have hv : qz6a x y z u l0 l1 l2 l3 = inB l3 1 z := by simp [qz6a, e1, e2, e3]
  go_enter Tryz.func82, Tryz.ntmps82
  go_wp2_with (go_at_call 71; refine (qz1b _ _ _ _).mono ?_; rintro e w' ⟨rfl, hw⟩; obtain rfl := hw.symm)
  go_ret
  exact ⟨by rw [hv]; rfl, KK⟩
theorem qz39 (x y z u : Int) (A : Ar) : qz10 x y z u A = (qz3w x y z u && (qz6a x y z u Q74 Q75 Q6q Q6r && (inB Q6w 0 100 && (qz2l (fun _ v => inB v (-1) 100) A.slots && (qz2l (fun _ v => inB v 0 ((Q6q : Int) - 1)) A.guides && (qz2l (qz46 Q6r) A.nodes && qz2l (verB Q6q Q6w) A.vers)))))) := by
 unfold qz10 qz6r qz6a
 cases qz3w x y z u <;> cases inB A.camera 0 100 <;> simp [Bool.and_assoc]
theorem qz7w (B : Nat) (A : Ar) (x y z u : Int) (a0 a1 a2 a3 : Option Addr) (c0 c1 c2 c3 : Nat) (w : World) (hB : B <= Q6o) (hA : A.size <= 1048576) (I : qz1j B w Q0x Q0w Q0t Q11 A) :
  Calls Tryz.prog 41 #[.agg Q06, .agg Q02] w fun e w' => e = .returned (.bool (qz10 x y z u A)) /\ Below Q6o w w' := by
 have hA' := hA
 unfold Ar.size at hA
 have P0 := (qz1q w x y z u 25).below ((Q6s _ _).alloc (Q6v _) (.cells Q02 30)) (by simp)
 have X0 : World.rangeAt Q1s (Q6o + 1) 0 Q0j := by
  have h := qz6 Q44 Q0j 30
  simp only [World.size_alloc] at h
  exact h
 have K0 := ((Q6s Q6o w).alloc (Q6v _) (.cells Q06 25)).alloc (by simp) (.cells Q02 30)
 have hz0 : Q6o + 1 < (Q1s).heap.size := by simp
 have I0 := I.below (K0.mono hB)
 clear I
 go_enter Tryz.func41, Tryz.ntmps41
 go_wp2_with fail
 refine (qz6h _ _ _ _ _).mono ?_
 rintro e w1 ⟨rfl, b1⟩
 have P1 := P0.below b1 (by omega)
 have X1 := qz0 X0 b1 hz0
 have K1 := K0.trans (b1.mono (by omega))
 have I1 := I0.below (b1.mono (by omega))
 have hz1 := Q72 hz0 b1.size
 clear P0 X0 K0 I0 b1
 have P1' := P1
 obtain ⟨p0, p1, p2, p3⟩ := P1'
 obtain ⟨x0, x1, x2, x3, x4⟩ := row5 X1
 cases h1 : qz3w x y z u
 ·have hv : qz10 x y z u A = false := by simp only [qz39, h1, Bool.false_and]
  go_wp2_with fail
  go_ret
  exact ⟨by rw [hv]; rfl, K1⟩
 go_wp2_with fail
 clear p0 p1 p2 p3 x0 x1 x2 x3 x4
 refine (qze7 _ _ _ _ _ _ _ _ _ _ _ _ _ _ _ _ _ _ hA).mono ?_
 rintro e w2 ⟨rfl, b2⟩
 have P2 := P1.below b2 (by omega)
 have X2 := qz0 X1 b2 hz1
 have K2 := K1.trans (b2.mono (by omega))
 have I2 := I1.below (b2.mono (by omega))
 have hz2 := Q72 hz1 b2.size
 clear P1 X1 K1 I1 b2
 have P2' := P2
 obtain ⟨p0, p1, p2, p3⟩ := P2'
 obtain ⟨x0, x1, x2, x3, x4⟩ := row5 X2
 cases h2 : qz6a x y z u Q74 Q75 Q6q Q6r
 ·have hv : qz10 x y z u A = false := by simp only [qz39, h2, Bool.and_false, Bool.false_and]
  go_wp2_with fail
  go_ret
  exact ⟨by rw [hv]; rfl, K2⟩
 cases h25 : inB Q6w 0 100
 ·have hv : qz10 x y z u A = false := by simp only [qz39, h25, Bool.and_false, Bool.false_and]
  go_wp2_with (go_at_call 71; refine (qz1b _ _ _ _).mono ?_; rintro e w' ⟨rfl, hw⟩; obtain rfl := hw.symm)
  go_ret
  exact ⟨by rw [hv]; rfl, K2⟩
 go_wp2_with (go_at_call 71; refine (qz1b _ _ _ _).mono ?_; rintro e w' ⟨rfl, hw⟩; obtain rfl := hw.symm)
 clear p0 p1 p2 p3 x0 x1 x2 x3 x4
 refine (qz90 B _ A.slots _ (by omega) (by omega) I2.s).mono ?_
 rintro e w3 ⟨rfl, b3⟩
 have P3 := P2.below b3 (by omega)
 have X3 := qz0 X2 b3 hz2
 have K3 := K2.trans (b3.mono (by omega))
 have I3 := I2.below (b3.mono (by omega))
 have hz3 := Q72 hz2 b3.size
 clear P2 X2 K2 I2 b3
 have P3' := P3
 obtain ⟨p0, p1, p2, p3⟩ := P3'
 obtain ⟨x0, x1, x2, x3, x4⟩ := row5 X3
 cases h3 : qz2l (fun _ v => inB v (-1) 100) A.slots
 ·have hv : qz10 x y z u A = false := by simp only [qz39, h3, Bool.and_false, Bool.false_and]
  go_wp2_with fail
  go_ret
  exact ⟨by rw [hv]; rfl, K3⟩
 go_wp2_with fail
 clear p0 p1 p2 p3 x0 x1 x2 x3 x4
 refine (qz7d B _ A.guides Q6q _ (by omega) (by omega) (by omega) I3.g).mono ?_
 rintro e w4 ⟨rfl, b4⟩
 have P4 := P3.below b4 (by omega)
 have X4 := qz0 X3 b4 hz3
 have K4 := K3.trans (b4.mono (by omega))
 have I4 := I3.below (b4.mono (by omega))
 have hz4 := Q72 hz3 b4.size
 clear P3 X3 K3 I3 b4
 have P4' := P4
 obtain ⟨p0, p1, p2, p3⟩ := P4'
 obtain ⟨x0, x1, x2, x3, x4⟩ := row5 X4
 cases h4 : qz2l (fun _ v => inB v 0 ((Q6q : Int) - 1)) A.guides
 ·have hv : qz10 x y z u A = false := by simp only [qz39, h4, Bool.and_false, Bool.false_and]
  go_wp2_with fail
  go_ret
  exact ⟨by rw [hv]; rfl, K4⟩
 go_wp2_with fail
 clear p0 p1 p2 p3 x0 x1 x2 x3 x4
 refine (qz8a B A _ _ _ _ _ _ _ _ _ (by omega) hA' I4).mono ?_
 rintro e w5 ⟨rfl, b5⟩
 have P5 := P4.below b5 (by omega)
 have X5 := qz0 X4 b5 hz4
 have K5 := K4.trans (b5.mono (by omega))
 have I5 := I4.below (b5.mono (by omega))
 have hz5 := Q72 hz4 b5.size
 clear P4 X4 K4 I4 b5
 have P5' := P5
 obtain ⟨p0, p1, p2, p3⟩ := P5'
 obtain ⟨x0, x1, x2, x3, x4⟩ := row5 X5
 cases h5 : qz2l (qz46 Q6r) A.nodes
 ·have hv : qz10 x y z u A = false := by simp only [qz39, h5, Bool.and_false, Bool.false_and]
  go_wp2_with fail
  go_ret
  exact ⟨by rw [hv]; rfl, K5⟩
 go_wp2_with fail
 clear p0 p1 p2 p3 x0 x1 x2 x3 x4
 refine (qz9x B A _ _ _ _ _ _ _ _ _ (by omega) hA' I5).mono ?_
 rintro e w6 ⟨rfl, b6⟩
 have K6 := K5.trans (b6.mono (by omega))
 have hv : qz10 x y z u A = qz2l (verB Q6q Q6w) A.vers := by simp only [qz39, h1, h2, h25, h3, h4, h5, Bool.true_and]
 go_wp2_with fail
 go_ret
 exact ⟨by rw [hv]; rfl, K6⟩
end
end Go.Proofs.YthjkdnlmopafkaaGreatDoor
