/-
  What the law's proof goes by, part 43.
-/
import Derived.Test.YtclkglkhhnapiaaGreatFnWent00
import Derived.Test.YtclkglkhhnapiaaGreatFnWent03
import Derived.Test.YtclkglkhhnapiaaGreatFnWent41
namespace Go.Proofs.YtclkglkhhnapiaaGreat
open Go.ChangeShapes Go.WideShapes Go.ChangeAt Go.RowKit
set_option maxRecDepth 100000
set_option maxHeartbeats 16000000
set_option linter.unusedVariables false
set_option linter.unusedSimpArgs false
set_option linter.unnecessarySimpa false
set_option linter.unusedSectionVars false
section
attribute [local go_sem ↓] Go.wp_at_zero Go.wp_at_succ
theorem qza7 (bb off : Nat) (x : Nd) (h : Bool) (w : World) (R : w.rangeAt bb off (ndC x)) :
  Calls Tryz.prog 141 #[.pointer (some ⟨bb, off, none⟩), .bool h] w fun e w' => e = .returned (.bool (if h then (x.key == -1) && (x.value == 0) else inB x.key 0 63 && inB x.value 0 9999)) /\ w' = w := by
 have f0 : w.cell? ⟨bb, off, none⟩ = some (.int .i64 x.key) := R 0 _ rfl
 have f1 : w.cell? ⟨bb, off + 1, none⟩ = some (.int .i64 x.value) := R 1 _ rfl
 clear R
 cases h
 ·cases e1 : inB x.key 0 63
  ·go_enter Tryz.func141, Tryz.ntmps141
   go_wp2_with (first | (go_at_call 143; refine (qz3j _ _).mono ?_; rintro e w' ⟨rfl, hw⟩; obtain rfl := hw.symm) | (go_at_call 41; refine (qzk _ _ _ _).mono ?_; rintro e w' ⟨rfl, hw⟩; obtain rfl := hw.symm))
   go_ret
   exact ⟨rfl, rfl⟩
  ·go_enter Tryz.func141, Tryz.ntmps141
   go_wp2_with (first | (go_at_call 143; refine (qz3j _ _).mono ?_; rintro e w' ⟨rfl, hw⟩; obtain rfl := hw.symm) | (go_at_call 41; refine (qzk _ _ _ _).mono ?_; rintro e w' ⟨rfl, hw⟩; obtain rfl := hw.symm))
   go_ret
   exact ⟨rfl, rfl⟩
 ·cases e1 : (x.key == -1)
  ·go_enter Tryz.func141, Tryz.ntmps141
   go_wp2
   go_ret
   exact ⟨rfl, rfl⟩
  ·go_enter Tryz.func141, Tryz.ntmps141
   go_wp2
   go_ret
   exact ⟨rfl, rfl⟩
def verR (nn cam : Int) (i : Int) (v : Vr) : Bool :=
 inB v.next (-1) (nn - 1) && (v.next != 0) && inB v.stamp (-1) cam && inB v.prev (-1) (i - 1) && inB v.kind 0 2
theorem qzer (nn : Nat) (cam : Int) (i : Nat) (v : Vr) : verR nn cam i v = verB nn cam i v := by
 have h : (inB v.next (-1) ((nn : Int) - 1) && (v.next != 0)) = ((v.next == -1) || inB v.next 1 ((nn : Int) - 1)) := by
  rw [Bool.eq_iff_iff]
  simp only [Bool.and_eq_true, Bool.or_eq_true, qz1a, bne_iff_ne, beq_iff_eq]
  omega
 simp only [verR, verB, h]
theorem qz9y (bb off : Nat) (x : Vr) (i cam : Int) (nn : Nat) (w : World) (hn : nn <= 1048576) (hi0 : 0 <= i) (hi1 : i <= 1048576) (R : w.rangeAt bb off (vrC x)) :
  Calls Tryz.prog 142 #[.pointer (some ⟨bb, off, none⟩), .int .i64 i, .int .i64 cam, .int .i64 nn] w fun e w' => e = .returned (.bool (verR nn cam i x)) /\ w' = w := by
 have f0 : w.cell? ⟨bb, off, none⟩ = some (.int .i64 x.next) := R 0 _ rfl
 have f2 : w.cell? ⟨bb, off + 2, none⟩ = some (.int .i64 x.stamp) := R 2 _ rfl
 have f3 : w.cell? ⟨bb, off + 3, none⟩ = some (.int .i64 x.prev) := R 3 _ rfl
 have f4 : w.cell? ⟨bb, off + 4, none⟩ = some (.int .i64 x.kind) := R 4 _ rfl
 clear R
 cases e1 : inB x.next (-1) ((nn : Int) - 1)
 ·have hv : verR nn cam i x = false := by simp [verR, e1]
  go_enter Tryz.func142, Tryz.ntmps142
  go_wp2_with (go_at_call 41; refine (qzk _ _ _ _).mono ?_; rintro e w' ⟨rfl, hw⟩; obtain rfl := hw.symm)
  go_ret
  exact ⟨by rw [hv]; rfl, rfl⟩
 cases e2 : (x.next != 0)
 ·have hv : verR nn cam i x = false := by simp [verR, e2]
  go_enter Tryz.func142, Tryz.ntmps142
  go_wp2_with (go_at_call 41; refine (qzk _ _ _ _).mono ?_; rintro e w' ⟨rfl, hw⟩; obtain rfl := hw.symm)
  go_ret
  exact ⟨by rw [hv]; rfl, rfl⟩
 cases e3 : inB x.stamp (-1) cam
 ·have hv : verR nn cam i x = false := by simp [verR, e3]
  go_enter Tryz.func142, Tryz.ntmps142
  go_wp2_with (go_at_call 41; refine (qzk _ _ _ _).mono ?_; rintro e w' ⟨rfl, hw⟩; obtain rfl := hw.symm)
  go_ret
  exact ⟨by rw [hv]; rfl, rfl⟩
 cases e4 : inB x.prev (-1) (i - 1)
 ·have hv : verR nn cam i x = false := by simp [verR, e4]
  go_enter Tryz.func142, Tryz.ntmps142
  go_wp2_with (go_at_call 41; refine (qzk _ _ _ _).mono ?_; rintro e w' ⟨rfl, hw⟩; obtain rfl := hw.symm)
  go_ret
  exact ⟨by rw [hv]; rfl, rfl⟩
 ·have hv : verR nn cam i x = inB x.kind 0 2 := by simp [verR, e1, e2, e3, e4]
  go_enter Tryz.func142, Tryz.ntmps142
  go_wp2_with (go_at_call 41; refine (qzk _ _ _ _).mono ?_; rintro e w' ⟨rfl, hw⟩; obtain rfl := hw.symm)
  go_ret
  exact ⟨by rw [hv]; rfl, rfl⟩
theorem qz7w (bb off : Nat) (x : Vr) (w : World) (R : w.rangeAt bb off (vrC x)) :
  Calls Tryz.prog 82 #[.pointer (some ⟨bb, off, none⟩)] w fun e w' => e = .returned (.bool (x.stamp != -1)) /\ w' = w := by
 have f2 : w.cell? ⟨bb, off + 2, none⟩ = some (.int .i64 x.stamp) := R 2 _ rfl
 clear R
 go_enter Tryz.func82, Tryz.ntmps82
 go_wp2
 go_ret
 exact ⟨rfl, rfl⟩
theorem qz8a (B : Nat) (v : Value) (l : List Int) (w : World) (hB : B <= w.heap.size) (hl : l.length <= 1048576) (S : qzt B w v l.length (qzn intC l)) :
  Calls Tryz.prog 100 #[v] w fun e w' => e = .returned (.bool (qz2w (fun _ v => inB v (-1) 100) l)) /\ Below w.heap.size w w' := by
 obtain ⟨a, cap, rfl, hS⟩ := S
 go_enter Tryz.func100, Tryz.ntmps100
 go_wp2
 go_loopw [7] (fun i wr => ∃ k : Nat, k <= l.length /\ i = .int .i64 k /\ Hid (∀ j (h : j < l.length), j < k -> inB l[j] (-1) 100 = true) /\ Below w.heap.size w wr) (fun i _ => l.length - (intOf i).toNat)
 case atStart => exact ⟨0, Nat.zero_le _, rfl, fun _ _ h => absurd h (by omega), Below.refl _ _⟩
 case round =>
  obtain ⟨k, hk, rfl, hall, bel⟩ := hrel
  by_cases hlt : k < l.length
  ·rcases hS with h0 | ⟨bb, off, rfl, hbb, R0⟩
   ·omega
   ·have hc : wr.cell? ⟨bb, off + k, none⟩ = some (.int .i64 l[k]) := (qz0 R0 (bel.mono hB) hbb) k (.int .i64 l[k]) (by have := qz1k (f := intC) (sz := 1) (fun _ => rfl) l k hlt 0 (by omega); simpa [intC] using this)
    clear R0
    cases hq : inB l[k] (-1) 100
    ·have hv : qz2w (fun _ v => inB v (-1) 100) l = false := qz3x (f := (fun _ v => inB v (-1) 100)) hlt hq
     go_wp2_with (go_at_call 41; refine (qzk _ _ _ _).mono ?_; rintro e w' ⟨rfl, hw⟩; obtain rfl := hw.symm)
     go_ret
     exact ⟨by rw [hv]; rfl, bel⟩
    ·have hall' : Hid (∀ j (h : j < l.length), j < k + 1 -> inB l[j] (-1) 100 = true) := fun j h hj => by rcases Nat.lt_or_ge j k with hl | hl; exact hall.out j h hl; obtain rfl : j = k := (by omega); exact hq
     go_wp2_with (go_at_call 41; refine (qzk _ _ _ _).mono ?_; rintro e w' ⟨rfl, hw⟩; obtain rfl := hw.symm)
     go_roundw
     case rel => exact ⟨k + 1, by omega, by go_num, hall', bel⟩
     case measure => simp [intOf]; omega
  ·have hv : qz2w (fun _ v => inB v (-1) 100) l = true := (qz22 (fun _ v => inB v (-1) 100) l).2 (fun i h => hall.out i h (by omega))
   go_wp2
   go_ret
   exact ⟨by rw [hv]; rfl, bel⟩
theorem qz72 (B : Nat) (v : Value) (l : List Int) (nn : Nat) (w : World) (hB : B <= w.heap.size) (hl : l.length <= 1048576) (hn : nn <= 1048576) (S : qzt B w v l.length (qzn intC l)) :
  Calls Tryz.prog 101 #[v, .int .i64 nn] w fun e w' => e = .returned (.bool (qz2w (fun _ v => inB v 0 ((nn : Int) - 1)) l)) /\ Below w.heap.size w w' := by
 obtain ⟨a, cap, rfl, hS⟩ := S
 go_enter Tryz.func101, Tryz.ntmps101
 go_wp2
 go_loopw [9] (fun i wr => ∃ k : Nat, k <= l.length /\ i = .int .i64 k /\ Hid (∀ j (h : j < l.length), j < k -> inB l[j] 0 ((nn : Int) - 1) = true) /\ Below w.heap.size w wr) (fun i _ => l.length - (intOf i).toNat)
 case atStart => exact ⟨0, Nat.zero_le _, rfl, fun _ _ h => absurd h (by omega), Below.refl _ _⟩
 case round =>
  obtain ⟨k, hk, rfl, hall, bel⟩ := hrel
  by_cases hlt : k < l.length
  ·rcases hS with h0 | ⟨bb, off, rfl, hbb, R0⟩
   ·omega
   ·have hc : wr.cell? ⟨bb, off + k, none⟩ = some (.int .i64 l[k]) := (qz0 R0 (bel.mono hB) hbb) k (.int .i64 l[k]) (by have := qz1k (f := intC) (sz := 1) (fun _ => rfl) l k hlt 0 (by omega); simpa [intC] using this)
    clear R0
    cases hq : inB l[k] 0 ((nn : Int) - 1)
    ·have hv : qz2w (fun _ v => inB v 0 ((nn : Int) - 1)) l = false := qz3x (f := (fun _ v => inB v 0 ((nn : Int) - 1))) hlt hq
     go_wp2_with (go_at_call 41; refine (qzk _ _ _ _).mono ?_; rintro e w' ⟨rfl, hw⟩; obtain rfl := hw.symm)
     go_ret
     exact ⟨by rw [hv]; rfl, bel⟩
    ·have hall' : Hid (∀ j (h : j < l.length), j < k + 1 -> inB l[j] 0 ((nn : Int) - 1) = true) := fun j h hj => by rcases Nat.lt_or_ge j k with hl | hl; exact hall.out j h hl; obtain rfl : j = k := (by omega); exact hq
     go_wp2_with (go_at_call 41; refine (qzk _ _ _ _).mono ?_; rintro e w' ⟨rfl, hw⟩; obtain rfl := hw.symm)
     go_roundw
     case rel => exact ⟨k + 1, by omega, by go_num, hall', bel⟩
     case measure => simp [intOf]; omega
  ·have hv : qz2w (fun _ v => inB v 0 ((nn : Int) - 1)) l = true := (qz22 (fun _ v => inB v 0 ((nn : Int) - 1)) l).2 (fun i h => hall.out i h (by omega))
   go_wp2
   go_ret
   exact ⟨by rw [hv]; rfl, bel⟩
theorem qz7r (B : Nat) (A : Ar) (a0 a1 a2 a3 : Option Addr) (c0 c1 c2 c3 : Nat) (w : World) (hB : B <= w.heap.size) (hA : A.size <= 1048576) (I : qzr B w Q0u Q0s Q0w Q14 A) :
  Calls Tryz.prog 102 #[.agg Q01] w fun e w' => e = .returned (.bool (qz2w (qz4g A.vers.length) A.nodes)) /\ Below w.heap.size w w' := by
 unfold Ar.size at hA
 have X0 : World.rangeAt Q26 w.heap.size 0 Q0j := qz6 w Q0j 30
 have K0 := (Below.refl w.heap.size w).alloc (Nat.le_refl _) (.cells Q01 30)
 have hz0 : w.heap.size < (Q26).heap.size := by simp
 have I0 := I.below (K0.mono hB)
 clear I
 obtain ⟨x0, x1, x2, x3, x4⟩ := row5 X0
 go_enter Tryz.func102, Tryz.ntmps102
 go_wp2
 clear x0 x1 x2 x3 x4
 generalize w.alloc (.cells Q01 30) = w1 at X0 K0 hz0 I0 ⊢
 go_loopw [8] (fun i wr => ∃ k : Nat, k <= A.nodes.length /\ i = .int .i64 k /\ Hid (∀ j (h : j < A.nodes.length), j < k -> qz4g A.vers.length j A.nodes[j] = true) /\ Below w1.heap.size w1 wr) (fun i _ => A.nodes.length - (intOf i).toNat)
 case atStart => exact ⟨0, Nat.zero_le _, rfl, fun _ _ h => absurd h (by omega), Below.refl _ _⟩
 case round =>
  obtain ⟨k, hk, rfl, hall, bel⟩ := hrel
  obtain ⟨x0, x1, x2, x3, x4⟩ := row5 (qz0 X0 bel hz0)
  have KK := K0.trans (bel.mono (show w.heap.size <= w1.heap.size by omega))
  by_cases hlt : k < A.nodes.length
  ·obtain ⟨bb, off, rfl, hbb, R⟩ := qzt.at I0.n (by omega)
   have E := qzi (sz := 3) (fun _ => rfl) (qz0 R (bel.mono (by omega)) hbb) k hlt
   have f2 : wr.cell? ⟨bb, off + k * 3 + 2, none⟩ = some (.int .i64 A.nodes[k].head) := E 2 _ rfl
   clear R
   have hlt' : (k : Int) < (A.nodes.length : Int) := by omega
   have hk0 : (0 : Int) <= (k : Int) := by omega
   obtain ⟨nm, hnm⟩ : ∃ nm : Bool, nm = (if ((k : Int) == 0) then (A.nodes[k].key == -1) && (A.nodes[k].value == 0) else inB A.nodes[k].key 0 63 && inB A.nodes[k].value 0 9999) := ⟨_, rfl⟩
   have hnd : qz4g A.vers.length k A.nodes[k] = (inB A.nodes[k].head 0 ((A.vers.length : Int) - 1) && nm) := by
    rw [hnm]
    unfold qz4g
    by_cases h0 : k = 0
    ·subst h0; simp [Bool.and_comm]
    ·have : ((k : Int) == 0) = false := by simp; omega
     rw [this, if_neg h0]; simp [Bool.and_comm]
   have hN : ∀ W : World, W.rangeAt bb (off + k * 3) (ndC A.nodes[k]) -> Calls Tryz.prog 141 #[.pointer (some ⟨bb, off + k * 3, none⟩), .bool ((k : Int) == 0)] W fun e w' => e = .returned (.bool nm) /\ w' = W := by
    intro W hW
    rw [hnm]
    exact qza7 bb (off + k * 3) A.nodes[k] _ W hW
   clear hnm
   cases e1 : inB A.nodes[k].head 0 ((A.vers.length : Int) - 1)
   ·have hq : qz4g A.vers.length k A.nodes[k] = false := by rw [hnd, e1]; rfl
    have hv : qz2w (qz4g A.vers.length) A.nodes = false := qz3x (f := qz4g A.vers.length) hlt hq
    clear hq hnd hN
    go_wp2
    go_quiet (first | (go_at_call 41; exact Calls.quiet_of_same (qzk _ _ _ _)) | (go_at_call 141; exact Calls.quiet_of_same (qza7 bb (off + k * 3) A.nodes[k] _ _ E)))
    go_wp2
    go_ret
    exact ⟨by rw [hv]; rfl, qz4h KK _⟩
   ·cases nm
    ·have hq : qz4g A.vers.length k A.nodes[k] = false := by rw [hnd, e1]; rfl
     have hv : qz2w (qz4g A.vers.length) A.nodes = false := qz3x (f := qz4g A.vers.length) hlt hq
     clear hq hnd
     go_wp2
     go_quiet (first | (go_at_call 41; exact Calls.quiet_of_same (qzk _ _ _ _)) | (go_at_call 141; exact Calls.quiet_of_same (hN _ E)))
     go_wp2
     go_ret
     exact ⟨by rw [hv]; rfl, qz4h KK _⟩
    ·have hq : qz4g A.vers.length k A.nodes[k] = true := by rw [hnd, e1]; rfl
     have hall' : Hid (∀ j (h : j < A.nodes.length), j < k + 1 -> qz4g A.vers.length j A.nodes[j] = true) := fun j h hj => by rcases Nat.lt_or_ge j k with hl | hl; exact hall.out j h hl; obtain rfl : j = k := (by omega); exact hq
     clear hq hnd
     go_wp2
     go_quiet (first | (go_at_call 41; exact Calls.quiet_of_same (qzk _ _ _ _)) | (go_at_call 141; exact Calls.quiet_of_same (hN _ E)))
     go_wp2
     go_roundw
     case rel => exact ⟨k + 1, by omega, by go_num, hall', qz4h bel _⟩
     case measure => simp [intOf]; omega
  ·have hv : qz2w (qz4g A.vers.length) A.nodes = true := (qz22 (qz4g A.vers.length) A.nodes).2 (fun i h => hall.out i h (by omega))
   go_wp2
   go_ret
   exact ⟨by rw [hv]; rfl, KK⟩
theorem qz94 (B : Nat) (A : Ar) (a0 a1 a2 a3 : Option Addr) (c0 c1 c2 c3 : Nat) (w : World) (hB : B <= w.heap.size) (hA : A.size <= 1048576) (I : qzr B w Q0u Q0s Q0w Q14 A) :
  Calls Tryz.prog 103 #[.agg Q01] w fun e w' => e = .returned (.bool (qz2w (verB A.nodes.length A.camera) A.vers)) /\ Below w.heap.size w w' := by
 unfold Ar.size at hA
 have X0 : World.rangeAt Q26 w.heap.size 0 Q0j := qz6 w Q0j 30
 have K0 := (Below.refl w.heap.size w).alloc (Nat.le_refl _) (.cells Q01 30)
 have hz0 : w.heap.size < (Q26).heap.size := by simp
 have I0 := I.below (K0.mono hB)
 clear I
 obtain ⟨x0, x1, x2, x3, x4⟩ := row5 X0
 go_enter Tryz.func103, Tryz.ntmps103
 go_wp2
 clear x0 x1 x2 x3 x4
 generalize w.alloc (.cells Q01 30) = w1 at X0 K0 hz0 I0 ⊢
 go_loopw [7] (fun i wr => ∃ k : Nat, k <= A.vers.length /\ i = .int .i64 k /\ Hid (∀ j (h : j < A.vers.length), j < k -> verB A.nodes.length A.camera j A.vers[j] = true) /\ Below w1.heap.size w1 wr) (fun i _ => A.vers.length - (intOf i).toNat)
 case atStart => exact ⟨0, Nat.zero_le _, rfl, fun _ _ h => absurd h (by omega), Below.refl _ _⟩
 case round =>
  obtain ⟨k, hk, rfl, hall, bel⟩ := hrel
  obtain ⟨x0, x1, x2, x3, x4⟩ := row5 (qz0 X0 bel hz0)
  have KK := K0.trans (bel.mono (show w.heap.size <= w1.heap.size by omega))
  by_cases hlt : k < A.vers.length
  ·obtain ⟨bb, off, rfl, hbb, R⟩ := qzt.at I0.r (by omega)
   have E := qzi (sz := 5) (fun _ => rfl) (qz0 R (bel.mono (by omega)) hbb) k hlt
   clear R
   have hlt' : (k : Int) < (A.vers.length : Int) := by omega
   have hk0 : (0 : Int) <= (k : Int) := by omega
   have hN : ∀ W : World, W.rangeAt bb (off + k * 5) (vrC A.vers[k]) -> Calls Tryz.prog 142 #[.pointer (some ⟨bb, off + k * 5, none⟩), .int .i64 k, .int .i64 A.camera, .int .i64 A.nodes.length] W fun e w' => e = .returned (.bool (verB A.nodes.length A.camera k A.vers[k])) /\ w' = W := by
    intro W hW
    rw [<- qzer]
    exact qz9y bb (off + k * 5) A.vers[k] k A.camera A.nodes.length W (by omega) (by omega) (by omega) hW
   cases hq : verB A.nodes.length A.camera k A.vers[k]
   ·have hv : qz2w (verB A.nodes.length A.camera) A.vers = false := qz3x (f := verB A.nodes.length A.camera) hlt hq
    rw [hq] at hN
    clear hq
    go_wp2
    go_quiet ((go_at_call 142; exact Calls.quiet_of_same (hN _ E)))
    go_wp2
    go_ret
    exact ⟨by rw [hv]; rfl, qz4h KK _⟩
   ·have hall' : Hid (∀ j (h : j < A.vers.length), j < k + 1 -> verB A.nodes.length A.camera j A.vers[j] = true) := fun j h hj => by rcases Nat.lt_or_ge j k with hl | hl; exact hall.out j h hl; obtain rfl : j = k := (by omega); exact hq
    rw [hq] at hN
    clear hq
    go_wp2
    go_quiet ((go_at_call 142; exact Calls.quiet_of_same (hN _ E)))
    go_wp2
    go_roundw
    case rel => exact ⟨k + 1, by omega, by go_num, hall', qz4h bel _⟩
    case measure => simp [intOf]; omega
  ·have hv : qz2w (verB A.nodes.length A.camera) A.vers = true := (qz22 (verB A.nodes.length A.camera) A.vers).2 (fun i h => hall.out i h (by omega))
   go_wp2
   go_ret
   exact ⟨by rw [hv]; rfl, KK⟩
def qz65 (x y z u : Int) (l0 l1 l2 l3 : Nat) : Bool := ((l0 : Int) == x) && ((l1 : Int) == u) && inB l2 1 y && inB l3 1 z
theorem qzd7 (x y z u cam : Int) (a0 a1 a2 a3 : Option Addr) (l0 l1 l2 l3 c0 c1 c2 c3 : Nat) (w : World) (hA : l0 + l1 + l2 + l3 <= 1048576) :
  Calls Tryz.prog 99 #[.agg Q05, .agg #[.int .i64 cam, .slice a0 l0 c0, .slice a1 l1 c1, .slice a2 l2 c2, .slice a3 l3 c3]] w fun e w' => e = .returned (.bool (qz65 x y z u l0 l1 l2 l3)) /\ Below w.heap.size w w' := by
 have KK := ((Below.refl w.heap.size w).alloc (Nat.le_refl _) (.cells Q05 25)).alloc (by simp) (.cells #[.int .i64 cam, .slice a0 l0 c0, .slice a1 l1 c1, .slice a2 l2 c2, .slice a3 l3 c3] 30)
 cases e1 : ((l0 : Int) == x)
 ·have hv : qz65 x y z u l0 l1 l2 l3 = false := by simp [qz65, e1]
  go_enter Tryz.func99, Tryz.ntmps99
  go_wp2_with (go_at_call 41; refine (qzk _ _ _ _).mono ?_; rintro e w' ⟨rfl, hw⟩; obtain rfl := hw.symm)
  go_ret
  exact ⟨by rw [hv]; rfl, KK⟩
 cases e2 : ((l1 : Int) == u)
 ·have hv : qz65 x y z u l0 l1 l2 l3 = false := by simp [qz65, e2]
  go_enter Tryz.func99, Tryz.ntmps99
  go_wp2_with (go_at_call 41; refine (qzk _ _ _ _).mono ?_; rintro e w' ⟨rfl, hw⟩; obtain rfl := hw.symm)
  go_ret
  exact ⟨by rw [hv]; rfl, KK⟩
 cases e3 : inB l2 1 y
 ·have hv : qz65 x y z u l0 l1 l2 l3 = false := by simp [qz65, e3]
  go_enter Tryz.func99, Tryz.ntmps99
  go_wp2_with (go_at_call 41; refine (qzk _ _ _ _).mono ?_; rintro e w' ⟨rfl, hw⟩; obtain rfl := hw.symm)
  go_ret
  exact ⟨by rw [hv]; rfl, KK⟩
 ·have hv : qz65 x y z u l0 l1 l2 l3 = inB l3 1 z := by simp [qz65, e1, e2, e3]
  go_enter Tryz.func99, Tryz.ntmps99
  go_wp2_with (go_at_call 41; refine (qzk _ _ _ _).mono ?_; rintro e w' ⟨rfl, hw⟩; obtain rfl := hw.symm)
  go_ret
  exact ⟨by rw [hv]; rfl, KK⟩
theorem qzam (B : Nat) (A : Ar) (i0 : Int) (a0 a1 a2 a3 : Option Addr) (c0 c1 c2 c3 : Nat) (w : World) (hB : B <= w.heap.size) (hA : A.size <= 1048576) (I : qzr B w Q0u Q0s Q0w Q14 A) :
  Calls Tryz.prog 36 #[.agg Q01, .int .i64 i0] w fun e w' => e = .returned (.bool (qz24 A i0)) /\ Below w.heap.size w w' := by
 unfold Ar.size at hA
 have KK := (Below.refl w.heap.size w).alloc (Nat.le_refl _) (.cells Q01 30)
 cases hq : inB i0 0 ((A.vers.length : Int) - 1)
 ·have hv : qz24 A i0 = false := by simp [qz24, hq]
  go_enter Tryz.func36, Tryz.ntmps36
  go_wp2_with (go_at_call 41; refine (qzk _ _ _ _).mono ?_; rintro e w' ⟨rfl, hw⟩; obtain rfl := hw.symm)
  go_ret
  exact ⟨by rw [hv]; rfl, KK⟩
 ·obtain ⟨h1, h2⟩ := (qz1a _ _ _).1 hq
  obtain ⟨k, rfl⟩ : ∃ k : Nat, i0 = k := ⟨i0.toNat, by omega⟩
  have hlt : k < A.vers.length := by omega
  have hlt' : (k : Int) < (A.vers.length : Int) := by omega
  have hv : qz24 A k = (A.vers[k].stamp != -1) := by simp [qz24, hq, qz2z A k hlt]
  obtain ⟨bb, off, rfl, hbb, R⟩ := qzt.at I.r (by omega)
  have E := qzi (sz := 5) (fun _ => rfl) (qz0 R (KK.mono hB) hbb) k hlt
  clear R
  go_enter Tryz.func36, Tryz.ntmps36
  go_wp2_with (first | (go_at_call 41; refine (qzk _ _ _ _).mono ?_; rintro e w' ⟨rfl, hw⟩; obtain rfl := hw.symm) | (go_at_call 82; refine (qz7w bb (off + k * 5) A.vers[k] _ E).mono ?_; rintro e w' ⟨rfl, hw⟩; obtain rfl := hw.symm))
  go_ret
  exact ⟨by rw [hv]; rfl, KK⟩
theorem qz3b (x y z u : Int) (A : Ar) : qz18 x y z u A = (qz3t x y z u && (qz65 x y z u A.slots.length A.guides.length A.nodes.length A.vers.length && (inB A.camera 0 100 && (qz2w (fun _ v => inB v (-1) 100) A.slots && (qz2w (fun _ v => inB v 0 ((A.nodes.length : Int) - 1)) A.guides && (qz2w (qz4g A.vers.length) A.nodes && qz2w (verB A.nodes.length A.camera) A.vers)))))) := by
 unfold qz18 qz8c qz65
 cases qz3t x y z u <;> cases inB A.camera 0 100 <;> simp [Bool.and_assoc]
theorem qzb0 (B : Nat) (A : Ar) (x y z u : Int) (a0 a1 a2 a3 : Option Addr) (c0 c1 c2 c3 : Nat) (w : World) (hB : B <= w.heap.size) (hA : A.size <= 1048576) (I : qzr B w Q0u Q0s Q0w Q14 A) :
  Calls Tryz.prog 53 #[.agg Q05, .agg Q01] w fun e w' => e = .returned (.bool (qz18 x y z u A)) /\ Below w.heap.size w w' := by
 have hA' := hA
 unfold Ar.size at hA
 have P0 := (qz1t w x y z u 25).below ((Below.refl _ _).alloc (Nat.le_refl _) (.cells Q01 30)) (by simp)
 have X0 : World.rangeAt Q2e (w.heap.size + 1) 0 Q0j := by
  have h := qz6 Q3a Q0j 30
  simp only [World.size_alloc] at h
  exact h
 have K0 := ((Below.refl w.heap.size w).alloc (Nat.le_refl _) (.cells Q05 25)).alloc (by simp) (.cells Q01 30)
 have hz0 : w.heap.size + 1 < (Q2e).heap.size := by simp
 have I0 := I.below (K0.mono hB)
 clear I
 go_enter Tryz.func53, Tryz.ntmps53
 go_wp2_with fail
 refine (qz69 _ _ _ _ _).mono ?_
 rintro e w1 ⟨rfl, b1⟩
 have P1 := P0.below b1 (by omega)
 have X1 := qz0 X0 b1 hz0
 have K1 := K0.trans (b1.mono (by omega))
 have I1 := I0.below (b1.mono (by omega))
 have hz1 := Nat.lt_of_lt_of_le hz0 b1.size
 clear P0 X0 K0 I0 b1
 have P1' := P1
 obtain ⟨p0, p1, p2, p3⟩ := P1'
 obtain ⟨x0, x1, x2, x3, x4⟩ := row5 X1
 cases h1 : qz3t x y z u
 ·have hv : qz18 x y z u A = false := by simp only [qz3b, h1, Bool.false_and]
  go_wp2_with fail
  go_ret
  exact ⟨by rw [hv]; rfl, K1⟩
 go_wp2_with fail
 clear p0 p1 p2 p3 x0 x1 x2 x3 x4
 refine (qzd7 _ _ _ _ _ _ _ _ _ _ _ _ _ _ _ _ _ _ hA).mono ?_
 rintro e w2 ⟨rfl, b2⟩
 have P2 := P1.below b2 (by omega)
 have X2 := qz0 X1 b2 hz1
 have K2 := K1.trans (b2.mono (by omega))
 have I2 := I1.below (b2.mono (by omega))
 have hz2 := Nat.lt_of_lt_of_le hz1 b2.size
 clear P1 X1 K1 I1 b2
 have P2' := P2
 obtain ⟨p0, p1, p2, p3⟩ := P2'
 obtain ⟨x0, x1, x2, x3, x4⟩ := row5 X2
 cases h2 : qz65 x y z u A.slots.length A.guides.length A.nodes.length A.vers.length
 ·have hv : qz18 x y z u A = false := by simp only [qz3b, h2, Bool.and_false, Bool.false_and]
  go_wp2_with fail
  go_ret
  exact ⟨by rw [hv]; rfl, K2⟩
 cases h25 : inB A.camera 0 100
 ·have hv : qz18 x y z u A = false := by simp only [qz3b, h25, Bool.and_false, Bool.false_and]
  go_wp2_with (go_at_call 41; refine (qzk _ _ _ _).mono ?_; rintro e w' ⟨rfl, hw⟩; obtain rfl := hw.symm)
  go_ret
  exact ⟨by rw [hv]; rfl, K2⟩
 go_wp2_with (go_at_call 41; refine (qzk _ _ _ _).mono ?_; rintro e w' ⟨rfl, hw⟩; obtain rfl := hw.symm)
 clear p0 p1 p2 p3 x0 x1 x2 x3 x4
 refine (qz8a B _ A.slots _ (by omega) (by omega) I2.s).mono ?_
 rintro e w3 ⟨rfl, b3⟩
 have P3 := P2.below b3 (by omega)
 have X3 := qz0 X2 b3 hz2
 have K3 := K2.trans (b3.mono (by omega))
 have I3 := I2.below (b3.mono (by omega))
 have hz3 := Nat.lt_of_lt_of_le hz2 b3.size
 clear P2 X2 K2 I2 b3
 have P3' := P3
 obtain ⟨p0, p1, p2, p3⟩ := P3'
 obtain ⟨x0, x1, x2, x3, x4⟩ := row5 X3
 cases h3 : qz2w (fun _ v => inB v (-1) 100) A.slots
 ·have hv : qz18 x y z u A = false := by simp only [qz3b, h3, Bool.and_false, Bool.false_and]
  go_wp2_with fail
  go_ret
  exact ⟨by rw [hv]; rfl, K3⟩
 go_wp2_with fail
 clear p0 p1 p2 p3 x0 x1 x2 x3 x4
 refine (qz72 B _ A.guides A.nodes.length _ (by omega) (by omega) (by omega) I3.g).mono ?_
 rintro e w4 ⟨rfl, b4⟩
 have P4 := P3.below b4 (by omega)
 have X4 := qz0 X3 b4 hz3
 have K4 := K3.trans (b4.mono (by omega))
 have I4 := I3.below (b4.mono (by omega))
 have hz4 := Nat.lt_of_lt_of_le hz3 b4.size
 clear P3 X3 K3 I3 b4
 have P4' := P4
 obtain ⟨p0, p1, p2, p3⟩ := P4'
 obtain ⟨x0, x1, x2, x3, x4⟩ := row5 X4
 cases h4 : qz2w (fun _ v => inB v 0 ((A.nodes.length : Int) - 1)) A.guides
 ·have hv : qz18 x y z u A = false := by simp only [qz3b, h4, Bool.and_false, Bool.false_and]
  go_wp2_with fail
  go_ret
  exact ⟨by rw [hv]; rfl, K4⟩
 go_wp2_with fail
 clear p0 p1 p2 p3 x0 x1 x2 x3 x4
 refine (qz7r B A _ _ _ _ _ _ _ _ _ (by omega) hA' I4).mono ?_
 rintro e w5 ⟨rfl, b5⟩
 have P5 := P4.below b5 (by omega)
 have X5 := qz0 X4 b5 hz4
 have K5 := K4.trans (b5.mono (by omega))
 have I5 := I4.below (b5.mono (by omega))
 have hz5 := Nat.lt_of_lt_of_le hz4 b5.size
 clear P4 X4 K4 I4 b5
 have P5' := P5
 obtain ⟨p0, p1, p2, p3⟩ := P5'
 obtain ⟨x0, x1, x2, x3, x4⟩ := row5 X5
 cases h5 : qz2w (qz4g A.vers.length) A.nodes
 ·have hv : qz18 x y z u A = false := by simp only [qz3b, h5, Bool.and_false, Bool.false_and]
  go_wp2_with fail
  go_ret
  exact ⟨by rw [hv]; rfl, K5⟩
 go_wp2_with fail
 clear p0 p1 p2 p3 x0 x1 x2 x3 x4
 refine (qz94 B A _ _ _ _ _ _ _ _ _ (by omega) hA' I5).mono ?_
 rintro e w6 ⟨rfl, b6⟩
 have K6 := K5.trans (b6.mono (by omega))
 have hv : qz18 x y z u A = qz2w (verB A.nodes.length A.camera) A.vers := by simp only [qz3b, h1, h2, h25, h3, h4, h5, Bool.true_and]
 go_wp2_with fail
 go_ret
 exact ⟨by rw [hv]; rfl, K6⟩
end
end Go.Proofs.YtclkglkhhnapiaaGreat
