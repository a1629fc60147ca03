/-
  What the law's proof goes by, part 11.
-/
import Derived.Test.YtlfjhcdjgoeafaaDoorSwapped00
import Derived.Test.YtlfjhcdjgoeafaaDoorSwapped02
import Derived.Test.YtlfjhcdjgoeafaaDoorSwapped08
namespace Go.Proofs.YtlfjhcdjgoeafaaDoor
open Go.ChangeShapes Go.WideShapes Go.ChangeAt Go.RowKit
set_option maxRecDepth 100000
set_option maxHeartbeats 16000000
set_option linter.unusedVariables false
set_option linter.unusedSimpArgs false
set_option linter.unnecessarySimpa false
set_option linter.unusedSectionVars false
section
attribute [local go_sem ↓] Go.wp_at_zero Go.wp_at_succ
theorem qz6h (bb off : Nat) (x : Nd) (h : Bool) (w : World) (R : w.rangeAt bb off (ndC x)) :
  Calls Tryd.prog 85 #[.pointer (some ⟨bb, off, none⟩), .bool h] w fun e w' => e = .returned (.bool (if h then (x.key == -1) && (x.value == 0) else inB x.key 0 63 && inB x.value 0 9999)) /\ w' = w := by
 have f0 : w.cell? ⟨bb, off, none⟩ = some (.int .i64 x.key) := R 0 _ rfl
 have f1 : w.cell? ⟨bb, off + 1, none⟩ = some (.int .i64 x.value) := R 1 _ rfl
 clear R
 cases h
 ·cases e1 : inB x.key 0 63
  ·go_enter Tryd.func85, Tryd.ntmps85
   go_wp2_with (first | (go_at_call 42; refine (qz6e _ _).mono ?_; rintro e w' ⟨rfl, hw⟩; obtain rfl := hw.symm) | (go_at_call 53; refine (qz7 _ _ _ _).mono ?_; rintro e w' ⟨rfl, hw⟩; obtain rfl := hw.symm))
   go_ret
   exact ⟨rfl, rfl⟩
  ·go_enter Tryd.func85, Tryd.ntmps85
   go_wp2_with (first | (go_at_call 42; refine (qz6e _ _).mono ?_; rintro e w' ⟨rfl, hw⟩; obtain rfl := hw.symm) | (go_at_call 53; refine (qz7 _ _ _ _).mono ?_; rintro e w' ⟨rfl, hw⟩; obtain rfl := hw.symm))
   go_ret
   exact ⟨rfl, rfl⟩
 ·cases e1 : (x.key == -1)
  ·go_enter Tryd.func85, Tryd.ntmps85
   go_wp2
   go_ret
   exact ⟨rfl, rfl⟩
  ·go_enter Tryd.func85, Tryd.ntmps85
   go_wp2
   go_ret
   exact ⟨rfl, rfl⟩
def verR (nn cam : Int) (i : Int) (v : Vr) : Bool :=
 inB v.next (-1) (nn - 1) && (v.next != 0) && inB v.stamp (-1) cam && inB v.prev (-1) (i - 1) && inB v.kind 0 2
theorem qz8n (nn : Nat) (cam : Int) (i : Nat) (v : Vr) : verR nn cam i v = verB nn cam i v := by
 have h : (inB v.next (-1) ((nn : Int) - 1) && (v.next != 0)) = ((v.next == -1) || inB v.next 1 ((nn : Int) - 1)) := by
  rw [Bool.eq_iff_iff]
  simp only [Bool.and_eq_true, Bool.or_eq_true, qz1m, bne_iff_ne, beq_iff_eq]
  omega
 simp only [verR, verB, h]
theorem qz3f (bb off : Nat) (x : Vr) (i cam : Int) (nn : Nat) (w : World) (hn : nn <= 1048576) (hi0 : 0 <= i) (hi1 : i <= 1048576) (R : w.rangeAt bb off (vrC x)) :
  Calls Tryd.prog 57 #[.pointer (some ⟨bb, off, none⟩), .int .i64 i, .int .i64 cam, .int .i64 nn] w fun e w' => e = .returned (.bool (verR nn cam i x)) /\ w' = w := by
 have f0 : w.cell? ⟨bb, off, none⟩ = some (.int .i64 x.next) := R 0 _ rfl
 have f2 : w.cell? ⟨bb, off + 2, none⟩ = some (.int .i64 x.stamp) := R 2 _ rfl
 have f3 : w.cell? ⟨bb, off + 3, none⟩ = some (.int .i64 x.prev) := R 3 _ rfl
 have f4 : w.cell? ⟨bb, off + 4, none⟩ = some (.int .i64 x.kind) := R 4 _ rfl
 clear R
 cases e1 : inB x.next (-1) ((nn : Int) - 1)
 ·have hv : verR nn cam i x = false := by simp [verR, e1]
  go_enter Tryd.func57, Tryd.ntmps57
  go_wp2_with (go_at_call 53; refine (qz7 _ _ _ _).mono ?_; rintro e w' ⟨rfl, hw⟩; obtain rfl := hw.symm)
  go_ret
  exact ⟨by rw [hv]; rfl, rfl⟩
 cases e2 : (x.next != 0)
 ·have hv : verR nn cam i x = false := by simp [verR, e2]
  go_enter Tryd.func57, Tryd.ntmps57
  go_wp2_with (go_at_call 53; refine (qz7 _ _ _ _).mono ?_; rintro e w' ⟨rfl, hw⟩; obtain rfl := hw.symm)
  go_ret
  exact ⟨by rw [hv]; rfl, rfl⟩
 cases e3 : inB x.stamp (-1) cam
 ·have hv : verR nn cam i x = false := by simp [verR, e3]
  go_enter Tryd.func57, Tryd.ntmps57
  go_wp2_with (go_at_call 53; refine (qz7 _ _ _ _).mono ?_; rintro e w' ⟨rfl, hw⟩; obtain rfl := hw.symm)
  go_ret
  exact ⟨by rw [hv]; rfl, rfl⟩
 cases e4 : inB x.prev (-1) (i - 1)
 ·have hv : verR nn cam i x = false := by simp [verR, e4]
  go_enter Tryd.func57, Tryd.ntmps57
  go_wp2_with (go_at_call 53; refine (qz7 _ _ _ _).mono ?_; rintro e w' ⟨rfl, hw⟩; obtain rfl := hw.symm)
  go_ret
  exact ⟨by rw [hv]; rfl, rfl⟩
 ·have hv : verR nn cam i x = inB x.kind 0 2 := by simp [verR, e1, e2, e3, e4]
  go_enter Tryd.func57, Tryd.ntmps57
  go_wp2_with (go_at_call 53; refine (qz7 _ _ _ _).mono ?_; rintro e w' ⟨rfl, hw⟩; obtain rfl := hw.symm)
  go_ret
  exact ⟨by rw [hv]; rfl, rfl⟩
theorem qz4y (B : Nat) (v : Value) (l : List Int) (w : World) (hB : B <= w.heap.size) (hl : l.length <= 1048576) (S : qz8 B w v l.length (qz1 intC l)) :
  Calls Tryd.prog 67 #[v] w fun e w' => e = .returned (.bool (qzn (fun _ v => inB v (-1) 100) l)) /\ Below w.heap.size w w' := by
 obtain ⟨a, cap, rfl, hS⟩ := S
 go_enter Tryd.func67, Tryd.ntmps67
 go_wp2
 go_loopw [7] (fun i wr => ∃ k : Nat, k <= l.length /\ i = .int .i64 k /\ Hid (∀ j (h : j < l.length), j < k -> inB l[j] (-1) 100 = true) /\ Below w.heap.size w wr) (fun i _ => l.length - (intOf i).toNat)
 case atStart => exact ⟨0, Nat.zero_le _, rfl, fun _ _ h => absurd h (by omega), Below.refl _ _⟩
 case round =>
  obtain ⟨k, hk, rfl, hall, bel⟩ := hrel
  by_cases hlt : k < l.length
  ·rcases hS with h0 | ⟨bb, off, rfl, hbb, R0⟩
   ·omega
   ·have hc : wr.cell? ⟨bb, off + k, none⟩ = some (.int .i64 l[k]) := (qz0 R0 (bel.mono hB) hbb) k (.int .i64 l[k]) (by have := qzu (f := intC) (sz := 1) (fun _ => rfl) l k hlt 0 (by omega); simpa [intC] using this)
    clear R0
    cases hq : inB l[k] (-1) 100
    ·have hv : qzn (fun _ v => inB v (-1) 100) l = false := qz18 (f := (fun _ v => inB v (-1) 100)) hlt hq
     go_wp2_with (go_at_call 53; refine (qz7 _ _ _ _).mono ?_; rintro e w' ⟨rfl, hw⟩; obtain rfl := hw.symm)
     go_ret
     exact ⟨by rw [hv]; rfl, bel⟩
    ·have hall' : Hid (∀ j (h : j < l.length), j < k + 1 -> inB l[j] (-1) 100 = true) := fun j h hj => by rcases Nat.lt_or_ge j k with hl | hl; exact hall.out j h hl; obtain rfl : j = k := (by omega); exact hq
     go_wp2_with (go_at_call 53; refine (qz7 _ _ _ _).mono ?_; rintro e w' ⟨rfl, hw⟩; obtain rfl := hw.symm)
     go_roundw
     case rel => exact ⟨k + 1, by omega, by go_num, hall', bel⟩
     case measure => simp [intOf]; omega
  ·have hv : qzn (fun _ v => inB v (-1) 100) l = true := (qzl (fun _ v => inB v (-1) 100) l).2 (fun i h => hall.out i h (by omega))
   go_wp2
   go_ret
   exact ⟨by rw [hv]; rfl, bel⟩
theorem qz3s (B : Nat) (v : Value) (l : List Int) (nn : Nat) (w : World) (hB : B <= w.heap.size) (hl : l.length <= 1048576) (hn : nn <= 1048576) (S : qz8 B w v l.length (qz1 intC l)) :
  Calls Tryd.prog 68 #[v, .int .i64 nn] w fun e w' => e = .returned (.bool (qzn (fun _ v => inB v 0 ((nn : Int) - 1)) l)) /\ Below w.heap.size w w' := by
 obtain ⟨a, cap, rfl, hS⟩ := S
 go_enter Tryd.func68, Tryd.ntmps68
 go_wp2
 go_loopw [9] (fun i wr => ∃ k : Nat, k <= l.length /\ i = .int .i64 k /\ Hid (∀ j (h : j < l.length), j < k -> inB l[j] 0 ((nn : Int) - 1) = true) /\ Below w.heap.size w wr) (fun i _ => l.length - (intOf i).toNat)
 case atStart => exact ⟨0, Nat.zero_le _, rfl, fun _ _ h => absurd h (by omega), Below.refl _ _⟩
 case round =>
  obtain ⟨k, hk, rfl, hall, bel⟩ := hrel
  by_cases hlt : k < l.length
  ·rcases hS with h0 | ⟨bb, off, rfl, hbb, R0⟩
   ·omega
   ·have hc : wr.cell? ⟨bb, off + k, none⟩ = some (.int .i64 l[k]) := (qz0 R0 (bel.mono hB) hbb) k (.int .i64 l[k]) (by have := qzu (f := intC) (sz := 1) (fun _ => rfl) l k hlt 0 (by omega); simpa [intC] using this)
    clear R0
    cases hq : inB l[k] 0 ((nn : Int) - 1)
    ·have hv : qzn (fun _ v => inB v 0 ((nn : Int) - 1)) l = false := qz18 (f := (fun _ v => inB v 0 ((nn : Int) - 1))) hlt hq
     go_wp2_with (go_at_call 53; refine (qz7 _ _ _ _).mono ?_; rintro e w' ⟨rfl, hw⟩; obtain rfl := hw.symm)
     go_ret
     exact ⟨by rw [hv]; rfl, bel⟩
    ·have hall' : Hid (∀ j (h : j < l.length), j < k + 1 -> inB l[j] 0 ((nn : Int) - 1) = true) := fun j h hj => by rcases Nat.lt_or_ge j k with hl | hl; exact hall.out j h hl; obtain rfl : j = k := (by omega); exact hq
     go_wp2_with (go_at_call 53; refine (qz7 _ _ _ _).mono ?_; rintro e w' ⟨rfl, hw⟩; obtain rfl := hw.symm)
     go_roundw
     case rel => exact ⟨k + 1, by omega, by go_num, hall', bel⟩
     case measure => simp [intOf]; omega
  ·have hv : qzn (fun _ v => inB v 0 ((nn : Int) - 1)) l = true := (qzl (fun _ v => inB v 0 ((nn : Int) - 1)) l).2 (fun i h => hall.out i h (by omega))
   go_wp2
   go_ret
   exact ⟨by rw [hv]; rfl, bel⟩
theorem qz4m (B : Nat) (A : Ar) (a0 a1 a2 a3 : Option Addr) (c0 c1 c2 c3 : Nat) (w : World) (hB : B <= w.heap.size) (hA : A.size <= 1048576) (I : qzd B w (.slice a0 A.slots.length c0) (.slice a1 A.guides.length c1) (.slice a2 A.nodes.length c2) (.slice a3 A.vers.length c3) A) :
  Calls Tryd.prog 69 #[.agg #[.int .i64 A.camera, .slice a0 A.slots.length c0, .slice a1 A.guides.length c1, .slice a2 A.nodes.length c2, .slice a3 A.vers.length c3]] w fun e w' => e = .returned (.bool (qzn (qz1r A.vers.length) A.nodes)) /\ Below w.heap.size w w' := by
 unfold Ar.size at hA
 have X0 : World.rangeAt (w.alloc (.cells #[.int .i64 A.camera, .slice a0 A.slots.length c0, .slice a1 A.guides.length c1, .slice a2 A.nodes.length c2, .slice a3 A.vers.length c3] 33)) w.heap.size 0 [.int .i64 A.camera, .slice a0 A.slots.length c0, .slice a1 A.guides.length c1, .slice a2 A.nodes.length c2, .slice a3 A.vers.length c3] := qz6 w [.int .i64 A.camera, .slice a0 A.slots.length c0, .slice a1 A.guides.length c1, .slice a2 A.nodes.length c2, .slice a3 A.vers.length c3] 33
 have K0 := (Below.refl w.heap.size w).alloc (Nat.le_refl _) (.cells #[.int .i64 A.camera, .slice a0 A.slots.length c0, .slice a1 A.guides.length c1, .slice a2 A.nodes.length c2, .slice a3 A.vers.length c3] 33)
 have hz0 : w.heap.size < (w.alloc (.cells #[.int .i64 A.camera, .slice a0 A.slots.length c0, .slice a1 A.guides.length c1, .slice a2 A.nodes.length c2, .slice a3 A.vers.length c3] 33)).heap.size := by simp
 have I0 := I.below (K0.mono hB)
 clear I
 obtain ⟨x0, x1, x2, x3, x4⟩ := row5 X0
 go_enter Tryd.func69, Tryd.ntmps69
 go_wp2
 clear x0 x1 x2 x3 x4
 generalize w.alloc (.cells #[.int .i64 A.camera, .slice a0 A.slots.length c0, .slice a1 A.guides.length c1, .slice a2 A.nodes.length c2, .slice a3 A.vers.length c3] 33) = w1 at X0 K0 hz0 I0 ⊢
 go_loopw [8] (fun i wr => ∃ k : Nat, k <= A.nodes.length /\ i = .int .i64 k /\ Hid (∀ j (h : j < A.nodes.length), j < k -> qz1r A.vers.length j A.nodes[j] = true) /\ Below w1.heap.size w1 wr) (fun i _ => A.nodes.length - (intOf i).toNat)
 case atStart => exact ⟨0, Nat.zero_le _, rfl, fun _ _ h => absurd h (by omega), Below.refl _ _⟩
 case round =>
  obtain ⟨k, hk, rfl, hall, bel⟩ := hrel
  obtain ⟨x0, x1, x2, x3, x4⟩ := row5 (qz0 X0 bel hz0)
  have KK := K0.trans (bel.mono (show w.heap.size <= w1.heap.size by omega))
  by_cases hlt : k < A.nodes.length
  ·obtain ⟨bb, off, rfl, hbb, R⟩ := qz8.at I0.n (by omega)
   have E := qz9 (sz := 3) (fun _ => rfl) (qz0 R (bel.mono (by omega)) hbb) k hlt
   have f2 : wr.cell? ⟨bb, off + k * 3 + 2, none⟩ = some (.int .i64 A.nodes[k].head) := E 2 _ rfl
   clear R
   have hlt' : (k : Int) < (A.nodes.length : Int) := by omega
   have hk0 : (0 : Int) <= (k : Int) := by omega
   obtain ⟨nm, hnm⟩ : ∃ nm : Bool, nm = (if ((k : Int) == 0) then (A.nodes[k].key == -1) && (A.nodes[k].value == 0) else inB A.nodes[k].key 0 63 && inB A.nodes[k].value 0 9999) := ⟨_, rfl⟩
   have hnd : qz1r A.vers.length k A.nodes[k] = (inB A.nodes[k].head 0 ((A.vers.length : Int) - 1) && nm) := by
    rw [hnm]
    unfold qz1r
    by_cases h0 : k = 0
    ·subst h0; simp [Bool.and_comm]
    ·have : ((k : Int) == 0) = false := by simp; omega
     rw [this, if_neg h0]; simp [Bool.and_comm]
   have hN : ∀ W : World, W.rangeAt bb (off + k * 3) (ndC A.nodes[k]) -> Calls Tryd.prog 85 #[.pointer (some ⟨bb, off + k * 3, none⟩), .bool ((k : Int) == 0)] W fun e w' => e = .returned (.bool nm) /\ w' = W := by
    intro W hW
    rw [hnm]
    exact qz6h bb (off + k * 3) A.nodes[k] _ W hW
   clear hnm
   cases e1 : inB A.nodes[k].head 0 ((A.vers.length : Int) - 1)
   ·have hq : qz1r A.vers.length k A.nodes[k] = false := by rw [hnd, e1]; rfl
    have hv : qzn (qz1r A.vers.length) A.nodes = false := qz18 (f := qz1r A.vers.length) hlt hq
    clear hq hnd hN
    go_wp2
    go_quiet (first | (go_at_call 53; exact Calls.quiet_of_same (qz7 _ _ _ _)) | (go_at_call 85; exact Calls.quiet_of_same (qz6h bb (off + k * 3) A.nodes[k] _ _ E)))
    go_wp2
    go_ret
    exact ⟨by rw [hv]; rfl, qz1c KK _⟩
   ·cases nm
    ·have hq : qz1r A.vers.length k A.nodes[k] = false := by rw [hnd, e1]; rfl
     have hv : qzn (qz1r A.vers.length) A.nodes = false := qz18 (f := qz1r A.vers.length) hlt hq
     clear hq hnd
     go_wp2
     go_quiet (first | (go_at_call 53; exact Calls.quiet_of_same (qz7 _ _ _ _)) | (go_at_call 85; exact Calls.quiet_of_same (hN _ E)))
     go_wp2
     go_ret
     exact ⟨by rw [hv]; rfl, qz1c KK _⟩
    ·have hq : qz1r A.vers.length k A.nodes[k] = true := by rw [hnd, e1]; rfl
     have hall' : Hid (∀ j (h : j < A.nodes.length), j < k + 1 -> qz1r A.vers.length j A.nodes[j] = true) := fun j h hj => by rcases Nat.lt_or_ge j k with hl | hl; exact hall.out j h hl; obtain rfl : j = k := (by omega); exact hq
     clear hq hnd
     go_wp2
     go_quiet (first | (go_at_call 53; exact Calls.quiet_of_same (qz7 _ _ _ _)) | (go_at_call 85; exact Calls.quiet_of_same (hN _ E)))
     go_wp2
     go_roundw
     case rel => exact ⟨k + 1, by omega, by go_num, hall', qz1c bel _⟩
     case measure => simp [intOf]; omega
  ·have hv : qzn (qz1r A.vers.length) A.nodes = true := (qzl (qz1r A.vers.length) A.nodes).2 (fun i h => hall.out i h (by omega))
   go_wp2
   go_ret
   exact ⟨by rw [hv]; rfl, KK⟩
theorem qz5d (B : Nat) (A : Ar) (a0 a1 a2 a3 : Option Addr) (c0 c1 c2 c3 : Nat) (w : World) (hB : B <= w.heap.size) (hA : A.size <= 1048576) (I : qzd B w (.slice a0 A.slots.length c0) (.slice a1 A.guides.length c1) (.slice a2 A.nodes.length c2) (.slice a3 A.vers.length c3) A) :
  Calls Tryd.prog 70 #[.agg #[.int .i64 A.camera, .slice a0 A.slots.length c0, .slice a1 A.guides.length c1, .slice a2 A.nodes.length c2, .slice a3 A.vers.length c3]] w fun e w' => e = .returned (.bool (qzn (verB A.nodes.length A.camera) A.vers)) /\ Below w.heap.size w w' := by
 unfold Ar.size at hA
 have X0 : World.rangeAt (w.alloc (.cells #[.int .i64 A.camera, .slice a0 A.slots.length c0, .slice a1 A.guides.length c1, .slice a2 A.nodes.length c2, .slice a3 A.vers.length c3] 33)) w.heap.size 0 [.int .i64 A.camera, .slice a0 A.slots.length c0, .slice a1 A.guides.length c1, .slice a2 A.nodes.length c2, .slice a3 A.vers.length c3] := qz6 w [.int .i64 A.camera, .slice a0 A.slots.length c0, .slice a1 A.guides.length c1, .slice a2 A.nodes.length c2, .slice a3 A.vers.length c3] 33
 have K0 := (Below.refl w.heap.size w).alloc (Nat.le_refl _) (.cells #[.int .i64 A.camera, .slice a0 A.slots.length c0, .slice a1 A.guides.length c1, .slice a2 A.nodes.length c2, .slice a3 A.vers.length c3] 33)
 have hz0 : w.heap.size < (w.alloc (.cells #[.int .i64 A.camera, .slice a0 A.slots.length c0, .slice a1 A.guides.length c1, .slice a2 A.nodes.length c2, .slice a3 A.vers.length c3] 33)).heap.size := by simp
 have I0 := I.below (K0.mono hB)
 clear I
 obtain ⟨x0, x1, x2, x3, x4⟩ := row5 X0
 go_enter Tryd.func70, Tryd.ntmps70
 go_wp2
 clear x0 x1 x2 x3 x4
 generalize w.alloc (.cells #[.int .i64 A.camera, .slice a0 A.slots.length c0, .slice a1 A.guides.length c1, .slice a2 A.nodes.length c2, .slice a3 A.vers.length c3] 33) = w1 at X0 K0 hz0 I0 ⊢
 go_loopw [7] (fun i wr => ∃ k : Nat, k <= A.vers.length /\ i = .int .i64 k /\ Hid (∀ j (h : j < A.vers.length), j < k -> verB A.nodes.length A.camera j A.vers[j] = true) /\ Below w1.heap.size w1 wr) (fun i _ => A.vers.length - (intOf i).toNat)
 case atStart => exact ⟨0, Nat.zero_le _, rfl, fun _ _ h => absurd h (by omega), Below.refl _ _⟩
 case round =>
  obtain ⟨k, hk, rfl, hall, bel⟩ := hrel
  obtain ⟨x0, x1, x2, x3, x4⟩ := row5 (qz0 X0 bel hz0)
  have KK := K0.trans (bel.mono (show w.heap.size <= w1.heap.size by omega))
  by_cases hlt : k < A.vers.length
  ·obtain ⟨bb, off, rfl, hbb, R⟩ := qz8.at I0.r (by omega)
   have E := qz9 (sz := 5) (fun _ => rfl) (qz0 R (bel.mono (by omega)) hbb) k hlt
   clear R
   have hlt' : (k : Int) < (A.vers.length : Int) := by omega
   have hk0 : (0 : Int) <= (k : Int) := by omega
   have hN : ∀ W : World, W.rangeAt bb (off + k * 5) (vrC A.vers[k]) -> Calls Tryd.prog 57 #[.pointer (some ⟨bb, off + k * 5, none⟩), .int .i64 k, .int .i64 A.camera, .int .i64 A.nodes.length] W fun e w' => e = .returned (.bool (verB A.nodes.length A.camera k A.vers[k])) /\ w' = W := by
    intro W hW
    rw [<- qz8n]
    exact qz3f bb (off + k * 5) A.vers[k] k A.camera A.nodes.length W (by omega) (by omega) (by omega) hW
   cases hq : verB A.nodes.length A.camera k A.vers[k]
   ·have hv : qzn (verB A.nodes.length A.camera) A.vers = false := qz18 (f := verB A.nodes.length A.camera) hlt hq
    rw [hq] at hN
    clear hq
    go_wp2
    go_quiet ((go_at_call 57; exact Calls.quiet_of_same (hN _ E)))
    go_wp2
    go_ret
    exact ⟨by rw [hv]; rfl, qz1c KK _⟩
   ·have hall' : Hid (∀ j (h : j < A.vers.length), j < k + 1 -> verB A.nodes.length A.camera j A.vers[j] = true) := fun j h hj => by rcases Nat.lt_or_ge j k with hl | hl; exact hall.out j h hl; obtain rfl : j = k := (by omega); exact hq
    rw [hq] at hN
    clear hq
    go_wp2
    go_quiet ((go_at_call 57; exact Calls.quiet_of_same (hN _ E)))
    go_wp2
    go_roundw
    case rel => exact ⟨k + 1, by omega, by go_num, hall', qz1c bel _⟩
    case measure => simp [intOf]; omega
  ·have hv : qzn (verB A.nodes.length A.camera) A.vers = true := (qzl (verB A.nodes.length A.camera) A.vers).2 (fun i h => hall.out i h (by omega))
   go_wp2
   go_ret
   exact ⟨by rw [hv]; rfl, KK⟩
def qz33 (x y z u : Int) (l0 l1 l2 l3 : Nat) : Bool := ((l0 : Int) == x) && ((l1 : Int) == u) && inB l2 1 y && inB l3 1 z
theorem qz8d (x y z u cam : Int) (a0 a1 a2 a3 : Option Addr) (l0 l1 l2 l3 c0 c1 c2 c3 : Nat) (w : World) (hA : l0 + l1 + l2 + l3 <= 1048576) :
  Calls Tryd.prog 66 #[.agg #[.int .i64 x, .int .i64 y, .int .i64 z, .int .i64 u], .agg #[.int .i64 cam, .slice a0 l0 c0, .slice a1 l1 c1, .slice a2 l2 c2, .slice a3 l3 c3]] w fun e w' => e = .returned (.bool (qz33 x y z u l0 l1 l2 l3)) /\ Below w.heap.size w w' := by
 have KK := ((Below.refl w.heap.size w).alloc (Nat.le_refl _) (.cells #[.int .i64 x, .int .i64 y, .int .i64 z, .int .i64 u] 36)).alloc (by simp) (.cells #[.int .i64 cam, .slice a0 l0 c0, .slice a1 l1 c1, .slice a2 l2 c2, .slice a3 l3 c3] 33)
 cases e1 : ((l0 : Int) == x)
 ·have hv : qz33 x y z u l0 l1 l2 l3 = false := by simp [qz33, e1]
  go_enter Tryd.func66, Tryd.ntmps66
  go_wp2_with (go_at_call 53; refine (qz7 _ _ _ _).mono ?_; rintro e w' ⟨rfl, hw⟩; obtain rfl := hw.symm)
  go_ret
  exact ⟨by rw [hv]; rfl, KK⟩
 cases e2 : ((l1 : Int) == u)
 ·have hv : qz33 x y z u l0 l1 l2 l3 = false := by simp [qz33, e2]
  go_enter Tryd.func66, Tryd.ntmps66
  go_wp2_with (go_at_call 53; refine (qz7 _ _ _ _).mono ?_; rintro e w' ⟨rfl, hw⟩; obtain rfl := hw.symm)
  go_ret
  exact ⟨by rw [hv]; rfl, KK⟩
 cases e3 : inB l2 1 y
 ·have hv : qz33 x y z u l0 l1 l2 l3 = false := by simp [qz33, e3]
  go_enter Tryd.func66, Tryd.ntmps66
  go_wp2_with (go_at_call 53; refine (qz7 _ _ _ _).mono ?_; rintro e w' ⟨rfl, hw⟩; obtain rfl := hw.symm)
  go_ret
  exact ⟨by rw [hv]; rfl, KK⟩
 ·have hv : qz33 x y z u l0 l1 l2 l3 = inB l3 1 z := by simp [qz33, e1, e2, e3]
  go_enter Tryd.func66, Tryd.ntmps66
  go_wp2_with (go_at_call 53; refine (qz7 _ _ _ _).mono ?_; rintro e w' ⟨rfl, hw⟩; obtain rfl := hw.symm)
  go_ret
  exact ⟨by rw [hv]; rfl, KK⟩
theorem qzw (x y z u : Int) (A : Ar) : qzi x y z u A = (qz2m x y z u && (qz33 x y z u A.slots.length A.guides.length A.nodes.length A.vers.length && (inB A.camera 0 100 && (qzn (fun _ v => inB v (-1) 100) A.slots && (qzn (fun _ v => inB v 0 ((A.nodes.length : Int) - 1)) A.guides && (qzn (qz1r A.vers.length) A.nodes && qzn (verB A.nodes.length A.camera) A.vers)))))) := by
 unfold qzi qz64 qz33
 cases qz2m x y z u <;> cases inB A.camera 0 100 <;> simp [Bool.and_assoc]
theorem qz74 (B : Nat) (A : Ar) (x y z u : Int) (a0 a1 a2 a3 : Option Addr) (c0 c1 c2 c3 : Nat) (w : World) (hB : B <= w.heap.size) (hA : A.size <= 1048576) (I : qzd B w (.slice a0 A.slots.length c0) (.slice a1 A.guides.length c1) (.slice a2 A.nodes.length c2) (.slice a3 A.vers.length c3) A) :
  Calls Tryd.prog 41 #[.agg #[.int .i64 x, .int .i64 y, .int .i64 z, .int .i64 u], .agg #[.int .i64 A.camera, .slice a0 A.slots.length c0, .slice a1 A.guides.length c1, .slice a2 A.nodes.length c2, .slice a3 A.vers.length c3]] w fun e w' => e = .returned (.bool (qzi x y z u A)) /\ Below w.heap.size w w' := by
 have hA' := hA
 unfold Ar.size at hA
 have P0 := (qz1h w x y z u 36).below ((Below.refl _ _).alloc (Nat.le_refl _) (.cells #[.int .i64 A.camera, .slice a0 A.slots.length c0, .slice a1 A.guides.length c1, .slice a2 A.nodes.length c2, .slice a3 A.vers.length c3] 33)) (by simp)
 have X0 : World.rangeAt ((w.alloc (.cells #[.int .i64 x, .int .i64 y, .int .i64 z, .int .i64 u] 36)).alloc (.cells #[.int .i64 A.camera, .slice a0 A.slots.length c0, .slice a1 A.guides.length c1, .slice a2 A.nodes.length c2, .slice a3 A.vers.length c3] 33)) (w.heap.size + 1) 0 [.int .i64 A.camera, .slice a0 A.slots.length c0, .slice a1 A.guides.length c1, .slice a2 A.nodes.length c2, .slice a3 A.vers.length c3] := by
  have h := qz6 (w.alloc (.cells #[.int .i64 x, .int .i64 y, .int .i64 z, .int .i64 u] 36)) [.int .i64 A.camera, .slice a0 A.slots.length c0, .slice a1 A.guides.length c1, .slice a2 A.nodes.length c2, .slice a3 A.vers.length c3] 33
  simp only [World.size_alloc] at h
  exact h
 have K0 := ((Below.refl w.heap.size w).alloc (Nat.le_refl _) (.cells #[.int .i64 x, .int .i64 y, .int .i64 z, .int .i64 u] 36)).alloc (by simp) (.cells #[.int .i64 A.camera, .slice a0 A.slots.length c0, .slice a1 A.guides.length c1, .slice a2 A.nodes.length c2, .slice a3 A.vers.length c3] 33)
 have hz0 : w.heap.size + 1 < ((w.alloc (.cells #[.int .i64 x, .int .i64 y, .int .i64 z, .int .i64 u] 36)).alloc (.cells #[.int .i64 A.camera, .slice a0 A.slots.length c0, .slice a1 A.guides.length c1, .slice a2 A.nodes.length c2, .slice a3 A.vers.length c3] 33)).heap.size := by simp
 have I0 := I.below (K0.mono hB)
 clear I
 go_enter Tryd.func41, Tryd.ntmps41
 go_wp2_with fail
 refine (qz7y _ _ _ _ _).mono ?_
 rintro e w1 ⟨rfl, b1⟩
 have P1 := P0.below b1 (by omega)
 have X1 := qz0 X0 b1 hz0
 have K1 := K0.trans (b1.mono (by omega))
 have I1 := I0.below (b1.mono (by omega))
 have hz1 := Nat.lt_of_lt_of_le hz0 b1.size
 clear P0 X0 K0 I0 b1
 have P1' := P1
 obtain ⟨p0, p1, p2, p3⟩ := P1'
 obtain ⟨x0, x1, x2, x3, x4⟩ := row5 X1
 cases h1 : qz2m x y z u
 ·have hv : qzi x y z u A = false := by simp only [qzw, h1, Bool.false_and]
  go_wp2_with fail
  go_ret
  exact ⟨by rw [hv]; rfl, K1⟩
 go_wp2_with fail
 clear p0 p1 p2 p3 x0 x1 x2 x3 x4
 refine (qz8d _ _ _ _ _ _ _ _ _ _ _ _ _ _ _ _ _ _ hA).mono ?_
 rintro e w2 ⟨rfl, b2⟩
 have P2 := P1.below b2 (by omega)
 have X2 := qz0 X1 b2 hz1
 have K2 := K1.trans (b2.mono (by omega))
 have I2 := I1.below (b2.mono (by omega))
 have hz2 := Nat.lt_of_lt_of_le hz1 b2.size
 clear P1 X1 K1 I1 b2
 have P2' := P2
 obtain ⟨p0, p1, p2, p3⟩ := P2'
 obtain ⟨x0, x1, x2, x3, x4⟩ := row5 X2
 cases h2 : qz33 x y z u A.slots.length A.guides.length A.nodes.length A.vers.length
 ·have hv : qzi x y z u A = false := by simp only [qzw, h2, Bool.and_false, Bool.false_and]
  go_wp2_with fail
  go_ret
  exact ⟨by rw [hv]; rfl, K2⟩
 cases h25 : inB A.camera 0 100
 ·have hv : qzi x y z u A = false := by simp only [qzw, h25, Bool.and_false, Bool.false_and]
  go_wp2_with (go_at_call 53; refine (qz7 _ _ _ _).mono ?_; rintro e w' ⟨rfl, hw⟩; obtain rfl := hw.symm)
  go_ret
  exact ⟨by rw [hv]; rfl, K2⟩
 go_wp2_with (go_at_call 53; refine (qz7 _ _ _ _).mono ?_; rintro e w' ⟨rfl, hw⟩; obtain rfl := hw.symm)
 clear p0 p1 p2 p3 x0 x1 x2 x3 x4
 refine (qz4y B _ A.slots _ (by omega) (by omega) I2.s).mono ?_
 rintro e w3 ⟨rfl, b3⟩
 have P3 := P2.below b3 (by omega)
 have X3 := qz0 X2 b3 hz2
 have K3 := K2.trans (b3.mono (by omega))
 have I3 := I2.below (b3.mono (by omega))
 have hz3 := Nat.lt_of_lt_of_le hz2 b3.size
 clear P2 X2 K2 I2 b3
 have P3' := P3
 obtain ⟨p0, p1, p2, p3⟩ := P3'
 obtain ⟨x0, x1, x2, x3, x4⟩ := row5 X3
 cases h3 : qzn (fun _ v => inB v (-1) 100) A.slots
 ·have hv : qzi x y z u A = false := by simp only [qzw, h3, Bool.and_false, Bool.false_and]
  go_wp2_with fail
  go_ret
  exact ⟨by rw [hv]; rfl, K3⟩
 go_wp2_with fail
 clear p0 p1 p2 p3 x0 x1 x2 x3 x4
 refine (qz3s B _ A.guides A.nodes.length _ (by omega) (by omega) (by omega) I3.g).mono ?_
 rintro e w4 ⟨rfl, b4⟩
 have P4 := P3.below b4 (by omega)
 have X4 := qz0 X3 b4 hz3
 have K4 := K3.trans (b4.mono (by omega))
 have I4 := I3.below (b4.mono (by omega))
 have hz4 := Nat.lt_of_lt_of_le hz3 b4.size
 clear P3 X3 K3 I3 b4
 have P4' := P4
 obtain ⟨p0, p1, p2, p3⟩ := P4'
 obtain ⟨x0, x1, x2, x3, x4⟩ := row5 X4
 cases h4 : qzn (fun _ v => inB v 0 ((A.nodes.length : Int) - 1)) A.guides
 ·have hv : qzi x y z u A = false := by simp only [qzw, h4, Bool.and_false, Bool.false_and]
  go_wp2_with fail
  go_ret
  exact ⟨by rw [hv]; rfl, K4⟩
 go_wp2_with fail
 clear p0 p1 p2 p3 x0 x1 x2 x3 x4
 refine (qz4m B A _ _ _ _ _ _ _ _ _ (by omega) hA' I4).mono ?_
 rintro e w5 ⟨rfl, b5⟩
 have P5 := P4.below b5 (by omega)
 have X5 := qz0 X4 b5 hz4
 have K5 := K4.trans (b5.mono (by omega))
 have I5 := I4.below (b5.mono (by omega))
 have hz5 := Nat.lt_of_lt_of_le hz4 b5.size
 clear P4 X4 K4 I4 b5
 have P5' := P5
 obtain ⟨p0, p1, p2, p3⟩ := P5'
 obtain ⟨x0, x1, x2, x3, x4⟩ := row5 X5
 cases h5 : qzn (qz1r A.vers.length) A.nodes
 ·have hv : qzi x y z u A = false := by simp only [qzw, h5, Bool.and_false, Bool.false_and]
  go_wp2_with fail
  go_ret
  exact ⟨by rw [hv]; rfl, K5⟩
 go_wp2_with fail
 clear p0 p1 p2 p3 x0 x1 x2 x3 x4
 refine (qz5d B A _ _ _ _ _ _ _ _ _ (by omega) hA' I5).mono ?_
 rintro e w6 ⟨rfl, b6⟩
 have K6 := K5.trans (b6.mono (by omega))
 have hv : qzi x y z u A = qzn (verB A.nodes.length A.camera) A.vers := by simp only [qzw, h1, h2, h25, h3, h4, h5, Bool.true_and]
 go_wp2_with fail
 go_ret
 exact ⟨by rw [hv]; rfl, K6⟩
end
end Go.Proofs.YtlfjhcdjgoeafaaDoor
