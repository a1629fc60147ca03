/-
  What the law's proof goes by, part 5.
-/
import Derived.Test.YthjkdnlmopafkaaGreatDoorFnSwappedCard00
import Derived.Test.YthjkdnlmopafkaaGreatDoorFnSwappedCard01
namespace Go.Proofs.YthjkdnlmopafkaaGreatDoor
open Go.ChangeShapes Go.WideShapes Go.ChangeAt Go.RowKit
set_option maxRecDepth 100000
set_option maxHeartbeats 16000000
set_option linter.unusedVariables false
set_option linter.unusedSimpArgs false
set_option linter.unnecessarySimpa false
set_option linter.unusedSectionVars false
section
attribute [local go_sem ↓] Go.wp_at_zero Go.wp_at_succ
def qz46 (nv : Int) (i : Nat) (x : Nd) : Bool :=
 if i = 0 then (x.key == -1) && (x.value == 0) && inB x.head 0 (nv - 1) else inB x.key 0 63 && inB x.value 0 9999 && inB x.head 0 (nv - 1)
def verB (nn cam : Int) (i : Nat) (v : Vr) : Bool :=
 ((v.next == -1) || inB v.next 1 (nn - 1)) && inB v.stamp (-1) cam && inB v.prev (-1) ((i : Int) - 1) && inB v.kind 0 2
theorem qz1a (n : Int) (w : World) : Calls Tryz.prog 43 #[.int .i64 n] w fun e w' => e = .returned (.bool (inB n 0 100)) /\ w' = w := by
 go_enter Tryz.func43, Tryz.ntmps43
 go_wp2_with (go_at_call 44; refine (qzd _ _ _ _).mono ?_; rintro e w' ⟨rfl, rfl⟩)
 go_ret
 exact ⟨rfl, rfl⟩
theorem qz3v (cam : Int) (s g r : Value) (a : Option Addr) (len cap : Nat) (n : Int) (w : World) (hl : len <= 1048576) :
  Calls Tryz.prog 45 #[.agg #[.int .i64 cam, s, g, .slice a len cap, r], .int .i64 n] w fun e w' => e = .returned (.bool (inB n 0 (len - 1))) /\ Below Q6o w w' := by
 go_enter Tryz.func45, Tryz.ntmps45
 go_wp2_with (go_at_call 44; refine (qzd _ _ _ _).mono ?_; rintro e w' ⟨rfl, rfl⟩)
 go_ret
 exact ⟨rfl, (Q6s _ _).alloc (Q6v _) _⟩
theorem qz2q (cam : Int) (s g n : Value) (a : Option Addr) (len cap : Nat) (v : Int) (w : World) (hl : len <= 1048576) :
  Calls Tryz.prog 87 #[.agg #[.int .i64 cam, s, g, n, .slice a len cap], .int .i64 v] w fun e w' => e = .returned (.bool (inB v 0 (len - 1))) /\ Below Q6o w w' := by
 go_enter Tryz.func87, Tryz.ntmps87
 go_wp2_with (go_at_call 44; refine (qzd _ _ _ _).mono ?_; rintro e w' ⟨rfl, rfl⟩)
 go_ret
 exact ⟨rfl, (Q6s _ _).alloc (Q6v _) _⟩
theorem qz75 (cam : Int) (s g : Value) (bb off len cap : Nat) (a4 : Option Addr) (n4 c4 : Nat) (x : Nd) (i : Nat) (w : World) (hl : len <= 1048576) (h4 : n4 <= 1048576) (hi : i < len) (hb : bb < Q6o) (R : w.rangeAt bb (off + i * 3) (ndC x)) :
  Calls Tryz.prog 46 #[.agg #[.int .i64 cam, s, g, .slice (some ⟨bb, off, none⟩) len cap, .slice a4 n4 c4], .int .i64 i] w fun e w' => e = .returned (.bool (qz46 n4 i x)) /\ Below Q6o w w' := by
 have hi' : (i : Int) < (len : Int) := by omega
 have f0 : ∀ o : Obj, (w.alloc o).cell? ⟨bb, off + i * 3, none⟩ = some (.int .i64 x.key) := fun o => (World.cell?_alloc_lt _ _ _ hb).trans (R 0 _ rfl)
 have f1 : ∀ o : Obj, (w.alloc o).cell? ⟨bb, off + i * 3 + 1, none⟩ = some (.int .i64 x.value) := fun o => (World.cell?_alloc_lt _ _ _ hb).trans (R 1 _ rfl)
 have f2 : ∀ o : Obj, (w.alloc o).cell? ⟨bb, off + i * 3 + 2, none⟩ = some (.int .i64 x.head) := fun o => (World.cell?_alloc_lt _ _ _ hb).trans (R 2 _ rfl)
 clear R
 by_cases h0 : i = 0
 ·have hi0 : ((i : Int) == 0) = true := by simp; omega
  cases e1 : (x.key == -1)
  ·have hv : qz46 n4 i x = false := by simp [qz46, h0, e1]
   clear h0
   go_enter Tryz.func46, Tryz.ntmps46
   go_wp2_with (first | (go_at_call 44; refine (qzd _ _ _ _).mono ?_; rintro e w' ⟨rfl, rfl⟩) | (go_at_call 68; refine (qzr _ _).mono ?_; rintro e w' ⟨rfl, rfl⟩))
   go_ret
   exact ⟨by rw [hv]; rfl, (((Q6s _ _).alloc (Q6v _) _).alloc (by simp) _)⟩
  ·cases e2 : (x.value == 0)
   ·have hv : qz46 n4 i x = false := by simp [qz46, h0, e2]
    clear h0
    go_enter Tryz.func46, Tryz.ntmps46
    go_wp2_with (first | (go_at_call 44; refine (qzd _ _ _ _).mono ?_; rintro e w' ⟨rfl, rfl⟩) | (go_at_call 68; refine (qzr _ _).mono ?_; rintro e w' ⟨rfl, rfl⟩))
    go_ret
    exact ⟨by rw [hv]; rfl, (((Q6s _ _).alloc (Q6v _) _).alloc (by simp) _)⟩
   ·have hv : qz46 n4 i x = inB x.head 0 (n4 - 1) := by simp [qz46, h0, e1, e2]
    clear h0
    go_enter Tryz.func46, Tryz.ntmps46
    go_wp2_with (first | (go_at_call 44; refine (qzd _ _ _ _).mono ?_; rintro e w' ⟨rfl, rfl⟩) | (go_at_call 68; refine (qzr _ _).mono ?_; rintro e w' ⟨rfl, rfl⟩) | (go_at_call 87; refine (qz2q _ _ _ _ _ _ _ _ _ h4).mono ?_; rintro e w2 ⟨rfl, b2⟩))
    go_ret
    exact ⟨by rw [hv]; rfl, (((Q6s _ _).alloc (Q6v _) _).alloc (by simp) _).trans (b2.mono (by simp; omega))⟩
 ·have hi0 : ((i : Int) == 0) = false := by simp; omega
  cases e1 : inB x.key 0 63
  ·have hv : qz46 n4 i x = false := by simp [qz46, h0, e1]
   go_enter Tryz.func46, Tryz.ntmps46
   go_wp2_with (first | (go_at_call 44; refine (qzd _ _ _ _).mono ?_; rintro e w' ⟨rfl, rfl⟩) | (go_at_call 68; refine (qzr _ _).mono ?_; rintro e w' ⟨rfl, rfl⟩))
   go_ret
   exact ⟨by rw [hv]; rfl, (((Q6s _ _).alloc (Q6v _) _).alloc (by simp) _)⟩
  ·cases e2 : inB x.value 0 9999
   ·have hv : qz46 n4 i x = false := by simp [qz46, h0, e2]
    go_enter Tryz.func46, Tryz.ntmps46
    go_wp2_with (first | (go_at_call 44; refine (qzd _ _ _ _).mono ?_; rintro e w' ⟨rfl, rfl⟩) | (go_at_call 68; refine (qzr _ _).mono ?_; rintro e w' ⟨rfl, rfl⟩))
    go_ret
    exact ⟨by rw [hv]; rfl, (((Q6s _ _).alloc (Q6v _) _).alloc (by simp) _)⟩
   ·have hv : qz46 n4 i x = inB x.head 0 (n4 - 1) := by simp [qz46, h0, e1, e2]
    go_enter Tryz.func46, Tryz.ntmps46
    go_wp2_with (first | (go_at_call 44; refine (qzd _ _ _ _).mono ?_; rintro e w' ⟨rfl, rfl⟩) | (go_at_call 68; refine (qzr _ _).mono ?_; rintro e w' ⟨rfl, rfl⟩) | (go_at_call 87; refine (qz2q _ _ _ _ _ _ _ _ _ h4).mono ?_; rintro e w2 ⟨rfl, b2⟩))
    go_ret
    exact ⟨by rw [hv]; rfl, (((Q6s _ _).alloc (Q6v _) _).alloc (by simp) _).trans (b2.mono (by simp; omega))⟩
theorem qz7x (cam : Int) (s g : Value) (bb off len cap : Nat) (a3 : Option Addr) (n3 c3 : Nat) (x : Vr) (i : Nat) (w : World) (hl : len <= 1048576) (h3 : n3 <= 1048576) (hi : i < len) (hb : bb < Q6o) (R : w.rangeAt bb (off + i * 5) (vrC x)) :
  Calls Tryz.prog 47 #[.agg #[.int .i64 cam, s, g, .slice a3 n3 c3, .slice (some ⟨bb, off, none⟩) len cap], .int .i64 i] w fun e w' => e = .returned (.bool (verB n3 cam i x)) /\ Below Q6o w w' := by
 have hi' : (i : Int) < (len : Int) := by omega
 have f0 : ∀ o : Obj, (w.alloc o).cell? ⟨bb, off + i * 5, none⟩ = some (.int .i64 x.next) := fun o => (World.cell?_alloc_lt _ _ _ hb).trans (R 0 _ rfl)
 have f1 : ∀ o : Obj, (w.alloc o).cell? ⟨bb, off + i * 5 + 1, none⟩ = some (.bool x.gone) := fun o => (World.cell?_alloc_lt _ _ _ hb).trans (R 1 _ rfl)
 have f2 : ∀ o : Obj, (w.alloc o).cell? ⟨bb, off + i * 5 + 2, none⟩ = some (.int .i64 x.stamp) := fun o => (World.cell?_alloc_lt _ _ _ hb).trans (R 2 _ rfl)
 have f3 : ∀ o : Obj, (w.alloc o).cell? ⟨bb, off + i * 5 + 3, none⟩ = some (.int .i64 x.prev) := fun o => (World.cell?_alloc_lt _ _ _ hb).trans (R 3 _ rfl)
 have f4 : ∀ o : Obj, (w.alloc o).cell? ⟨bb, off + i * 5 + 4, none⟩ = some (.int .i64 x.kind) := fun o => (World.cell?_alloc_lt _ _ _ hb).trans (R 4 _ rfl)
 clear R
 cases e1 : (x.next == -1)
 ·cases e1b : inB x.next 1 ((n3 : Int) - 1)
  ·have hv : verB n3 cam i x = false := by simp [verB, e1, e1b]
   go_enter Tryz.func47, Tryz.ntmps47
   go_wp2_with (go_at_call 44; refine (qzd _ _ _ _).mono ?_; rintro e w' ⟨rfl, rfl⟩)
   go_ret
   exact ⟨by rw [hv]; rfl, (((Q6s _ _).alloc (Q6v _) _).alloc (by simp) _)⟩
  ·cases e2 : inB x.stamp (-1) cam
   ·have hv : verB n3 cam i x = false := by simp [verB, e2]
    go_enter Tryz.func47, Tryz.ntmps47
    go_wp2_with (go_at_call 44; refine (qzd _ _ _ _).mono ?_; rintro e w' ⟨rfl, rfl⟩)
    go_ret
    exact ⟨by rw [hv]; rfl, (((Q6s _ _).alloc (Q6v _) _).alloc (by simp) _)⟩
   ·cases e3 : inB x.prev (-1) ((i : Int) - 1)
    ·have hv : verB n3 cam i x = false := by simp [verB, e3]
     go_enter Tryz.func47, Tryz.ntmps47
     go_wp2_with (go_at_call 44; refine (qzd _ _ _ _).mono ?_; rintro e w' ⟨rfl, rfl⟩)
     go_ret
     exact ⟨by rw [hv]; rfl, (((Q6s _ _).alloc (Q6v _) _).alloc (by simp) _)⟩
    ·have hv : verB n3 cam i x = inB x.kind 0 2 := by simp [verB, e1b, e2, e3]
     go_enter Tryz.func47, Tryz.ntmps47
     go_wp2_with (go_at_call 44; refine (qzd _ _ _ _).mono ?_; rintro e w' ⟨rfl, rfl⟩)
     go_ret
     exact ⟨by rw [hv]; rfl, (((Q6s _ _).alloc (Q6v _) _).alloc (by simp) _)⟩
 ·cases e2 : inB x.stamp (-1) cam
  ·have hv : verB n3 cam i x = false := by simp [verB, e2]
   go_enter Tryz.func47, Tryz.ntmps47
   go_wp2_with (go_at_call 44; refine (qzd _ _ _ _).mono ?_; rintro e w' ⟨rfl, rfl⟩)
   go_ret
   exact ⟨by rw [hv]; rfl, (((Q6s _ _).alloc (Q6v _) _).alloc (by simp) _)⟩
  ·cases e3 : inB x.prev (-1) ((i : Int) - 1)
   ·have hv : verB n3 cam i x = false := by simp [verB, e3]
    go_enter Tryz.func47, Tryz.ntmps47
    go_wp2_with (go_at_call 44; refine (qzd _ _ _ _).mono ?_; rintro e w' ⟨rfl, rfl⟩)
    go_ret
    exact ⟨by rw [hv]; rfl, (((Q6s _ _).alloc (Q6v _) _).alloc (by simp) _)⟩
   ·have hv : verB n3 cam i x = inB x.kind 0 2 := by simp [verB, e1, e2, e3]
    go_enter Tryz.func47, Tryz.ntmps47
    go_wp2_with (go_at_call 44; refine (qzd _ _ _ _).mono ?_; rintro e w' ⟨rfl, rfl⟩)
    go_ret
    exact ⟨by rw [hv]; rfl, (((Q6s _ _).alloc (Q6v _) _).alloc (by simp) _)⟩
def qz2l {α : Type} (f : Nat -> α -> Bool) (l : List α) : Bool := l.zipIdx.all fun p => f p.2 p.1
theorem qz1k {α : Type} (f : Nat -> α -> Bool) (l : List α) : qz2l f l = true ↔ ∀ i (h : i < l.length), f i l[i] = true := by
 unfold qz2l
 rw [List.all_eq_true]
 constructor
 ·intro h i hi
  exact h (l[i], i) (by rw [List.mem_zipIdx_iff_getElem?]; simp [hi])
 ·rintro h ⟨x, i⟩ hm
  rw [List.mem_zipIdx_iff_getElem?] at hm
  obtain ⟨hi, e⟩ := List.getElem?_eq_some_iff.1 hm
  have := h i hi
  rw [e] at this
  exact this
theorem qz3t {α : Type} {f : Nat -> α -> Bool} {l : List α} {i : Nat} (hi : i < l.length) (h : f i l[i] = false) : qz2l f l = false := by
 cases e : qz2l f l
 ·rfl
 ·have := (qz1k f l).1 e i hi
  rw [h] at this
  cases this
def qz6r (x y z u : Int) (A : Ar) : Bool :=
 qz3w x y z u && inB Q6w 0 100 && ((Q74 : Int) == x) && ((Q75 : Int) == u) && inB Q6q 1 y && inB Q6r 1 z
def qz10 (x y z u : Int) (A : Ar) : Bool :=
 qz6r x y z u A && qz2l (fun _ v => inB v (-1) 100) A.slots && qz2l (fun _ v => inB v 0 ((Q6q : Int) - 1)) A.guides && qz2l (qz46 Q6r) A.nodes && qz2l (verB Q6q Q6w) A.vers
theorem qzu.at {B : Nat} {w : World} {a : Option Addr} {len cap : Nat} {cs : List Value} (S : qzu B w (.slice a len cap) len cs) (hp : 0 < len) : ∃ bb off, a = some ⟨bb, off, none⟩ /\ bb < B /\ w.rangeAt bb off cs := by
 obtain ⟨a', cap', e, h⟩ := S
 injection e with e1 _ _
 subst e1
 rcases h with h | h
 ·omega
 ·exact h
theorem qz35 (B : Nat) (A : Ar) (x y z u : Int) (a0 a1 a2 a3 : Option Addr) (c0 c1 c2 c3 : Nat) (w : World) (hB : B <= Q6o) (hA : A.size <= 1048576) (I : qz1j B w Q0x Q0w Q0t Q11 A) :
  Calls Tryz.prog 12 #[.agg Q06, .agg Q02] w fun e w' => e = .returned (.bool (qz10 x y z u A)) /\ Below Q6o w w' := by
 unfold Ar.size at hA
 have P0 := (qz1q w x y z u 25).below ((Q6s _ _).alloc (Q6v _) (.cells Q02 30)) (by simp)
 have X0 : World.rangeAt Q1s (Q6o + 1) 0 Q0j := by
  have h := qz6 Q44 Q0j 30
  simp only [World.size_alloc] at h
  exact h
 have K0 := ((Q6s Q6o w).alloc (Q6v _) (.cells Q06 25)).alloc (by simp) (.cells Q02 30)
 have hz0 : Q6o + 1 < (Q1s).heap.size := by simp
 go_enter Tryz.func12, Tryz.ntmps12
 go_wp2_with fail
 refine (qz1y _ _ _ _ _).mono ?_
 rintro e w1 ⟨rfl, b1⟩
 have P1 := P0.below b1 (by omega)
 have X1 := qz0 X0 b1 hz0
 have K1 := K0.trans (b1.mono (by omega))
 have I1 := I.below (K1.mono hB)
 have hz1 := Q72 hz0 b1.size
 clear P0 X0 K0 I b1 hz0
 have P1' := P1
 obtain ⟨p0, p1, p2, p3⟩ := P1'
 obtain ⟨x0, x1, x2, x3, x4⟩ := row5 X1
 cases h1 : qz3w x y z u
 ·have hv : qz10 x y z u A = false := by simp [qz10, qz6r, h1]
  go_wp2_with (first | (go_at_call 43; refine (qz1a _ _).mono ?_; rintro e w' ⟨rfl, hw⟩; obtain rfl := hw.symm) | (go_at_call 44; refine (qzd _ _ _ _).mono ?_; rintro e w' ⟨rfl, hw⟩; obtain rfl := hw.symm))
  go_ret
  exact ⟨by rw [hv]; rfl, K1⟩
 cases h2 : inB Q6w 0 100
 ·have hv : qz10 x y z u A = false := by simp [qz10, qz6r, h2]
  go_wp2_with (first | (go_at_call 43; refine (qz1a _ _).mono ?_; rintro e w' ⟨rfl, hw⟩; obtain rfl := hw.symm) | (go_at_call 44; refine (qzd _ _ _ _).mono ?_; rintro e w' ⟨rfl, hw⟩; obtain rfl := hw.symm))
  go_ret
  exact ⟨by rw [hv]; rfl, K1⟩
 by_cases h3 : (Q74 : Int) = x
 case neg =>
  have h3' : ((Q74 : Int) != x) = true := by simpa using h3
  have h3b : ((Q74 : Int) == x) = false := by simpa using h3
  have hv : qz10 x y z u A = false := by simp [qz10, qz6r, h3b]
  go_wp2_with (first | (go_at_call 43; refine (qz1a _ _).mono ?_; rintro e w' ⟨rfl, hw⟩; obtain rfl := hw.symm) | (go_at_call 44; refine (qzd _ _ _ _).mono ?_; rintro e w' ⟨rfl, hw⟩; obtain rfl := hw.symm))
  go_ret
  exact ⟨by rw [hv]; rfl, K1⟩
 have h3' : ((Q74 : Int) != x) = false := by simpa using h3
 by_cases h4 : (Q75 : Int) = u
 case neg =>
  have h4' : ((Q75 : Int) != u) = true := by simpa using h4
  have h4b : ((Q75 : Int) == u) = false := by simpa using h4
  have hv : qz10 x y z u A = false := by simp [qz10, qz6r, h4b]
  go_wp2_with (first | (go_at_call 43; refine (qz1a _ _).mono ?_; rintro e w' ⟨rfl, hw⟩; obtain rfl := hw.symm) | (go_at_call 44; refine (qzd _ _ _ _).mono ?_; rintro e w' ⟨rfl, hw⟩; obtain rfl := hw.symm))
  go_ret
  exact ⟨by rw [hv]; rfl, K1⟩
 have h4' : ((Q75 : Int) != u) = false := by simpa using h4
 cases h5 : inB Q6q 1 y
 ·have h35 : qz10 x y z u A = false := by simp [qz10, qz6r, h5]
  have H3 : Hid _ := h3
  have H4 : Hid _ := h4
  clear h3 h4
  go_wp2_with (first | (go_at_call 43; refine (qz1a _ _).mono ?_; rintro e w' ⟨rfl, hw⟩; obtain rfl := hw.symm) | (go_at_call 44; refine (qzd _ _ _ _).mono ?_; rintro e w' ⟨rfl, hw⟩; obtain rfl := hw.symm))
  go_ret
  exact ⟨by rw [h35]; rfl, K1⟩
 cases h6 : inB Q6r 1 z
 ·have h36 : qz10 x y z u A = false := by simp [qz10, qz6r, h6]
  clear h3 h4
  go_wp2_with (first | (go_at_call 43; refine (qz1a _ _).mono ?_; rintro e w' ⟨rfl, hw⟩; obtain rfl := hw.symm) | (go_at_call 44; refine (qzd _ _ _ _).mono ?_; rintro e w' ⟨rfl, hw⟩; obtain rfl := hw.symm))
  go_ret
  exact ⟨by rw [h36]; rfl, K1⟩
 have hh : qz6r x y z u A = true := by simp [qz6r, h1, h2, h3, h4, h5, h6]
 clear h3 h4
 go_wp2_with (first | (go_at_call 43; refine (qz1a _ _).mono ?_; rintro e w' ⟨rfl, hw⟩; obtain rfl := hw.symm) | (go_at_call 44; refine (qzd _ _ _ _).mono ?_; rintro e w' ⟨rfl, hw⟩; obtain rfl := hw.symm))
 clear x0 x1 x2 x3 x4 p0 p1 p2 p3 P1 h1 h2 h3' h4' h5 h6
 go_loopw [5] (fun i wr => ∃ k : Nat, k <= Q74 /\ i = .int .i64 k /\ Hid (∀ j (h : j < Q74), j < k -> inB A.slots[j] (-1) 100 = true) /\ Below Q6y w1 wr) (fun i _ => Q74 - (intOf i).toNat)
 case atStart => exact ⟨0, Nat.zero_le _, rfl, fun _ _ h => absurd h (by omega), Q6s _ _⟩
 case round =>
  obtain ⟨k, hk, rfl, hall, bel⟩ := hrel
  obtain ⟨x0, x1, x2, x3, x4⟩ := row5 (qz0 X1 bel hz1)
  have KK := K1.trans (bel.mono (show Q6o <= Q6y by omega))
  by_cases hlt : k < Q74
  ·obtain ⟨bb, off, rfl, hbb, R⟩ := qzu.at I1.s (by omega)
   have hlt' : (k : Int) < (Q74 : Int) := by omega
   have hk0 : (0 : Int) <= (k : Int) := by omega
   have hc : wr.cell? ⟨bb, off + k, none⟩ = some (.int .i64 A.slots[k]) := (qz0 R (bel.mono (by omega)) hbb) k (.int .i64 A.slots[k]) (by have := qzy (f := intC) (sz := 1) (fun _ => rfl) A.slots k hlt 0 (by omega); simpa [intC] using this)
   clear R
   cases hq : inB A.slots[k] (-1) 100
   ·have hv : qz10 x y z u A = false := by simp [qz10, qz3t (f := (fun _ v => inB v (-1) 100)) hlt hq]
    go_wp2_with (go_at_call 44; refine (qzd _ _ _ _).mono ?_; rintro e w' ⟨rfl, hw⟩; obtain rfl := hw.symm)
    go_ret
    exact ⟨by rw [hv]; rfl, KK⟩
   ·have hall' : Hid (∀ j (h : j < Q74), j < k + 1 -> inB A.slots[j] (-1) 100 = true) := fun j h hj => by rcases Nat.lt_or_ge j k with hl | hl; exact hall.out j h hl; obtain rfl : j = k := (by omega); exact hq
    go_wp2_with (go_at_call 44; refine (qzd _ _ _ _).mono ?_; rintro e w' ⟨rfl, hw⟩; obtain rfl := hw.symm)
    go_roundw
    case rel => exact ⟨k + 1, by omega, by go_num, hall', bel⟩
    case measure => simp [intOf]; omega
  ·have hs0 : Hid (qz2l (fun _ v => inB v (-1) 100) A.slots = true) := (qz1k (fun _ v => inB v (-1) 100) A.slots).2 (fun i h => hall.out i h (by omega))
   clear hall
   have bel0 := bel
   clear bel
   obtain ⟨wo0, rfl⟩ : ∃ wo : World, wo = wr := ⟨_, rfl⟩
   go_wp2
   clear x0 x1 x2 x3 x4 KK hlt
   go_loopw [6] (fun i wr => ∃ k : Nat, k <= Q75 /\ i = .int .i64 k /\ Hid (∀ j (h : j < Q75), j < k -> inB A.guides[j] 0 ((Q6q : Int) - 1) = true) /\ Below Q6y w1 wr) (fun i _ => Q75 - (intOf i).toNat)
   case atStart => exact ⟨0, Nat.zero_le _, rfl, fun _ _ h => absurd h (by omega), bel0⟩
   case round =>
    obtain ⟨k, hk, rfl, hall, bel⟩ := hrel
    obtain ⟨x0, x1, x2, x3, x4⟩ := row5 (qz0 X1 bel hz1)
    have KK := K1.trans (bel.mono (show Q6o <= Q6y by omega))
    by_cases hlt : k < Q75
    ·obtain ⟨bb, off, rfl, hbb, R⟩ := qzu.at I1.g (by omega)
     have hlt' : (k : Int) < (Q75 : Int) := by omega
     have hk0 : (0 : Int) <= (k : Int) := by omega
     have hc : wr.cell? ⟨bb, off + k, none⟩ = some (.int .i64 A.guides[k]) := (qz0 R (bel.mono (by omega)) hbb) k (.int .i64 A.guides[k]) (by have := qzy (f := intC) (sz := 1) (fun _ => rfl) A.guides k hlt 0 (by omega); simpa [intC] using this)
     clear R
     cases hq : inB A.guides[k] 0 ((Q6q : Int) - 1)
     ·have hv : qz10 x y z u A = false := by simp [qz10, qz3t (f := (fun _ v => inB v 0 ((A.nodes.length : Int) - 1))) hlt hq]
      go_wp2
      go_region_held3 (fun w' => w'.cell? ⟨Q6o + 1, 0, none⟩ = some (.int .i64 Q6w) /\ w'.cell? ⟨Q6o + 1, 1, none⟩ = some Q0x /\ w'.cell? ⟨Q6o + 1, 2, none⟩ = some (.slice (some ⟨bb, off, none⟩) Q75 c1) /\ w'.cell? ⟨Q6o + 1, 3, none⟩ = some Q0t /\ w'.cell? ⟨Q6o + 1, 4, none⟩ = some Q11 /\ w'.cell? ⟨bb, off + k, none⟩ = some (.int .i64 A.guides[k])) (go_keep) ((go_at_call 45; refine (qz3v _ _ _ _ _ _ _ _ _ (by omega)).mono ?_; rintro e w2 ⟨rfl, b2⟩; have bel2 : Below Q6y w1 w2 := bel.drew.trans (b2.mono (by exact bel.size)); obtain ⟨y0, y1, y2, y3, y4⟩ := row5 (qz0 X1 bel2 hz1); have hc2 : w2.cell? ⟨bb, off + k, none⟩ = some (.int .i64 A.guides[k]) := (b2.cell (p := ⟨bb, off + k, none⟩) (by have := bel.size; show bb < wr.heap.size; omega)).trans hc))
      go_wp2
      go_ret
      exact ⟨by rw [hv]; rfl, (K1.trans (bel2.mono (show Q6o <= Q6y by omega)))⟩
     ·have hall' : Hid (∀ j (h : j < Q75), j < k + 1 -> inB A.guides[j] 0 ((Q6q : Int) - 1) = true) := fun j h hj => by rcases Nat.lt_or_ge j k with hl | hl; exact hall.out j h hl; obtain rfl : j = k := (by omega); exact hq
      go_wp2
      go_region_held3 (fun w' => w'.cell? ⟨Q6o + 1, 0, none⟩ = some (.int .i64 Q6w) /\ w'.cell? ⟨Q6o + 1, 1, none⟩ = some Q0x /\ w'.cell? ⟨Q6o + 1, 2, none⟩ = some (.slice (some ⟨bb, off, none⟩) Q75 c1) /\ w'.cell? ⟨Q6o + 1, 3, none⟩ = some Q0t /\ w'.cell? ⟨Q6o + 1, 4, none⟩ = some Q11 /\ w'.cell? ⟨bb, off + k, none⟩ = some (.int .i64 A.guides[k])) (go_keep) ((go_at_call 45; refine (qz3v _ _ _ _ _ _ _ _ _ (by omega)).mono ?_; rintro e w2 ⟨rfl, b2⟩; have bel2 : Below Q6y w1 w2 := bel.drew.trans (b2.mono (by exact bel.size)); obtain ⟨y0, y1, y2, y3, y4⟩ := row5 (qz0 X1 bel2 hz1); have hc2 : w2.cell? ⟨bb, off + k, none⟩ = some (.int .i64 A.guides[k]) := (b2.cell (p := ⟨bb, off + k, none⟩) (by have := bel.size; show bb < wr.heap.size; omega)).trans hc))
      go_wp2
      go_roundw
      case rel => exact ⟨k + 1, by omega, by go_num, hall', bel2⟩
      case measure => simp [intOf]; omega
    ·have hs1 : Hid (qz2l (fun _ v => inB v 0 ((Q6q : Int) - 1)) A.guides = true) := (qz1k (fun _ v => inB v 0 ((Q6q : Int) - 1)) A.guides).2 (fun i h => hall.out i h (by omega))
     clear hall
     have bel1 := bel
     clear bel
     obtain ⟨wo1, rfl⟩ : ∃ wo : World, wo = wr := ⟨_, rfl⟩
     go_wp2
     clear x0 x1 x2 x3 x4 KK hlt
     go_loopw [7] (fun i wr => ∃ k : Nat, k <= Q6q /\ i = .int .i64 k /\ Hid (∀ j (h : j < Q6q), j < k -> qz46 Q6r j A.nodes[j] = true) /\ Below Q6y w1 wr) (fun i _ => Q6q - (intOf i).toNat)
     case atStart => exact ⟨0, Nat.zero_le _, rfl, fun _ _ h => absurd h (by omega), bel1⟩
     case round =>
      obtain ⟨k, hk, rfl, hall, bel⟩ := hrel
      obtain ⟨x0, x1, x2, x3, x4⟩ := row5 (qz0 X1 bel hz1)
      have KK := K1.trans (bel.mono (show Q6o <= Q6y by omega))
      by_cases hlt : k < Q6q
      ·obtain ⟨bb, off, rfl, hbb, R⟩ := qzu.at I1.n (by omega)
       have hlt' : (k : Int) < (Q6q : Int) := by omega
       have hk0 : (0 : Int) <= (k : Int) := by omega
       have E := qzi (sz := 3) (fun _ => rfl) (qz0 R (bel.mono (by omega)) hbb) k hlt
       clear R
       cases hq : qz46 Q6r k A.nodes[k]
       ·have hv : qz10 x y z u A = false := by simp [qz10, qz3t (f := (qz46 A.vers.length)) hlt hq]
        go_wp2_with fail
        refine (qz75 _ _ _ bb off _ _ _ _ _ A.nodes[k] k _ (by omega) (by omega) hlt (by have := bel.size; omega) E).mono ?_
        rintro e w2 ⟨rfl, b2⟩
        have bel2 : Below Q6y w1 w2 := bel.trans (b2.mono bel.size)
        rw [hq]
        go_wp2
        go_ret
        exact ⟨by rw [hv]; rfl, (K1.trans (bel2.mono (show Q6o <= Q6y by omega)))⟩
       ·have hall' : Hid (∀ j (h : j < Q6q), j < k + 1 -> qz46 Q6r j A.nodes[j] = true) := fun j h hj => by rcases Nat.lt_or_ge j k with hl | hl; exact hall.out j h hl; obtain rfl : j = k := (by omega); exact hq
        go_wp2_with fail
        refine (qz75 _ _ _ bb off _ _ _ _ _ A.nodes[k] k _ (by omega) (by omega) hlt (by have := bel.size; omega) E).mono ?_
        rintro e w2 ⟨rfl, b2⟩
        have bel2 : Below Q6y w1 w2 := bel.trans (b2.mono bel.size)
        rw [hq]
        go_wp2
        go_roundw
        case rel => exact ⟨k + 1, by omega, by go_num, hall', bel2⟩
        case measure => simp [intOf]; omega
      ·have hs2 : Hid (qz2l (qz46 Q6r) A.nodes = true) := (qz1k (qz46 Q6r) A.nodes).2 (fun i h => hall.out i h (by omega))
       clear hall
       have bel2 := bel
       clear bel
       obtain ⟨wo2, rfl⟩ : ∃ wo : World, wo = wr := ⟨_, rfl⟩
       go_wp2
       clear x0 x1 x2 x3 x4 KK hlt
       go_loopw [8] (fun i wr => ∃ k : Nat, k <= Q6r /\ i = .int .i64 k /\ Hid (∀ j (h : j < Q6r), j < k -> verB Q6q Q6w j A.vers[j] = true) /\ Below Q6y w1 wr) (fun i _ => Q6r - (intOf i).toNat)
       case atStart => exact ⟨0, Nat.zero_le _, rfl, fun _ _ h => absurd h (by omega), bel2⟩
       case round =>
        obtain ⟨k, hk, rfl, hall, bel⟩ := hrel
        obtain ⟨x0, x1, x2, x3, x4⟩ := row5 (qz0 X1 bel hz1)
        have KK := K1.trans (bel.mono (show Q6o <= Q6y by omega))
        by_cases hlt : k < Q6r
        ·obtain ⟨bb, off, rfl, hbb, R⟩ := qzu.at I1.r (by omega)
         have hlt' : (k : Int) < (Q6r : Int) := by omega
         have hk0 : (0 : Int) <= (k : Int) := by omega
         have E := qzi (sz := 5) (fun _ => rfl) (qz0 R (bel.mono (by omega)) hbb) k hlt
         clear R
         cases hq : verB Q6q Q6w k A.vers[k]
         ·have hv : qz10 x y z u A = false := by simp [qz10, qz3t (f := (verB A.nodes.length A.camera)) hlt hq]
          go_wp2_with fail
          refine (qz7x _ _ _ bb off _ _ _ _ _ A.vers[k] k _ (by omega) (by omega) hlt (by have := bel.size; omega) E).mono ?_
          rintro e w2 ⟨rfl, b2⟩
          have bel2 : Below Q6y w1 w2 := bel.trans (b2.mono bel.size)
          rw [hq]
          go_wp2
          go_ret
          exact ⟨by rw [hv]; rfl, (K1.trans (bel2.mono (show Q6o <= Q6y by omega)))⟩
         ·have hall' : Hid (∀ j (h : j < Q6r), j < k + 1 -> verB Q6q Q6w j A.vers[j] = true) := fun j h hj => by rcases Nat.lt_or_ge j k with hl | hl; exact hall.out j h hl; obtain rfl : j = k := (by omega); exact hq
          go_wp2_with fail
          refine (qz7x _ _ _ bb off _ _ _ _ _ A.vers[k] k _ (by omega) (by omega) hlt (by have := bel.size; omega) E).mono ?_
          rintro e w2 ⟨rfl, b2⟩
          have bel2 : Below Q6y w1 w2 := bel.trans (b2.mono bel.size)
          rw [hq]
          go_wp2
          go_roundw
          case rel => exact ⟨k + 1, by omega, by go_num, hall', bel2⟩
          case measure => simp [intOf]; omega
        ·have hs3 : Hid (qz2l (verB Q6q Q6w) A.vers = true) := (qz1k (verB Q6q Q6w) A.vers).2 (fun i h => hall.out i h (by omega))
         clear hall
         have hv : qz10 x y z u A = true := by simp only [qz10, hh, hs0.out, hs1.out, hs2.out, hs3.out, Bool.and_self]
         go_wp2
         go_ret
         exact ⟨by rw [hv]; rfl, KK⟩
end
section
attribute [local go_sem ↓] Go.wp_at_zero Go.wp_at_succ
def vrOf (A : Ar) (v : Int) : Vr := A.vers.getD v.toNat ⟨-1, false, -1, -1, 0⟩
def ndOf (A : Ar) (n : Int) : Nd := A.nodes.getD n.toNat ⟨-1, 0, 0⟩
theorem qz38 (A : Ar) (n : Nat) (h : n < Q6r) : vrOf A n = A.vers[n] := by simp [vrOf, h]
theorem qz1l (A : Ar) (n : Nat) (h : n < Q6q) : ndOf A n = A.nodes[n] := by simp [ndOf, h]
def qz32 (A : Ar) (v : Int) : Bool := inB v 0 ((Q6r : Int) - 1) && ((vrOf A v).stamp != -1)
def hasB (x y z u : Int) (A : Ar) (n : Int) : Bool := qz10 x y z u A && inB n 0 ((Q6q : Int) - 1)
def qz93 (x y z u : Int) (A : Ar) (n : Int) : Int := if hasB x y z u A n then (ndOf A n).head else -1
def qzi2 (A : Ar) : Prop := ∀ i (h : i < Q6r), -1 <= A.vers[i].prev /\ A.vers[i].prev < (i : Int)
theorem qz1r {x y z u : Int} {A : Ar} (h : qz10 x y z u A = true) : qz6r x y z u A = true /\ qz2l (fun _ v => inB v (-1) 100) A.slots = true /\ qz2l (fun _ v => inB v 0 ((Q6q : Int) - 1)) A.guides = true /\ qz2l (qz46 Q6r) A.nodes = true /\ qz2l (verB Q6q Q6w) A.vers = true := by
 simp only [qz10, Bool.and_eq_true] at h
 exact ⟨h.1.1.1.1, h.1.1.1.2, h.1.1.2, h.1.2, h.2⟩
theorem qzg2 {x y z u : Int} {A : Ar} (h : qz10 x y z u A = true) : qzi2 A := by
 intro i hi
 have := (qz1k _ _).1 (qz1r h).2.2.2.2 i hi
 simp only [verB, Bool.and_eq_true, qz13] at this
 omega
theorem qzc5 {x y z u : Int} {A : Ar} (h : qz10 x y z u A = true) (n : Nat) (hn : n < Q6q) : 0 <= A.nodes[n].head /\ A.nodes[n].head < (Q6r : Int) := by
 have := (qz1k _ _).1 (qz1r h).2.2.2.1 n hn
 unfold qz46 at this
 split at this <;> (simp only [Bool.and_eq_true, qz13] at this; omega)
theorem qz1w (B : Nat) (A : Ar) (v : Int) (a0 a1 a2 a3 : Option Addr) (c0 c1 c2 c3 : Nat) (w : World) (hB : B <= Q6o) (hA : A.size <= 1048576) (I : qz1j B w Q0x Q0w Q0t Q11 A) :
  Calls Tryz.prog 153 #[.agg Q02, .int .i64 v] w fun e w' => e = .returned (.bool (qz32 A v)) /\ Below Q6o w w' := by
 unfold Ar.size at hA
 have X0 := qz6 w Q0j 30
 have K0 := (Q6s Q6o w).alloc (Q6v _) (.cells Q02 30)
 have hz0 : Q6o < (Q35).heap.size := by simp
 obtain ⟨x0, x1, x2, x3, x4⟩ := row5 X0
 go_enter Tryz.func153, Tryz.ntmps153
 go_wp2_with fail
 refine (qz2q _ _ _ _ _ _ _ _ _ (by omega)).mono ?_
 rintro e w1 ⟨rfl, b1⟩
 have X1 := qz0 X0 b1 hz0
 have K1 := K0.trans (b1.mono (by omega))
 have I1 := I.below (K1.mono hB)
 have hz1 := Q72 hz0 b1.size
 clear X0 K0 I b1 hz0 x0 x1 x2 x3 x4
 obtain ⟨x0, x1, x2, x3, x4⟩ := row5 X1
 cases hq : inB v 0 ((Q6r : Int) - 1)
 ·have hv : qz32 A v = false := by simp [qz32, hq]
  go_wp2
  go_ret
  exact ⟨by first | rfl | (rw [hv]; rfl), K1⟩
 ·have hq' := (qz13 _ _ _).1 hq
  obtain ⟨n, rfl⟩ : ∃ n : Nat, v = n := ⟨v.toNat, by omega⟩
  have hn : n < Q6r := by omega
  have hn' : (n : Int) < (Q6r : Int) := by omega
  have hn0 : (0 : Int) <= (n : Int) := by omega
  have hv : qz32 A n = (A.vers[n].stamp != -1) := by simp [qz32, hq, qz38 A n hn]
  obtain ⟨bb, off, rfl, hbb, R⟩ := qzu.at I1.r (by omega)
  have hc : w1.cell? ⟨bb, off + n * 5 + 2, none⟩ = some (.int .i64 A.vers[n].stamp) := (qzi (sz := 5) (fun _ => rfl) R n hn) 2 _ rfl
  clear R hq'
  go_wp2
  go_ret
  exact ⟨by first | rfl | (rw [hv]; rfl), K1⟩
theorem qzbu (B : Nat) (A : Ar) (x y z u : Int) (n : Int) (a0 a1 a2 a3 : Option Addr) (c0 c1 c2 c3 : Nat) (w : World) (hB : B <= Q6o) (hA : A.size <= 1048576) (I : qz1j B w Q0x Q0w Q0t Q11 A) :
  Calls Tryz.prog 37 #[.agg Q06, .agg Q02, .int .i64 n] w fun e w' => e = .returned (.bool (hasB x y z u A n)) /\ Below Q6o w w' := by
 have P0 := (qz1q w x y z u 25).below ((Q6s _ _).alloc (Q6v _) (.cells Q02 30)) (by simp)
 have X0 : World.rangeAt Q1s (Q6o + 1) 0 Q0j := by
  have h := qz6 Q44 Q0j 30
  simp only [World.size_alloc] at h
  exact h
 have K0 := ((Q6s Q6o w).alloc (Q6v _) (.cells Q06 25)).alloc (by simp) (.cells Q02 30)
 have hz0 : Q6o + 1 < (Q1s).heap.size := by simp
 have I0 := I.below (K0.mono hB)
 have P0' := P0
 obtain ⟨p0, p1, p2, p3⟩ := P0'
 obtain ⟨x0, x1, x2, x3, x4⟩ := row5 X0
 go_enter Tryz.func37, Tryz.ntmps37
 go_wp2_with fail
 refine (qz35 B A x y z u _ _ _ _ _ _ _ _ _ (Q77 hB K0.size) hA I0).mono ?_
 rintro e w1 ⟨rfl, b1⟩
 have P1 := P0.below b1 (by omega)
 have X1 := qz0 X0 b1 hz0
 have K1 := K0.trans (b1.mono (by omega))
 have I1 := I.below (K1.mono hB)
 have hz1 := Q72 hz0 b1.size
 clear P0 X0 K0 I I0 b1 hz0 p0 p1 p2 p3 x0 x1 x2 x3 x4
 have P1' := P1
 obtain ⟨p0, p1, p2, p3⟩ := P1'
 obtain ⟨x0, x1, x2, x3, x4⟩ := row5 X1
 unfold Ar.size at hA
 cases hq : qz10 x y z u A
 ·have hv : hasB x y z u A n = false := by simp [hasB, hq]
  go_wp2
  go_ret
  exact ⟨by first | rfl | (rw [hv]; rfl), K1⟩
 ·have hv : hasB x y z u A n = inB n 0 ((A.nodes.length : Int) - 1) := by simp [hasB, hq]
  go_wp2_with fail
  refine (qz3v _ _ _ _ _ _ _ _ _ (by omega)).mono ?_
  rintro e w2 ⟨rfl, b2⟩
  go_wp2
  go_ret
  exact ⟨by first | rfl | (rw [hv]; rfl), K1.trans (b2.mono (by omega))⟩
theorem qz60 (B : Nat) (A : Ar) (x y z u : Int) (n : Int) (a0 a1 a2 a3 : Option Addr) (c0 c1 c2 c3 : Nat) (w : World) (hB : B <= Q6o) (hA : A.size <= 1048576) (I : qz1j B w Q0x Q0w Q0t Q11 A) :
  Calls Tryz.prog 28 #[.agg Q06, .agg Q02, .int .i64 n] w fun e w' => e = .returned (.int .i64 (qz93 x y z u A n)) /\ Below Q6o w w' := by
 have P0 := (qz1q w x y z u 25).below ((Q6s _ _).alloc (Q6v _) (.cells Q02 30)) (by simp)
 have X0 : World.rangeAt Q1s (Q6o + 1) 0 Q0j := by
  have h := qz6 Q44 Q0j 30
  simp only [World.size_alloc] at h
  exact h
 have K0 := ((Q6s Q6o w).alloc (Q6v _) (.cells Q06 25)).alloc (by simp) (.cells Q02 30)
 have hz0 : Q6o + 1 < (Q1s).heap.size := by simp
 have I0 := I.below (K0.mono hB)
 have P0' := P0
 obtain ⟨p0, p1, p2, p3⟩ := P0'
 obtain ⟨x0, x1, x2, x3, x4⟩ := row5 X0
 go_enter Tryz.func28, Tryz.ntmps28
 go_wp2_with fail
 refine (qzbu B A x y z u n _ _ _ _ _ _ _ _ _ (Q77 hB K0.size) hA I0).mono ?_
 rintro e w1 ⟨rfl, b1⟩
 have P1 := P0.below b1 (by omega)
 have X1 := qz0 X0 b1 hz0
 have K1 := K0.trans (b1.mono (by omega))
 have I1 := I.below (K1.mono hB)
 have hz1 := Q72 hz0 b1.size
 clear P0 X0 K0 I I0 b1 hz0 p0 p1 p2 p3 x0 x1 x2 x3 x4
 have P1' := P1
 obtain ⟨p0, p1, p2, p3⟩ := P1'
 obtain ⟨x0, x1, x2, x3, x4⟩ := row5 X1
 unfold Ar.size at hA
 cases hq : hasB x y z u A n
 ·have hv : qz93 x y z u A n = -1 := by simp [qz93, hq]
  go_wp2
  go_ret
  exact ⟨by first | rfl | (rw [hv]; rfl), K1⟩
 have hh : qz10 x y z u A = true /\ inB n 0 ((Q6q : Int) - 1) = true := by simpa [hasB] using hq
 have hq' := (qz13 _ _ _).1 hh.2
 obtain ⟨n, rfl⟩ : ∃ k : Nat, n = k := ⟨n.toNat, by omega⟩
 have hn : n < Q6q := by omega
 have hn' : (n : Int) < (Q6q : Int) := by omega
 have hn0 : (0 : Int) <= (n : Int) := by omega
 obtain ⟨bb, off, rfl, hbb, R⟩ := qzu.at I1.n (by omega)
 have hc : w1.cell? ⟨bb, off + n * 3 + 2, none⟩ = some (.int .i64 A.nodes[n].head) := (qzi (sz := 3) (fun _ => rfl) R n hn) 2 _ rfl
 clear R hq'
 have hv : qz93 x y z u A n = A.nodes[n].head := by simp only [qz93, hq, if_true]; rw [qz1l A n hn]
 clear hh
 go_wp2
 go_ret
 exact ⟨by first | rfl | (rw [hv]; rfl), K1⟩
end
end Go.Proofs.YthjkdnlmopafkaaGreatDoor
