/-
  What the law's proof goes by, part 5.
-/
import Derived.Deep.AppendSrc
import Derived.Maps.AppendAt
import Derived.Test.YthjkdnlmopafkaaFnBlank00
import Derived.Test.YthjkdnlmopafkaaFnBlank01
import Derived.Test.YthjkdnlmopafkaaFnBlank02
import Derived.Test.YthjkdnlmopafkaaFnBlank03
namespace Go.Proofs.Ythjkdnlmopafkaa
open Go.ChangeShapes Go.WideShapes Go.ChangeAt Go.RowKit
set_option maxRecDepth 100000
set_option maxHeartbeats 16000000
set_option linter.unusedVariables false
set_option linter.unusedSimpArgs false
set_option linter.unnecessarySimpa false
set_option linter.unusedSectionVars false
section
attribute [local go_sem ↓] Go.wp_at_zero Go.wp_at_succ
def qz45 (nv : Int) (i : Nat) (x : Nd) : Bool :=
 if i = 0 then (x.key == -1) && (x.value == 0) && inB x.head 0 (nv - 1) else inB x.key 0 63 && inB x.value 0 9999 && inB x.head 0 (nv - 1)
def verB (nn cam : Int) (i : Nat) (v : Vr) : Bool :=
 ((v.next == -1) || inB v.next 1 (nn - 1)) && inB v.stamp (-1) cam && inB v.prev (-1) ((i : Int) - 1) && inB v.kind 0 2
theorem qz11 (n : Int) (w : World) : Calls Try.prog 45 #[.int .i64 n] w fun e w' => e = .returned (.bool (inB n 0 100)) /\ w' = w := by
 go_enter Try.func45, Try.ntmps45
 go_wp2_with (go_at_call 46; refine (qzd _ _ _ _).mono ?_; rintro e w' ⟨rfl, rfl⟩)
 go_ret
 exact ⟨rfl, rfl⟩
theorem qz3u (cam : Int) (s g r : Value) (a : Option Addr) (len cap : Nat) (n : Int) (w : World) (hl : len <= 1048576) :
  Calls Try.prog 47 #[.agg #[.int .i64 cam, s, g, .slice a len cap, r], .int .i64 n] w fun e w' => e = .returned (.bool (inB n 0 (len - 1))) /\ Below Q67 w w' := by
 go_enter Try.func47, Try.ntmps47
 go_wp2_with (go_at_call 46; refine (qzd _ _ _ _).mono ?_; rintro e w' ⟨rfl, rfl⟩)
 go_ret
 exact ⟨rfl, (Q6c _ _).alloc (Q6f _) _⟩
theorem qz2k (cam : Int) (s g n : Value) (a : Option Addr) (len cap : Nat) (v : Int) (w : World) (hl : len <= 1048576) :
  Calls Try.prog 75 #[.agg #[.int .i64 cam, s, g, n, .slice a len cap], .int .i64 v] w fun e w' => e = .returned (.bool (inB v 0 (len - 1))) /\ Below Q67 w w' := by
 go_enter Try.func75, Try.ntmps75
 go_wp2_with (go_at_call 46; refine (qzd _ _ _ _).mono ?_; rintro e w' ⟨rfl, rfl⟩)
 go_ret
 exact ⟨rfl, (Q6c _ _).alloc (Q6f _) _⟩
theorem qz6d (cam : Int) (s g : Value) (bb off len cap : Nat) (a4 : Option Addr) (n4 c4 : Nat) (x : Nd) (i : Nat) (w : World) (hl : len <= 1048576) (h4 : n4 <= 1048576) (hi : i < len) (hb : bb < Q67) (R : w.rangeAt bb (off + i * 3) (ndC x)) :
  Calls Try.prog 48 #[.agg #[.int .i64 cam, s, g, .slice (some ⟨bb, off, none⟩) len cap, .slice a4 n4 c4], .int .i64 i] w fun e w' => e = .returned (.bool (qz45 n4 i x)) /\ Below Q67 w w' := by
 have hi' : (i : Int) < (len : Int) := by omega
 have f0 : ∀ o : Obj, (w.alloc o).cell? ⟨bb, off + i * 3, none⟩ = some (.int .i64 x.key) := fun o => (World.cell?_alloc_lt _ _ _ hb).trans (R 0 _ rfl)
 have f1 : ∀ o : Obj, (w.alloc o).cell? ⟨bb, off + i * 3 + 1, none⟩ = some (.int .i64 x.value) := fun o => (World.cell?_alloc_lt _ _ _ hb).trans (R 1 _ rfl)
 have f2 : ∀ o : Obj, (w.alloc o).cell? ⟨bb, off + i * 3 + 2, none⟩ = some (.int .i64 x.head) := fun o => (World.cell?_alloc_lt _ _ _ hb).trans (R 2 _ rfl)
 clear R
 by_cases h0 : i = 0
 ·have hi0 : ((i : Int) == 0) = true := by simp; omega
  cases e1 : (x.key == -1)
  ·have hv : qz45 n4 i x = false := by simp [qz45, h0, e1]
   clear h0
   go_enter Try.func48, Try.ntmps48
   go_wp2_with (first | (go_at_call 46; refine (qzd _ _ _ _).mono ?_; rintro e w' ⟨rfl, rfl⟩) | (go_at_call 76; refine (qzo _ _).mono ?_; rintro e w' ⟨rfl, rfl⟩))
   go_ret
   exact ⟨by rw [hv]; rfl, (((Q6c _ _).alloc (Q6f _) _).alloc (by simp) _)⟩
  ·cases e2 : (x.value == 0)
   ·have hv : qz45 n4 i x = false := by simp [qz45, h0, e2]
    clear h0
    go_enter Try.func48, Try.ntmps48
    go_wp2_with (first | (go_at_call 46; refine (qzd _ _ _ _).mono ?_; rintro e w' ⟨rfl, rfl⟩) | (go_at_call 76; refine (qzo _ _).mono ?_; rintro e w' ⟨rfl, rfl⟩))
    go_ret
    exact ⟨by rw [hv]; rfl, (((Q6c _ _).alloc (Q6f _) _).alloc (by simp) _)⟩
   ·have hv : qz45 n4 i x = inB x.head 0 (n4 - 1) := by simp [qz45, h0, e1, e2]
    clear h0
    go_enter Try.func48, Try.ntmps48
    go_wp2_with (first | (go_at_call 46; refine (qzd _ _ _ _).mono ?_; rintro e w' ⟨rfl, rfl⟩) | (go_at_call 76; refine (qzo _ _).mono ?_; rintro e w' ⟨rfl, rfl⟩) | (go_at_call 75; refine (qz2k _ _ _ _ _ _ _ _ _ h4).mono ?_; rintro e w2 ⟨rfl, b2⟩))
    go_ret
    exact ⟨by rw [hv]; rfl, (((Q6c _ _).alloc (Q6f _) _).alloc (by simp) _).trans (b2.mono (by simp; omega))⟩
 ·have hi0 : ((i : Int) == 0) = false := by simp; omega
  cases e1 : inB x.key 0 63
  ·have hv : qz45 n4 i x = false := by simp [qz45, h0, e1]
   go_enter Try.func48, Try.ntmps48
   go_wp2_with (first | (go_at_call 46; refine (qzd _ _ _ _).mono ?_; rintro e w' ⟨rfl, rfl⟩) | (go_at_call 76; refine (qzo _ _).mono ?_; rintro e w' ⟨rfl, rfl⟩))
   go_ret
   exact ⟨by rw [hv]; rfl, (((Q6c _ _).alloc (Q6f _) _).alloc (by simp) _)⟩
  ·cases e2 : inB x.value 0 9999
   ·have hv : qz45 n4 i x = false := by simp [qz45, h0, e2]
    go_enter Try.func48, Try.ntmps48
    go_wp2_with (first | (go_at_call 46; refine (qzd _ _ _ _).mono ?_; rintro e w' ⟨rfl, rfl⟩) | (go_at_call 76; refine (qzo _ _).mono ?_; rintro e w' ⟨rfl, rfl⟩))
    go_ret
    exact ⟨by rw [hv]; rfl, (((Q6c _ _).alloc (Q6f _) _).alloc (by simp) _)⟩
   ·have hv : qz45 n4 i x = inB x.head 0 (n4 - 1) := by simp [qz45, h0, e1, e2]
    go_enter Try.func48, Try.ntmps48
    go_wp2_with (first | (go_at_call 46; refine (qzd _ _ _ _).mono ?_; rintro e w' ⟨rfl, rfl⟩) | (go_at_call 76; refine (qzo _ _).mono ?_; rintro e w' ⟨rfl, rfl⟩) | (go_at_call 75; refine (qz2k _ _ _ _ _ _ _ _ _ h4).mono ?_; rintro e w2 ⟨rfl, b2⟩))
    go_ret
    exact ⟨by rw [hv]; rfl, (((Q6c _ _).alloc (Q6f _) _).alloc (by simp) _).trans (b2.mono (by simp; omega))⟩
theorem qz6s (cam : Int) (s g : Value) (bb off len cap : Nat) (a3 : Option Addr) (n3 c3 : Nat) (x : Vr) (i : Nat) (w : World) (hl : len <= 1048576) (h3 : n3 <= 1048576) (hi : i < len) (hb : bb < Q67) (R : w.rangeAt bb (off + i * 5) (vrC x)) :
  Calls Try.prog 49 #[.agg #[.int .i64 cam, s, g, .slice a3 n3 c3, .slice (some ⟨bb, off, none⟩) len cap], .int .i64 i] w fun e w' => e = .returned (.bool (verB n3 cam i x)) /\ Below Q67 w w' := by
 have hi' : (i : Int) < (len : Int) := by omega
 have f0 : ∀ o : Obj, (w.alloc o).cell? ⟨bb, off + i * 5, none⟩ = some (.int .i64 x.next) := fun o => (World.cell?_alloc_lt _ _ _ hb).trans (R 0 _ rfl)
 have f1 : ∀ o : Obj, (w.alloc o).cell? ⟨bb, off + i * 5 + 1, none⟩ = some (.bool x.gone) := fun o => (World.cell?_alloc_lt _ _ _ hb).trans (R 1 _ rfl)
 have f2 : ∀ o : Obj, (w.alloc o).cell? ⟨bb, off + i * 5 + 2, none⟩ = some (.int .i64 x.stamp) := fun o => (World.cell?_alloc_lt _ _ _ hb).trans (R 2 _ rfl)
 have f3 : ∀ o : Obj, (w.alloc o).cell? ⟨bb, off + i * 5 + 3, none⟩ = some (.int .i64 x.prev) := fun o => (World.cell?_alloc_lt _ _ _ hb).trans (R 3 _ rfl)
 have f4 : ∀ o : Obj, (w.alloc o).cell? ⟨bb, off + i * 5 + 4, none⟩ = some (.int .i64 x.kind) := fun o => (World.cell?_alloc_lt _ _ _ hb).trans (R 4 _ rfl)
 clear R
 cases e1 : (x.next == -1)
 ·cases e1b : inB x.next 1 ((n3 : Int) - 1)
  ·have hv : verB n3 cam i x = false := by simp [verB, e1, e1b]
   go_enter Try.func49, Try.ntmps49
   go_wp2_with (go_at_call 46; refine (qzd _ _ _ _).mono ?_; rintro e w' ⟨rfl, rfl⟩)
   go_ret
   exact ⟨by rw [hv]; rfl, (((Q6c _ _).alloc (Q6f _) _).alloc (by simp) _)⟩
  ·cases e2 : inB x.stamp (-1) cam
   ·have hv : verB n3 cam i x = false := by simp [verB, e2]
    go_enter Try.func49, Try.ntmps49
    go_wp2_with (go_at_call 46; refine (qzd _ _ _ _).mono ?_; rintro e w' ⟨rfl, rfl⟩)
    go_ret
    exact ⟨by rw [hv]; rfl, (((Q6c _ _).alloc (Q6f _) _).alloc (by simp) _)⟩
   ·cases e3 : inB x.prev (-1) ((i : Int) - 1)
    ·have hv : verB n3 cam i x = false := by simp [verB, e3]
     go_enter Try.func49, Try.ntmps49
     go_wp2_with (go_at_call 46; refine (qzd _ _ _ _).mono ?_; rintro e w' ⟨rfl, rfl⟩)
     go_ret
     exact ⟨by rw [hv]; rfl, (((Q6c _ _).alloc (Q6f _) _).alloc (by simp) _)⟩
    ·have hv : verB n3 cam i x = inB x.kind 0 2 := by simp [verB, e1b, e2, e3]
     go_enter Try.func49, Try.ntmps49
     go_wp2_with (go_at_call 46; refine (qzd _ _ _ _).mono ?_; rintro e w' ⟨rfl, rfl⟩)
     go_ret
     exact ⟨by rw [hv]; rfl, (((Q6c _ _).alloc (Q6f _) _).alloc (by simp) _)⟩
 ·cases e2 : inB x.stamp (-1) cam
  ·have hv : verB n3 cam i x = false := by simp [verB, e2]
   go_enter Try.func49, Try.ntmps49
   go_wp2_with (go_at_call 46; refine (qzd _ _ _ _).mono ?_; rintro e w' ⟨rfl, rfl⟩)
   go_ret
   exact ⟨by rw [hv]; rfl, (((Q6c _ _).alloc (Q6f _) _).alloc (by simp) _)⟩
  ·cases e3 : inB x.prev (-1) ((i : Int) - 1)
   ·have hv : verB n3 cam i x = false := by simp [verB, e3]
    go_enter Try.func49, Try.ntmps49
    go_wp2_with (go_at_call 46; refine (qzd _ _ _ _).mono ?_; rintro e w' ⟨rfl, rfl⟩)
    go_ret
    exact ⟨by rw [hv]; rfl, (((Q6c _ _).alloc (Q6f _) _).alloc (by simp) _)⟩
   ·have hv : verB n3 cam i x = inB x.kind 0 2 := by simp [verB, e1, e2, e3]
    go_enter Try.func49, Try.ntmps49
    go_wp2_with (go_at_call 46; refine (qzd _ _ _ _).mono ?_; rintro e w' ⟨rfl, rfl⟩)
    go_ret
    exact ⟨by rw [hv]; rfl, (((Q6c _ _).alloc (Q6f _) _).alloc (by simp) _)⟩
def qz2p {α : Type} (f : Nat -> α -> Bool) (l : List α) : Bool := l.zipIdx.all fun p => f p.2 p.1
theorem qz1x {α : Type} (f : Nat -> α -> Bool) (l : List α) : qz2p f l = true ↔ ∀ i (h : i < l.length), f i l[i] = true := by
 unfold qz2p
 rw [List.all_eq_true]
 constructor
 ·intro h i hi
  exact h (l[i], i) (by rw [List.mem_zipIdx_iff_getElem?]; simp [hi])
 ·rintro h ⟨x, i⟩ hm
  rw [List.mem_zipIdx_iff_getElem?] at hm
  obtain ⟨hi, e⟩ := List.getElem?_eq_some_iff.1 hm
  have := h i hi
  rw [e] at this
  exact this
theorem qz3p {α : Type} {f : Nat -> α -> Bool} {l : List α} {i : Nat} (hi : i < l.length) (h : f i l[i] = false) : qz2p f l = false := by
 cases e : qz2p f l
 ·rfl
 ·have := (qz1x f l).1 e i hi
  rw [h] at this
  cases this
def qz81 (x y z u : Int) (A : Ar) : Bool :=
 qz38 x y z u && inB Q6e 0 100 && ((Q6o : Int) == x) && ((Q6p : Int) == u) && inB Q69 1 y && inB Q6a 1 z
def qz17 (x y z u : Int) (A : Ar) : Bool :=
 qz81 x y z u A && qz2p (fun _ v => inB v (-1) 100) A.slots && qz2p (fun _ v => inB v 0 ((Q69 : Int) - 1)) A.guides && qz2p (qz45 Q6a) A.nodes && qz2p (verB Q69 Q6e) A.vers
theorem qzs.at {B : Nat} {w : World} {a : Option Addr} {len cap : Nat} {cs : List Value} (S : qzs B w (.slice a len cap) len cs) (hp : 0 < len) : ∃ bb off, a = some ⟨bb, off, none⟩ /\ bb < B /\ w.rangeAt bb off cs := by
 obtain ⟨a', cap', e, h⟩ := S
 injection e with e1 _ _
 subst e1
 rcases h with h | h
 ·omega
 ·exact h
theorem qz4w (B : Nat) (A : Ar) (x y z u : Int) (a0 a1 a2 a3 : Option Addr) (c0 c1 c2 c3 : Nat) (w : World) (hB : B <= Q67) (hA : A.size <= 1048576) (I : qz1i B w Q17 Q18 Q1b Q1t A) :
  Calls Try.prog 15 #[.agg Q08, .agg Q03] w fun e w' => e = .returned (.bool (qz17 x y z u A)) /\ Below Q67 w w' := by
 unfold Ar.size at hA
 have P0 := (qz1h w x y z u 25).below ((Q6c _ _).alloc (Q6f _) (.cells Q03 30)) (by simp)
 have X0 : World.rangeAt Q4a (Q67 + 1) 0 Q0k := by
  have h := qz7 Q58 Q0k 30
  simp only [World.size_alloc] at h
  exact h
 have K0 := ((Q6c Q67 w).alloc (Q6f _) (.cells Q08 25)).alloc (by simp) (.cells Q03 30)
 have hz0 : Q67 + 1 < (Q4a).heap.size := by simp
 go_enter Try.func15, Try.ntmps15
 go_wp2_with fail
 refine (qz1k _ _ _ _ _).mono ?_
 rintro e w1 ⟨rfl, b1⟩
 have P1 := P0.below b1 (by omega)
 have X1 := qz0 X0 b1 hz0
 have K1 := K0.trans (b1.mono (by omega))
 have I1 := I.below (K1.mono hB)
 have hz1 := Q6l hz0 b1.size
 clear P0 X0 K0 I b1 hz0
 have P1' := P1
 obtain ⟨p0, p1, p2, p3⟩ := P1'
 obtain ⟨x0, x1, x2, x3, x4⟩ := row5 X1
 cases h1 : qz38 x y z u
 ·have hv : qz17 x y z u A = false := by simp [qz17, qz81, h1]
  go_wp2_with (first | (go_at_call 45; refine (qz11 _ _).mono ?_; rintro e w' ⟨rfl, hw⟩; obtain rfl := hw.symm) | (go_at_call 46; refine (qzd _ _ _ _).mono ?_; rintro e w' ⟨rfl, hw⟩; obtain rfl := hw.symm))
  go_ret
  exact ⟨by rw [hv]; rfl, K1⟩
 cases h2 : inB Q6e 0 100
 ·have hv : qz17 x y z u A = false := by simp [qz17, qz81, h2]
  go_wp2_with (first | (go_at_call 45; refine (qz11 _ _).mono ?_; rintro e w' ⟨rfl, hw⟩; obtain rfl := hw.symm) | (go_at_call 46; refine (qzd _ _ _ _).mono ?_; rintro e w' ⟨rfl, hw⟩; obtain rfl := hw.symm))
  go_ret
  exact ⟨by rw [hv]; rfl, K1⟩
 by_cases h3 : (Q6o : Int) = x
 case neg =>
  have h3' : ((Q6o : Int) != x) = true := by simpa using h3
  have h3b : ((Q6o : Int) == x) = false := by simpa using h3
  have hv : qz17 x y z u A = false := by simp [qz17, qz81, h3b]
  go_wp2_with (first | (go_at_call 45; refine (qz11 _ _).mono ?_; rintro e w' ⟨rfl, hw⟩; obtain rfl := hw.symm) | (go_at_call 46; refine (qzd _ _ _ _).mono ?_; rintro e w' ⟨rfl, hw⟩; obtain rfl := hw.symm))
  go_ret
  exact ⟨by rw [hv]; rfl, K1⟩
 have h3' : ((Q6o : Int) != x) = false := by simpa using h3
 by_cases h4 : (Q6p : Int) = u
 case neg =>
  have h4' : ((Q6p : Int) != u) = true := by simpa using h4
  have h4b : ((Q6p : Int) == u) = false := by simpa using h4
  have hv : qz17 x y z u A = false := by simp [qz17, qz81, h4b]
  go_wp2_with (first | (go_at_call 45; refine (qz11 _ _).mono ?_; rintro e w' ⟨rfl, hw⟩; obtain rfl := hw.symm) | (go_at_call 46; refine (qzd _ _ _ _).mono ?_; rintro e w' ⟨rfl, hw⟩; obtain rfl := hw.symm))
  go_ret
  exact ⟨by rw [hv]; rfl, K1⟩
 have h4' : ((Q6p : Int) != u) = false := by simpa using h4
 cases h5 : inB Q69 1 y
 ·have h35 : qz17 x y z u A = false := by simp [qz17, qz81, h5]
  have H3 : Hid _ := h3
  have H4 : Hid _ := h4
  clear h3 h4
  go_wp2_with (first | (go_at_call 45; refine (qz11 _ _).mono ?_; rintro e w' ⟨rfl, hw⟩; obtain rfl := hw.symm) | (go_at_call 46; refine (qzd _ _ _ _).mono ?_; rintro e w' ⟨rfl, hw⟩; obtain rfl := hw.symm))
  go_ret
  exact ⟨by rw [h35]; rfl, K1⟩
 cases h6 : inB Q6a 1 z
 ·have h36 : qz17 x y z u A = false := by simp [qz17, qz81, h6]
  clear h3 h4
  go_wp2_with (first | (go_at_call 45; refine (qz11 _ _).mono ?_; rintro e w' ⟨rfl, hw⟩; obtain rfl := hw.symm) | (go_at_call 46; refine (qzd _ _ _ _).mono ?_; rintro e w' ⟨rfl, hw⟩; obtain rfl := hw.symm))
  go_ret
  exact ⟨by rw [h36]; rfl, K1⟩
 have hh : qz81 x y z u A = true := by simp [qz81, h1, h2, h3, h4, h5, h6]
 clear h3 h4
 go_wp2_with (first | (go_at_call 45; refine (qz11 _ _).mono ?_; rintro e w' ⟨rfl, hw⟩; obtain rfl := hw.symm) | (go_at_call 46; refine (qzd _ _ _ _).mono ?_; rintro e w' ⟨rfl, hw⟩; obtain rfl := hw.symm))
 clear x0 x1 x2 x3 x4 p0 p1 p2 p3 P1 h1 h2 h3' h4' h5 h6
 go_loopw [5] (fun i wr => ∃ k : Nat, k <= Q6o /\ i = .int .i64 k /\ Hid (∀ j (h : j < Q6o), j < k -> inB A.slots[j] (-1) 100 = true) /\ Below Q6j w1 wr) (fun i _ => Q6o - (intOf i).toNat)
 case atStart => exact ⟨0, Nat.zero_le _, rfl, fun _ _ h => absurd h (by omega), Q6c _ _⟩
 case round =>
  obtain ⟨k, hk, rfl, hall, bel⟩ := hrel
  obtain ⟨x0, x1, x2, x3, x4⟩ := row5 (qz0 X1 bel hz1)
  have KK := K1.trans (bel.mono (show Q67 <= Q6j by omega))
  by_cases hlt : k < Q6o
  ·obtain ⟨bb, off, rfl, hbb, R⟩ := qzs.at I1.s (by omega)
   have hlt' : (k : Int) < (Q6o : Int) := by omega
   have hk0 : (0 : Int) <= (k : Int) := by omega
   have hc : wr.cell? ⟨bb, off + k, none⟩ = some (.int .i64 A.slots[k]) := (qz0 R (bel.mono (by omega)) hbb) k (.int .i64 A.slots[k]) (by have := qzv (f := intC) (sz := 1) (fun _ => rfl) A.slots k hlt 0 (by omega); simpa [intC] using this)
   clear R
   cases hq : inB A.slots[k] (-1) 100
   ·have hv : qz17 x y z u A = false := by simp [qz17, qz3p (f := (fun _ v => inB v (-1) 100)) hlt hq]
    go_wp2_with (go_at_call 46; refine (qzd _ _ _ _).mono ?_; rintro e w' ⟨rfl, hw⟩; obtain rfl := hw.symm)
    go_ret
    exact ⟨by rw [hv]; rfl, KK⟩
   ·have hall' : Hid (∀ j (h : j < Q6o), j < k + 1 -> inB A.slots[j] (-1) 100 = true) := fun j h hj => by rcases Nat.lt_or_ge j k with hl | hl; exact hall.out j h hl; obtain rfl : j = k := (by omega); exact hq
    go_wp2_with (go_at_call 46; refine (qzd _ _ _ _).mono ?_; rintro e w' ⟨rfl, hw⟩; obtain rfl := hw.symm)
    go_roundw
    case rel => exact ⟨k + 1, by omega, by go_num, hall', bel⟩
    case measure => simp [intOf]; omega
  ·have hs0 : Hid (qz2p (fun _ v => inB v (-1) 100) A.slots = true) := (qz1x (fun _ v => inB v (-1) 100) A.slots).2 (fun i h => hall.out i h (by omega))
   clear hall
   have bel0 := bel
   clear bel
   obtain ⟨wo0, rfl⟩ : ∃ wo : World, wo = wr := ⟨_, rfl⟩
   go_wp2
   clear x0 x1 x2 x3 x4 KK hlt
   go_loopw [6] (fun i wr => ∃ k : Nat, k <= Q6p /\ i = .int .i64 k /\ Hid (∀ j (h : j < Q6p), j < k -> inB A.guides[j] 0 ((Q69 : Int) - 1) = true) /\ Below Q6j w1 wr) (fun i _ => Q6p - (intOf i).toNat)
   case atStart => exact ⟨0, Nat.zero_le _, rfl, fun _ _ h => absurd h (by omega), bel0⟩
   case round =>
    obtain ⟨k, hk, rfl, hall, bel⟩ := hrel
    obtain ⟨x0, x1, x2, x3, x4⟩ := row5 (qz0 X1 bel hz1)
    have KK := K1.trans (bel.mono (show Q67 <= Q6j by omega))
    by_cases hlt : k < Q6p
    ·obtain ⟨bb, off, rfl, hbb, R⟩ := qzs.at I1.g (by omega)
     have hlt' : (k : Int) < (Q6p : Int) := by omega
     have hk0 : (0 : Int) <= (k : Int) := by omega
     have hc : wr.cell? ⟨bb, off + k, none⟩ = some (.int .i64 A.guides[k]) := (qz0 R (bel.mono (by omega)) hbb) k (.int .i64 A.guides[k]) (by have := qzv (f := intC) (sz := 1) (fun _ => rfl) A.guides k hlt 0 (by omega); simpa [intC] using this)
     clear R
     cases hq : inB A.guides[k] 0 ((Q69 : Int) - 1)
     ·have hv : qz17 x y z u A = false := by simp [qz17, qz3p (f := (fun _ v => inB v 0 ((A.nodes.length : Int) - 1))) hlt hq]
      go_wp2
      go_region_held3 (fun w' => w'.cell? ⟨Q67 + 1, 0, none⟩ = some (.int .i64 Q6e) /\ w'.cell? ⟨Q67 + 1, 1, none⟩ = some Q17 /\ w'.cell? ⟨Q67 + 1, 2, none⟩ = some (.slice (some ⟨bb, off, none⟩) Q6p c1) /\ w'.cell? ⟨Q67 + 1, 3, none⟩ = some Q1b /\ w'.cell? ⟨Q67 + 1, 4, none⟩ = some Q1t /\ w'.cell? ⟨bb, off + k, none⟩ = some (.int .i64 A.guides[k])) (go_keep) ((go_at_call 47; refine (qz3u _ _ _ _ _ _ _ _ _ (by omega)).mono ?_; rintro e w2 ⟨rfl, b2⟩; have bel2 : Below Q6j w1 w2 := bel.drew.trans (b2.mono (by exact bel.size)); obtain ⟨y0, y1, y2, y3, y4⟩ := row5 (qz0 X1 bel2 hz1); have hc2 : w2.cell? ⟨bb, off + k, none⟩ = some (.int .i64 A.guides[k]) := (b2.cell (p := ⟨bb, off + k, none⟩) (by have := bel.size; show bb < wr.heap.size; omega)).trans hc))
      go_wp2
      go_ret
      exact ⟨by rw [hv]; rfl, (K1.trans (bel2.mono (show Q67 <= Q6j by omega)))⟩
     ·have hall' : Hid (∀ j (h : j < Q6p), j < k + 1 -> inB A.guides[j] 0 ((Q69 : Int) - 1) = true) := fun j h hj => by rcases Nat.lt_or_ge j k with hl | hl; exact hall.out j h hl; obtain rfl : j = k := (by omega); exact hq
      go_wp2
      go_region_held3 (fun w' => w'.cell? ⟨Q67 + 1, 0, none⟩ = some (.int .i64 Q6e) /\ w'.cell? ⟨Q67 + 1, 1, none⟩ = some Q17 /\ w'.cell? ⟨Q67 + 1, 2, none⟩ = some (.slice (some ⟨bb, off, none⟩) Q6p c1) /\ w'.cell? ⟨Q67 + 1, 3, none⟩ = some Q1b /\ w'.cell? ⟨Q67 + 1, 4, none⟩ = some Q1t /\ w'.cell? ⟨bb, off + k, none⟩ = some (.int .i64 A.guides[k])) (go_keep) ((go_at_call 47; refine (qz3u _ _ _ _ _ _ _ _ _ (by omega)).mono ?_; rintro e w2 ⟨rfl, b2⟩; have bel2 : Below Q6j w1 w2 := bel.drew.trans (b2.mono (by exact bel.size)); obtain ⟨y0, y1, y2, y3, y4⟩ := row5 (qz0 X1 bel2 hz1); have hc2 : w2.cell? ⟨bb, off + k, none⟩ = some (.int .i64 A.guides[k]) := (b2.cell (p := ⟨bb, off + k, none⟩) (by have := bel.size; show bb < wr.heap.size; omega)).trans hc))
      go_wp2
      go_roundw
      case rel => exact ⟨k + 1, by omega, by go_num, hall', bel2⟩
      case measure => simp [intOf]; omega
    ·have hs1 : Hid (qz2p (fun _ v => inB v 0 ((Q69 : Int) - 1)) A.guides = true) := (qz1x (fun _ v => inB v 0 ((Q69 : Int) - 1)) A.guides).2 (fun i h => hall.out i h (by omega))
     clear hall
     have bel1 := bel
     clear bel
     obtain ⟨wo1, rfl⟩ : ∃ wo : World, wo = wr := ⟨_, rfl⟩
     go_wp2
     clear x0 x1 x2 x3 x4 KK hlt
     go_loopw [7] (fun i wr => ∃ k : Nat, k <= Q69 /\ i = .int .i64 k /\ Hid (∀ j (h : j < Q69), j < k -> qz45 Q6a j A.nodes[j] = true) /\ Below Q6j w1 wr) (fun i _ => Q69 - (intOf i).toNat)
     case atStart => exact ⟨0, Nat.zero_le _, rfl, fun _ _ h => absurd h (by omega), bel1⟩
     case round =>
      obtain ⟨k, hk, rfl, hall, bel⟩ := hrel
      obtain ⟨x0, x1, x2, x3, x4⟩ := row5 (qz0 X1 bel hz1)
      have KK := K1.trans (bel.mono (show Q67 <= Q6j by omega))
      by_cases hlt : k < Q69
      ·obtain ⟨bb, off, rfl, hbb, R⟩ := qzs.at I1.n (by omega)
       have hlt' : (k : Int) < (Q69 : Int) := by omega
       have hk0 : (0 : Int) <= (k : Int) := by omega
       have E := qzi (sz := 3) (fun _ => rfl) (qz0 R (bel.mono (by omega)) hbb) k hlt
       clear R
       cases hq : qz45 Q6a k A.nodes[k]
       ·have hv : qz17 x y z u A = false := by simp [qz17, qz3p (f := (qz45 A.vers.length)) hlt hq]
        go_wp2_with fail
        refine (qz6d _ _ _ bb off _ _ _ _ _ A.nodes[k] k _ (by omega) (by omega) hlt (by have := bel.size; omega) E).mono ?_
        rintro e w2 ⟨rfl, b2⟩
        have bel2 : Below Q6j w1 w2 := bel.trans (b2.mono bel.size)
        rw [hq]
        go_wp2
        go_ret
        exact ⟨by rw [hv]; rfl, (K1.trans (bel2.mono (show Q67 <= Q6j by omega)))⟩
       ·have hall' : Hid (∀ j (h : j < Q69), j < k + 1 -> qz45 Q6a j A.nodes[j] = true) := fun j h hj => by rcases Nat.lt_or_ge j k with hl | hl; exact hall.out j h hl; obtain rfl : j = k := (by omega); exact hq
        go_wp2_with fail
        refine (qz6d _ _ _ bb off _ _ _ _ _ A.nodes[k] k _ (by omega) (by omega) hlt (by have := bel.size; omega) E).mono ?_
        rintro e w2 ⟨rfl, b2⟩
        have bel2 : Below Q6j w1 w2 := bel.trans (b2.mono bel.size)
        rw [hq]
        go_wp2
        go_roundw
        case rel => exact ⟨k + 1, by omega, by go_num, hall', bel2⟩
        case measure => simp [intOf]; omega
      ·have hs2 : Hid (qz2p (qz45 Q6a) A.nodes = true) := (qz1x (qz45 Q6a) A.nodes).2 (fun i h => hall.out i h (by omega))
       clear hall
       have bel2 := bel
       clear bel
       obtain ⟨wo2, rfl⟩ : ∃ wo : World, wo = wr := ⟨_, rfl⟩
       go_wp2
       clear x0 x1 x2 x3 x4 KK hlt
       go_loopw [8] (fun i wr => ∃ k : Nat, k <= Q6a /\ i = .int .i64 k /\ Hid (∀ j (h : j < Q6a), j < k -> verB Q69 Q6e j A.vers[j] = true) /\ Below Q6j w1 wr) (fun i _ => Q6a - (intOf i).toNat)
       case atStart => exact ⟨0, Nat.zero_le _, rfl, fun _ _ h => absurd h (by omega), bel2⟩
       case round =>
        obtain ⟨k, hk, rfl, hall, bel⟩ := hrel
        obtain ⟨x0, x1, x2, x3, x4⟩ := row5 (qz0 X1 bel hz1)
        have KK := K1.trans (bel.mono (show Q67 <= Q6j by omega))
        by_cases hlt : k < Q6a
        ·obtain ⟨bb, off, rfl, hbb, R⟩ := qzs.at I1.r (by omega)
         have hlt' : (k : Int) < (Q6a : Int) := by omega
         have hk0 : (0 : Int) <= (k : Int) := by omega
         have E := qzi (sz := 5) (fun _ => rfl) (qz0 R (bel.mono (by omega)) hbb) k hlt
         clear R
         cases hq : verB Q69 Q6e k A.vers[k]
         ·have hv : qz17 x y z u A = false := by simp [qz17, qz3p (f := (verB A.nodes.length A.camera)) hlt hq]
          go_wp2_with fail
          refine (qz6s _ _ _ bb off _ _ _ _ _ A.vers[k] k _ (by omega) (by omega) hlt (by have := bel.size; omega) E).mono ?_
          rintro e w2 ⟨rfl, b2⟩
          have bel2 : Below Q6j w1 w2 := bel.trans (b2.mono bel.size)
          rw [hq]
          go_wp2
          go_ret
          exact ⟨by rw [hv]; rfl, (K1.trans (bel2.mono (show Q67 <= Q6j by omega)))⟩
         ·have hall' : Hid (∀ j (h : j < Q6a), j < k + 1 -> verB Q69 Q6e j A.vers[j] = true) := fun j h hj => by rcases Nat.lt_or_ge j k with hl | hl; exact hall.out j h hl; obtain rfl : j = k := (by omega); exact hq
          go_wp2_with fail
          refine (qz6s _ _ _ bb off _ _ _ _ _ A.vers[k] k _ (by omega) (by omega) hlt (by have := bel.size; omega) E).mono ?_
          rintro e w2 ⟨rfl, b2⟩
          have bel2 : Below Q6j w1 w2 := bel.trans (b2.mono bel.size)
          rw [hq]
          go_wp2
          go_roundw
          case rel => exact ⟨k + 1, by omega, by go_num, hall', bel2⟩
          case measure => simp [intOf]; omega
        ·have hs3 : Hid (qz2p (verB Q69 Q6e) A.vers = true) := (qz1x (verB Q69 Q6e) A.vers).2 (fun i h => hall.out i h (by omega))
         clear hall
         have hv : qz17 x y z u A = true := by simp only [qz17, hh, hs0.out, hs1.out, hs2.out, hs3.out, Bool.and_self]
         go_wp2
         go_ret
         exact ⟨by rw [hv]; rfl, KK⟩
end
section
attribute [local go_sem ↓] Go.wp_at_zero Go.wp_at_succ
def vrOf (A : Ar) (v : Int) : Vr := A.vers.getD v.toNat ⟨-1, false, -1, -1, 0⟩
def ndOf (A : Ar) (n : Int) : Nd := A.nodes.getD n.toNat ⟨-1, 0, 0⟩
theorem qz2x (A : Ar) (n : Nat) (h : n < Q6a) : vrOf A n = A.vers[n] := by simp [vrOf, h]
theorem qz25 (A : Ar) (n : Nat) (h : n < Q69) : ndOf A n = A.nodes[n] := by simp [ndOf, h]
def qz1z (A : Ar) (v : Int) : Bool := inB v 0 ((Q6a : Int) - 1) && ((vrOf A v).stamp != -1)
def qzez (A : Ar) : Prop := ∀ i (h : i < Q6a), -1 <= A.vers[i].prev /\ A.vers[i].prev < (i : Int)
theorem qz2e {x y z u : Int} {A : Ar} (h : qz17 x y z u A = true) : qz81 x y z u A = true /\ qz2p (fun _ v => inB v (-1) 100) A.slots = true /\ qz2p (fun _ v => inB v 0 ((Q69 : Int) - 1)) A.guides = true /\ qz2p (qz45 Q6a) A.nodes = true /\ qz2p (verB Q69 Q6e) A.vers = true := by
 simp only [qz17, Bool.and_eq_true] at h
 exact ⟨h.1.1.1.1, h.1.1.1.2, h.1.1.2, h.1.2, h.2⟩
theorem qzdv {x y z u : Int} {A : Ar} (h : qz17 x y z u A = true) : qzez A := by
 intro i hi
 have := (qz1x _ _).1 (qz2e h).2.2.2.2 i hi
 simp only [verB, Bool.and_eq_true, qz1b] at this
 omega
theorem qzaz {x y z u : Int} {A : Ar} (h : qz17 x y z u A = true) (n : Nat) (hn : n < Q69) : 0 <= A.nodes[n].head /\ A.nodes[n].head < (Q6a : Int) := by
 have := (qz1x _ _).1 (qz2e h).2.2.2.1 n hn
 unfold qz45 at this
 split at this <;> (simp only [Bool.and_eq_true, qz1b] at this; omega)
theorem qz1n (B : Nat) (A : Ar) (v : Int) (a0 a1 a2 a3 : Option Addr) (c0 c1 c2 c3 : Nat) (w : World) (hB : B <= Q67) (hA : A.size <= 1048576) (I : qz1i B w Q17 Q18 Q1b Q1t A) :
  Calls Try.prog 115 #[.agg Q03, .int .i64 v] w fun e w' => e = .returned (.bool (qz1z A v)) /\ Below Q67 w w' := by
 unfold Ar.size at hA
 have X0 := qz7 w Q0k 30
 have K0 := (Q6c Q67 w).alloc (Q6f _) (.cells Q03 30)
 have hz0 : Q67 < (Q47).heap.size := by simp
 obtain ⟨x0, x1, x2, x3, x4⟩ := row5 X0
 go_enter Try.func115, Try.ntmps115
 go_wp2_with fail
 refine (qz2k _ _ _ _ _ _ _ _ _ (by omega)).mono ?_
 rintro e w1 ⟨rfl, b1⟩
 have X1 := qz0 X0 b1 hz0
 have K1 := K0.trans (b1.mono (by omega))
 have I1 := I.below (K1.mono hB)
 have hz1 := Q6l hz0 b1.size
 clear X0 K0 I b1 hz0 x0 x1 x2 x3 x4
 obtain ⟨x0, x1, x2, x3, x4⟩ := row5 X1
 cases hq : inB v 0 ((Q6a : Int) - 1)
 ·have hv : qz1z A v = false := by simp [qz1z, hq]
  go_wp2
  go_ret
  exact ⟨by first | rfl | (rw [hv]; rfl), K1⟩
 ·have hq' := (qz1b _ _ _).1 hq
  obtain ⟨n, rfl⟩ : ∃ n : Nat, v = n := ⟨v.toNat, by omega⟩
  have hn : n < Q6a := by omega
  have hn' : (n : Int) < (Q6a : Int) := by omega
  have hn0 : (0 : Int) <= (n : Int) := by omega
  have hv : qz1z A n = (A.vers[n].stamp != -1) := by simp [qz1z, hq, qz2x A n hn]
  obtain ⟨bb, off, rfl, hbb, R⟩ := qzs.at I1.r (by omega)
  have hc : w1.cell? ⟨bb, off + n * 5 + 2, none⟩ = some (.int .i64 A.vers[n].stamp) := (qzi (sz := 5) (fun _ => rfl) R n hn) 2 _ rfl
  clear R hq'
  go_wp2
  go_ret
  exact ⟨by first | rfl | (rw [hv]; rfl), K1⟩
end
section
attribute [local go_sem ↓] Go.wp_at_zero Go.wp_at_succ
theorem qz6p {P : Program} (w : World) (base : Nat) (t ty e : TypeId) (i : TypeInfo) (z : Value) (size bytes : Nat) (ht : P.underlying t = some (.slice e)) (hi : P.info? e = some i) (hz : i.zero = some z)
  (hsize : i.size = size) (hby : i.bytes = bytes) (hzs : z.cells.size = size) (hsz : 0 < size) (g : Nat) (hown : w.ownsRow base e size Q40 0 [])
  (B : Nat) (x : Value) (len : Nat) (cs : List Value) (S : qzs B w x len cs) (hl : cs.length = len * size) (h1 : ∀ u ∈ cs, u.oneCell' = true) (h63 : len <= maxLen) (hbytes : len * bytes <= 140737488355328) (hbase : base <= Q67) :
  ∃ v' w', (Builtin.append_ #[t, t] ty #[.slice (some ⟨g, 0, none⟩) 0 0, x]).run P w = .ok v' w' /\ w'.ownsRow base e size v' len cs /\ w.grownBy w' (some g) /\ (v'.ownBlock = some g ∨ v'.ownBlock = some Q67) := by
 obtain ⟨a, cap, rfl, hS⟩ := S
 cases a with
 | none =>
  have h0 : len = 0 := by
   rcases hS with h | ⟨bb, off, h, _⟩
   ·exact h
   ·cases h
  subst h0
  have hc : cs = [] := List.eq_nil_of_length_eq_zero (by simpa using hl)
  subst hc
  have hr := run_append_room_src (P := P) w t t ty e i ht hi g 0 0 0 (.slice none 0 cap) 0 [] (Src.ofNil w ht cap) (by omega) (by simp) (by simp)
  refine ⟨_, _, hr, hown, ⟨rfl, rfl, rfl, Q6f _, fun _ _ _ => rfl⟩, Or.inl rfl⟩
 | some ad =>
  have hnews : ∀ j u, cs[j]? = some u -> w.cell? (ad.add j) = some u := by
   intro j u hj
   rcases hS with h | ⟨bb, off, h, _, R⟩
   ·subst h
    have hc : cs = [] := List.eq_nil_of_length_eq_zero (by simpa using hl)
    subst hc
    cases hj
   ·cases h
    have := R j u hj
    simpa [Addr.add_lit] using this
  obtain ⟨v', w', hr, h2, h3, _, h5⟩ := run_append_own_at (P := P) w base t ty e i z size bytes ht hi hz hsize hby hzs hsz _ 0 [] hown ad len cap cs hl hnews h1 (by simpa using h63) (by simpa using hbytes) hbase
  exact ⟨v', w', hr, by simpa using h2, h3, h5⟩
theorem qz50 {P : Program} (w : World) (base : Nat) (t ty e : TypeId) (i : TypeInfo) (z : Value) (size bytes : Nat) (ht : P.underlying t = some (.slice e)) (hi : P.info? e = some i) (hz : i.zero = some z)
  (hsize : i.size = size) (hby : i.bytes = bytes) (hzs : z.cells.size = size) (hsz : 0 < size) (g : Nat)
  (B : Nat) (x : Value) (len : Nat) (cs : List Value) (S : qzs B w x len cs) (hp : 0 < len) (hl : cs.length = len * size) (h1 : ∀ u ∈ cs, u.oneCell' = true) (h63 : len <= maxLen) (hbytes : len * bytes <= 140737488355328) (hbase : base <= Q67) :
  ∃ cap w', (Builtin.append_ #[t, t] ty #[.slice (some ⟨g, 0, none⟩) 0 0, x]).run P w = .ok (.slice (some ⟨Q67, 0, none⟩) len cap) w' /\ w'.ownsRow base e size (.slice (some ⟨Q67, 0, none⟩) len cap) len cs /\ Below Q67 w w' /\ Q67 < w'.heap.size := by
 subst hsize
 subst hby
 obtain ⟨a, c, rfl, hS⟩ := S
 obtain ⟨bb, off, rfl, _, R⟩ : ∃ bb off, a = some ⟨bb, off, none⟩ /\ bb < B /\ w.rangeAt bb off cs := by
  rcases hS with h | h
  ·omega
  ·exact h
 have hnews : ∀ j u, cs[j]? = some u -> w.cell? ((⟨bb, off, none⟩ : Addr).add j) = some u := fun j u hj => by
  have := R j u hj
  simpa [Addr.add_lit] using this
 have hsmall : len <= 9223372036854775807 := by simp only [maxLen] at h63; omega
 have hr := run_append_grow (P := P) w t ty e i z ht hi hz ⟨g, 0, none⟩ 0 0 [] (by simp) (fun j u h => by cases h) ⟨bb, off, none⟩ len c cs hl hnews (by omega) (by omega) (growslice_fits (by omega) (by simpa using hbytes))
 simp only [Nat.zero_add] at hr
 have hge := grownCap_ge w len 0 e
 have hcm : grownCap w len 0 e <= maxLen := grownCap_le_maxLen w len 0 e h63
 refine ⟨_, _, hr, ⟨hl, .inr ⟨Q67, _, _, rfl, hbase, heap_alloc_new w.drew _, hge, hcm, ?_, ?_⟩⟩, ⟨rfl, rfl, rfl, by simp, fun k hk => Below.heap_alloc w.drew _ k hk⟩, by simp⟩
 ·simp only [Array.size_append, List.size_toArray, size_zeroCells, hzs, hl, <- Nat.add_mul, List.length_nil, Nat.zero_add]
  congr 1
  omega
 ·simp only [Array.toList_append, List.append_assoc]
  rw [<- hl]
  simp
theorem qz5j {P : Program} {ops : Array Oper} {rest : List Oper} {o : Oper} {a : Act} {w : World} {Q : Exit -> Act -> World -> Prop} (hgd : o.guard = none) (s x : Operand) (t : TypeId)
  (ho : o.op = .call { callee := .builtin .append, args := #[s, x], argTypes := #[t, t] }) (base : Nat) (e : TypeId) (i : TypeInfo) (z : Value) (size bytes : Nat) (ht : P.underlying t = some (.slice e)) (hi : P.info? e = some i) (hz : i.zero = some z)
  (hsize : i.size = size) (hby : i.bytes = bytes) (hzs : z.cells.size = size) (hsz : 0 < size) (g : Nat) (hs : a.eval s = .slice (some ⟨g, 0, none⟩) 0 0) (hown : w.ownsRow base e size Q40 0 [])
  (B : Nat) (X : Value) (hx : a.eval x = X) (len : Nat) (cs : List Value) (S : qzs B w X len cs) (hl : cs.length = len * size) (h1 : ∀ u ∈ cs, u.oneCell' = true) (h63 : len <= maxLen) (hbytes : len * bytes <= 140737488355328) (hbase : base <= Q67)
  (h : ∀ v' w', w'.ownsRow base e size v' len cs -> w.grownBy w' (some g) -> (v'.ownBlock = some g ∨ v'.ownBlock = some Q67) -> wpList P ops Q rest (a.put o.dst v') w') : wpList P ops Q (o :: rest) a w := by
 refine wpList_plain hgd fun K hK => ?_
 obtain ⟨v', w', hr, h2, h3, h5⟩ := qz6p (P := P) w base t o.type e i z size bytes ht hi hz hsize hby hzs hsz g hown B X len cs S hl h1 h63 hbytes hbase
 unfold Oper.wp
 simp [execOp, ho, resolve, invoke, builtin, hs, hx, hr, Result.andThen, Oper.upon]
 exact hK _ _ (h v' w' h2 h3 h5)
theorem qz3q {α : Type} {f : α -> List Value} (hf : ∀ x, ∀ u ∈ f x, u.oneCell' = true) (l : List α) : ∀ u ∈ qze f l, u.oneCell' = true := by
 intro u hu
 unfold qze at hu
 obtain ⟨x, _, hx⟩ := List.mem_flatMap.1 hu
 exact hf x u hx
theorem qzbg : ∀ (x : Int), ∀ u ∈ intC x, u.oneCell' = true := by
 intro x u hu
 simp [intC] at hu
 subst hu
 rfl
theorem qzd2 : ∀ (x : Nd), ∀ u ∈ ndC x, u.oneCell' = true := by
 intro x u hu
 simp [ndC] at hu
 rcases hu with rfl | rfl | rfl <;> rfl
theorem qzbr : ∀ (x : Vr), ∀ u ∈ vrC x, u.oneCell' = true := by
 intro x u hu
 simp [vrC] at hu
 rcases hu with rfl | rfl | rfl | rfl | rfl <;> rfl
theorem qz6c (B : Nat) (v : Value) (l : List Int) (w : World) (hB : B <= Q67) (hl : l.length <= 1048576) (S : qzs B w v l.length (qze intC l)) :
  Calls Try.prog 99 #[v] w fun e w' => ∃ v', e = .returned v' /\ w'.ownsRow Q67 2 1 v' l.length (qze intC l) /\ Below Q67 w w' := by
 obtain ⟨i0, hi, hzr, hsz, hby⟩ := info_parts qz6b
 have O0 := World.ownsRow_lit (base := Q67) (e := 2) (size := 1) w #[] 0 (by simp) (by decide) (by simp)
 have al := (Q6c Q67 w).alloc (Q6f _) (.cells #[] 2)
 have S1 := S.below (al.mono hB)
 obtain ⟨a, cap, rfl, hS⟩ := id S
 go_enter Try.func99, Try.ntmps99
 go_wp2_with (at_builtin; refine qz5j rfl _ _ 26 rfl w.heap.size 2 i0 (.int .i64 0) 1 8 Try.underlying26 hi hzr hsz hby rfl (by decide) w.heap.size rfl O0 B (.slice a l.length cap) rfl l.length (qze intC l) S1 (by rw [qz1o (sz := 1) (fun _ => rfl)]) (qz3q qzbg l) (by unfold maxLen; omega) (by omega) (by simp) ?_)
 intro v' w1 hown hgrow _
 have K1 := al.grown hgrow (by simp) (fun j e => by cases e; exact Q6f _)
 obtain ⟨va, vc, rfl⟩ := qzg hown
 go_wp2
 go_ret
 exact ⟨_, rfl, hown, K1⟩
end
end Go.Proofs.Ythjkdnlmopafkaa
