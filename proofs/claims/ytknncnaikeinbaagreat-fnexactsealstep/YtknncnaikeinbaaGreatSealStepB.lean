/-
  What the law's proof goes by, part 2.
-/
import Derived.Orders
import Derived.Deep.MidRow
import Derived.Below
import Derived.Deep.Quiet
import Derived.Deep.QuietTactic
import Derived.Test.YtknncnaikeinbaaGreatSealStepA
namespace Go.Proofs.YtknncnaikeinbaaGreat
open Go.ChangeShapes Go.WideShapes Go.ChangeAt Go.RowKit
set_option maxRecDepth 100000
set_option maxHeartbeats 16000000
set_option linter.unusedVariables false
set_option linter.unusedSimpArgs false
set_option linter.unnecessarySimpa false
set_option linter.unusedSectionVars false
section
attribute [local go_sem ↓] Go.wp_at_zero Go.wp_at_succ
def qz3c (nv : Int) (i : Nat) (x : Nd) : Bool :=
 if i = 0 then (x.key == -1) && (x.value == 0) && inB x.head 0 (nv - 1) else inB x.key 0 63 && inB x.value 0 9999 && inB x.head 0 (nv - 1)
def verB (nn cam : Int) (i : Nat) (v : Vr) : Bool :=
 ((v.next == -1) || inB v.next 1 (nn - 1)) && inB v.stamp (-1) cam && inB v.prev (-1) ((i : Int) - 1) && inB v.kind 0 2
theorem qzn (n : Int) (w : World) : Calls Tryz.prog 98 #[.int .i64 n] w fun e w' => e = .returned (.bool (inB n 0 100)) /\ w' = w := by
 go_enter Tryz.func98, Tryz.ntmps98
 go_wp2_with (go_at_call 40; refine (qzd _ _ _ _).mono ?_; rintro e w' ⟨rfl, rfl⟩)
 go_ret
 exact ⟨rfl, rfl⟩
theorem qz2v (cam : Int) (s g r : Value) (a : Option Addr) (len cap : Nat) (n : Int) (w : World) (hl : len <= 1048576) :
  Calls Tryz.prog 99 #[.agg #[.int .i64 cam, s, g, .slice a len cap, r], .int .i64 n] w fun e w' => e = .returned (.bool (inB n 0 (len - 1))) /\ Below w.heap.size w w' := by
 go_enter Tryz.func99, Tryz.ntmps99
 go_wp2_with (go_at_call 40; refine (qzd _ _ _ _).mono ?_; rintro e w' ⟨rfl, rfl⟩)
 go_ret
 exact ⟨rfl, (Below.refl _ _).alloc (Nat.le_refl _) _⟩
theorem qz1d (cam : Int) (s g n : Value) (a : Option Addr) (len cap : Nat) (v : Int) (w : World) (hl : len <= 1048576) :
  Calls Tryz.prog 73 #[.agg #[.int .i64 cam, s, g, n, .slice a len cap], .int .i64 v] w fun e w' => e = .returned (.bool (inB v 0 (len - 1))) /\ Below w.heap.size w w' := by
 go_enter Tryz.func73, Tryz.ntmps73
 go_wp2_with (go_at_call 40; refine (qzd _ _ _ _).mono ?_; rintro e w' ⟨rfl, rfl⟩)
 go_ret
 exact ⟨rfl, (Below.refl _ _).alloc (Nat.le_refl _) _⟩
theorem qz4t (cam : Int) (s g : Value) (bb off len cap : Nat) (a4 : Option Addr) (n4 c4 : Nat) (x : Nd) (i : Nat) (w : World) (hl : len <= 1048576) (h4 : n4 <= 1048576) (hi : i < len) (hb : bb < w.heap.size) (R : w.rangeAt bb (off + i * 3) (ndC x)) :
  Calls Tryz.prog 100 #[.agg #[.int .i64 cam, s, g, .slice (some ⟨bb, off, none⟩) len cap, .slice a4 n4 c4], .int .i64 i] w fun e w' => e = .returned (.bool (qz3c n4 i x)) /\ Below w.heap.size w w' := by
 have hi' : (i : Int) < (len : Int) := by omega
 have f0 : ∀ o : Obj, (w.alloc o).cell? ⟨bb, off + i * 3, none⟩ = some (.int .i64 x.key) := fun o => (World.cell?_alloc_lt _ _ _ hb).trans (R 0 _ rfl)
 have f1 : ∀ o : Obj, (w.alloc o).cell? ⟨bb, off + i * 3 + 1, none⟩ = some (.int .i64 x.value) := fun o => (World.cell?_alloc_lt _ _ _ hb).trans (R 1 _ rfl)
 have f2 : ∀ o : Obj, (w.alloc o).cell? ⟨bb, off + i * 3 + 2, none⟩ = some (.int .i64 x.head) := fun o => (World.cell?_alloc_lt _ _ _ hb).trans (R 2 _ rfl)
 clear R
 by_cases h0 : i = 0
 ·have hi0 : ((i : Int) == 0) = true := by simp; omega
  cases e1 : (x.key == -1)
  ·have hv : qz3c n4 i x = false := by simp [qz3c, h0, e1]
   clear h0
   go_enter Tryz.func100, Tryz.ntmps100
   go_wp2_with (first | (go_at_call 40; refine (qzd _ _ _ _).mono ?_; rintro e w' ⟨rfl, rfl⟩) | (go_at_call 112; refine (qz1v _ _).mono ?_; rintro e w' ⟨rfl, rfl⟩))
   go_ret
   exact ⟨by rw [hv]; rfl, (((Below.refl _ _).alloc (Nat.le_refl _) _).alloc (by simp) _)⟩
  ·cases e2 : (x.value == 0)
   ·have hv : qz3c n4 i x = false := by simp [qz3c, h0, e2]
    clear h0
    go_enter Tryz.func100, Tryz.ntmps100
    go_wp2_with (first | (go_at_call 40; refine (qzd _ _ _ _).mono ?_; rintro e w' ⟨rfl, rfl⟩) | (go_at_call 112; refine (qz1v _ _).mono ?_; rintro e w' ⟨rfl, rfl⟩))
    go_ret
    exact ⟨by rw [hv]; rfl, (((Below.refl _ _).alloc (Nat.le_refl _) _).alloc (by simp) _)⟩
   ·have hv : qz3c n4 i x = inB x.head 0 (n4 - 1) := by simp [qz3c, h0, e1, e2]
    clear h0
    go_enter Tryz.func100, Tryz.ntmps100
    go_wp2_with (first | (go_at_call 40; refine (qzd _ _ _ _).mono ?_; rintro e w' ⟨rfl, rfl⟩) | (go_at_call 112; refine (qz1v _ _).mono ?_; rintro e w' ⟨rfl, rfl⟩) | (go_at_call 73; refine (qz1d _ _ _ _ _ _ _ _ _ h4).mono ?_; rintro e w2 ⟨rfl, b2⟩))
    go_ret
    exact ⟨by rw [hv]; rfl, (((Below.refl _ _).alloc (Nat.le_refl _) _).alloc (by simp) _).trans (b2.mono (by simp; omega))⟩
 ·have hi0 : ((i : Int) == 0) = false := by simp; omega
  cases e1 : inB x.key 0 63
  ·have hv : qz3c n4 i x = false := by simp [qz3c, h0, e1]
   go_enter Tryz.func100, Tryz.ntmps100
   go_wp2_with (first | (go_at_call 40; refine (qzd _ _ _ _).mono ?_; rintro e w' ⟨rfl, rfl⟩) | (go_at_call 112; refine (qz1v _ _).mono ?_; rintro e w' ⟨rfl, rfl⟩))
   go_ret
   exact ⟨by rw [hv]; rfl, (((Below.refl _ _).alloc (Nat.le_refl _) _).alloc (by simp) _)⟩
  ·cases e2 : inB x.value 0 9999
   ·have hv : qz3c n4 i x = false := by simp [qz3c, h0, e2]
    go_enter Tryz.func100, Tryz.ntmps100
    go_wp2_with (first | (go_at_call 40; refine (qzd _ _ _ _).mono ?_; rintro e w' ⟨rfl, rfl⟩) | (go_at_call 112; refine (qz1v _ _).mono ?_; rintro e w' ⟨rfl, rfl⟩))
    go_ret
    exact ⟨by rw [hv]; rfl, (((Below.refl _ _).alloc (Nat.le_refl _) _).alloc (by simp) _)⟩
   ·have hv : qz3c n4 i x = inB x.head 0 (n4 - 1) := by simp [qz3c, h0, e1, e2]
    go_enter Tryz.func100, Tryz.ntmps100
    go_wp2_with (first | (go_at_call 40; refine (qzd _ _ _ _).mono ?_; rintro e w' ⟨rfl, rfl⟩) | (go_at_call 112; refine (qz1v _ _).mono ?_; rintro e w' ⟨rfl, rfl⟩) | (go_at_call 73; refine (qz1d _ _ _ _ _ _ _ _ _ h4).mono ?_; rintro e w2 ⟨rfl, b2⟩))
    go_ret
    exact ⟨by rw [hv]; rfl, (((Below.refl _ _).alloc (Nat.le_refl _) _).alloc (by simp) _).trans (b2.mono (by simp; omega))⟩
theorem qz5t (cam : Int) (s g : Value) (bb off len cap : Nat) (a3 : Option Addr) (n3 c3 : Nat) (x : Vr) (i : Nat) (w : World) (hl : len <= 1048576) (h3 : n3 <= 1048576) (hi : i < len) (hb : bb < w.heap.size) (R : w.rangeAt bb (off + i * 5) (vrC x)) :
  Calls Tryz.prog 101 #[.agg #[.int .i64 cam, s, g, .slice a3 n3 c3, .slice (some ⟨bb, off, none⟩) len cap], .int .i64 i] w fun e w' => e = .returned (.bool (verB n3 cam i x)) /\ Below w.heap.size w w' := by
 have hi' : (i : Int) < (len : Int) := by omega
 have f0 : ∀ o : Obj, (w.alloc o).cell? ⟨bb, off + i * 5, none⟩ = some (.int .i64 x.next) := fun o => (World.cell?_alloc_lt _ _ _ hb).trans (R 0 _ rfl)
 have f1 : ∀ o : Obj, (w.alloc o).cell? ⟨bb, off + i * 5 + 1, none⟩ = some (.bool x.gone) := fun o => (World.cell?_alloc_lt _ _ _ hb).trans (R 1 _ rfl)
 have f2 : ∀ o : Obj, (w.alloc o).cell? ⟨bb, off + i * 5 + 2, none⟩ = some (.int .i64 x.stamp) := fun o => (World.cell?_alloc_lt _ _ _ hb).trans (R 2 _ rfl)
 have f3 : ∀ o : Obj, (w.alloc o).cell? ⟨bb, off + i * 5 + 3, none⟩ = some (.int .i64 x.prev) := fun o => (World.cell?_alloc_lt _ _ _ hb).trans (R 3 _ rfl)
 have f4 : ∀ o : Obj, (w.alloc o).cell? ⟨bb, off + i * 5 + 4, none⟩ = some (.int .i64 x.kind) := fun o => (World.cell?_alloc_lt _ _ _ hb).trans (R 4 _ rfl)
 clear R
 cases e1 : (x.next == -1)
 ·cases e1b : inB x.next 1 ((n3 : Int) - 1)
  ·have hv : verB n3 cam i x = false := by simp [verB, e1, e1b]
   go_enter Tryz.func101, Tryz.ntmps101
   go_wp2_with (go_at_call 40; refine (qzd _ _ _ _).mono ?_; rintro e w' ⟨rfl, rfl⟩)
   go_ret
   exact ⟨by rw [hv]; rfl, (((Below.refl _ _).alloc (Nat.le_refl _) _).alloc (by simp) _)⟩
  ·cases e2 : inB x.stamp (-1) cam
   ·have hv : verB n3 cam i x = false := by simp [verB, e2]
    go_enter Tryz.func101, Tryz.ntmps101
    go_wp2_with (go_at_call 40; refine (qzd _ _ _ _).mono ?_; rintro e w' ⟨rfl, rfl⟩)
    go_ret
    exact ⟨by rw [hv]; rfl, (((Below.refl _ _).alloc (Nat.le_refl _) _).alloc (by simp) _)⟩
   ·cases e3 : inB x.prev (-1) ((i : Int) - 1)
    ·have hv : verB n3 cam i x = false := by simp [verB, e3]
     go_enter Tryz.func101, Tryz.ntmps101
     go_wp2_with (go_at_call 40; refine (qzd _ _ _ _).mono ?_; rintro e w' ⟨rfl, rfl⟩)
     go_ret
     exact ⟨by rw [hv]; rfl, (((Below.refl _ _).alloc (Nat.le_refl _) _).alloc (by simp) _)⟩
    ·have hv : verB n3 cam i x = inB x.kind 0 2 := by simp [verB, e1b, e2, e3]
     go_enter Tryz.func101, Tryz.ntmps101
     go_wp2_with (go_at_call 40; refine (qzd _ _ _ _).mono ?_; rintro e w' ⟨rfl, rfl⟩)
     go_ret
     exact ⟨by rw [hv]; rfl, (((Below.refl _ _).alloc (Nat.le_refl _) _).alloc (by simp) _)⟩
 ·cases e2 : inB x.stamp (-1) cam
  ·have hv : verB n3 cam i x = false := by simp [verB, e2]
   go_enter Tryz.func101, Tryz.ntmps101
   go_wp2_with (go_at_call 40; refine (qzd _ _ _ _).mono ?_; rintro e w' ⟨rfl, rfl⟩)
   go_ret
   exact ⟨by rw [hv]; rfl, (((Below.refl _ _).alloc (Nat.le_refl _) _).alloc (by simp) _)⟩
  ·cases e3 : inB x.prev (-1) ((i : Int) - 1)
   ·have hv : verB n3 cam i x = false := by simp [verB, e3]
    go_enter Tryz.func101, Tryz.ntmps101
    go_wp2_with (go_at_call 40; refine (qzd _ _ _ _).mono ?_; rintro e w' ⟨rfl, rfl⟩)
    go_ret
    exact ⟨by rw [hv]; rfl, (((Below.refl _ _).alloc (Nat.le_refl _) _).alloc (by simp) _)⟩
   ·have hv : verB n3 cam i x = inB x.kind 0 2 := by simp [verB, e1, e2, e3]
    go_enter Tryz.func101, Tryz.ntmps101
    go_wp2_with (go_at_call 40; refine (qzd _ _ _ _).mono ?_; rintro e w' ⟨rfl, rfl⟩)
    go_ret
    exact ⟨by rw [hv]; rfl, (((Below.refl _ _).alloc (Nat.le_refl _) _).alloc (by simp) _)⟩
def qz1g {α : Type} (f : Nat -> α -> Bool) (l : List α) : Bool := l.zipIdx.all fun p => f p.2 p.1
theorem qz1e {α : Type} (f : Nat -> α -> Bool) (l : List α) : qz1g f l = true ↔ ∀ i (h : i < l.length), f i l[i] = true := by
 unfold qz1g
 rw [List.all_eq_true]
 constructor
 ·intro h i hi
  exact h (l[i], i) (by rw [List.mem_zipIdx_iff_getElem?]; simp [hi])
 ·rintro h ⟨x, i⟩ hm
  rw [List.mem_zipIdx_iff_getElem?] at hm
  obtain ⟨hi, e⟩ := List.getElem?_eq_some_iff.1 hm
  have := h i hi
  rw [e] at this
  exact this
theorem qz2i {α : Type} {f : Nat -> α -> Bool} {l : List α} {i : Nat} (hi : i < l.length) (h : f i l[i] = false) : qz1g f l = false := by
 cases e : qz1g f l
 ·rfl
 ·have := (qz1e f l).1 e i hi
  rw [h] at this
  cases this
def qz84 (x y z u : Int) (A : Ar) : Bool :=
 qz3e x y z u && inB A.camera 0 100 && ((A.slots.length : Int) == x) && ((A.guides.length : Int) == u) && inB A.nodes.length 1 y && inB A.vers.length 1 z
def qz14 (x y z u : Int) (A : Ar) : Bool :=
 qz84 x y z u A && qz1g (fun _ v => inB v (-1) 100) A.slots && qz1g (fun _ v => inB v 0 ((A.nodes.length : Int) - 1)) A.guides && qz1g (qz3c A.vers.length) A.nodes && qz1g (verB A.nodes.length A.camera) A.vers
theorem qzh.at {B : Nat} {w : World} {a : Option Addr} {len cap : Nat} {cs : List Value} (S : qzh B w (.slice a len cap) len cs) (hp : 0 < len) : ∃ bb off, a = some ⟨bb, off, none⟩ /\ bb < B /\ w.rangeAt bb off cs := by
 obtain ⟨a', cap', e, h⟩ := S
 injection e with e1 _ _
 subst e1
 rcases h with h | h
 ·omega
 ·exact h
theorem qz5g (B : Nat) (A : Ar) (x y z u : Int) (a0 a1 a2 a3 : Option Addr) (c0 c1 c2 c3 : Nat) (w : World) (hB : B <= w.heap.size) (hA : A.size <= 1048576) (I : qzi B w (.slice a0 A.slots.length c0) (.slice a1 A.guides.length c1) (.slice a2 A.nodes.length c2) (.slice a3 A.vers.length c3) A) :
  Calls Tryz.prog 69 #[.agg #[.int .i64 x, .int .i64 y, .int .i64 z, .int .i64 u], .agg #[.int .i64 A.camera, .slice a0 A.slots.length c0, .slice a1 A.guides.length c1, .slice a2 A.nodes.length c2, .slice a3 A.vers.length c3]] w fun e w' => e = .returned (.bool (qz14 x y z u A)) /\ Below w.heap.size w w' := by
 unfold Ar.size at hA
 have P0 := (qz2u w x y z u 43).below ((Below.refl _ _).alloc (Nat.le_refl _) (.cells #[.int .i64 A.camera, .slice a0 A.slots.length c0, .slice a1 A.guides.length c1, .slice a2 A.nodes.length c2, .slice a3 A.vers.length c3] 35)) (by simp)
 have X0 : World.rangeAt ((w.alloc (.cells #[.int .i64 x, .int .i64 y, .int .i64 z, .int .i64 u] 43)).alloc (.cells #[.int .i64 A.camera, .slice a0 A.slots.length c0, .slice a1 A.guides.length c1, .slice a2 A.nodes.length c2, .slice a3 A.vers.length c3] 35)) (w.heap.size + 1) 0 [.int .i64 A.camera, .slice a0 A.slots.length c0, .slice a1 A.guides.length c1, .slice a2 A.nodes.length c2, .slice a3 A.vers.length c3] := by
  have h := qz5 (w.alloc (.cells #[.int .i64 x, .int .i64 y, .int .i64 z, .int .i64 u] 43)) [.int .i64 A.camera, .slice a0 A.slots.length c0, .slice a1 A.guides.length c1, .slice a2 A.nodes.length c2, .slice a3 A.vers.length c3] 35
  simp only [World.size_alloc] at h
  exact h
 have K0 := ((Below.refl w.heap.size w).alloc (Nat.le_refl _) (.cells #[.int .i64 x, .int .i64 y, .int .i64 z, .int .i64 u] 43)).alloc (by simp) (.cells #[.int .i64 A.camera, .slice a0 A.slots.length c0, .slice a1 A.guides.length c1, .slice a2 A.nodes.length c2, .slice a3 A.vers.length c3] 35)
 have hz0 : w.heap.size + 1 < ((w.alloc (.cells #[.int .i64 x, .int .i64 y, .int .i64 z, .int .i64 u] 43)).alloc (.cells #[.int .i64 A.camera, .slice a0 A.slots.length c0, .slice a1 A.guides.length c1, .slice a2 A.nodes.length c2, .slice a3 A.vers.length c3] 35)).heap.size := by simp
 go_enter Tryz.func69, Tryz.ntmps69
 go_wp2_with fail
 refine (qz40 _ _ _ _ _).mono ?_
 rintro e w1 ⟨rfl, b1⟩
 have P1 := P0.below b1 (by omega)
 have X1 := qz0 X0 b1 hz0
 have K1 := K0.trans (b1.mono (by omega))
 have I1 := I.below (K1.mono hB)
 have hz1 := Nat.lt_of_lt_of_le hz0 b1.size
 clear P0 X0 K0 I b1 hz0
 have P1' := P1
 obtain ⟨p0, p1, p2, p3⟩ := P1'
 obtain ⟨x0, x1, x2, x3, x4⟩ := row5 X1
 cases h1 : qz3e x y z u
 ·have hv : qz14 x y z u A = false := by simp [qz14, qz84, h1]
  go_wp2_with (first | (go_at_call 98; refine (qzn _ _).mono ?_; rintro e w' ⟨rfl, hw⟩; obtain rfl := hw.symm) | (go_at_call 40; refine (qzd _ _ _ _).mono ?_; rintro e w' ⟨rfl, hw⟩; obtain rfl := hw.symm))
  go_ret
  exact ⟨by rw [hv]; rfl, K1⟩
 cases h2 : inB A.camera 0 100
 ·have hv : qz14 x y z u A = false := by simp [qz14, qz84, h2]
  go_wp2_with (first | (go_at_call 98; refine (qzn _ _).mono ?_; rintro e w' ⟨rfl, hw⟩; obtain rfl := hw.symm) | (go_at_call 40; refine (qzd _ _ _ _).mono ?_; rintro e w' ⟨rfl, hw⟩; obtain rfl := hw.symm))
  go_ret
  exact ⟨by rw [hv]; rfl, K1⟩
 by_cases h3 : (A.slots.length : Int) = x
 case neg =>
  have h3' : ((A.slots.length : Int) != x) = true := by simpa using h3
  have h3b : ((A.slots.length : Int) == x) = false := by simpa using h3
  have hv : qz14 x y z u A = false := by simp [qz14, qz84, h3b]
  go_wp2_with (first | (go_at_call 98; refine (qzn _ _).mono ?_; rintro e w' ⟨rfl, hw⟩; obtain rfl := hw.symm) | (go_at_call 40; refine (qzd _ _ _ _).mono ?_; rintro e w' ⟨rfl, hw⟩; obtain rfl := hw.symm))
  go_ret
  exact ⟨by rw [hv]; rfl, K1⟩
 have h3' : ((A.slots.length : Int) != x) = false := by simpa using h3
 by_cases h4 : (A.guides.length : Int) = u
 case neg =>
  have h4' : ((A.guides.length : Int) != u) = true := by simpa using h4
  have h4b : ((A.guides.length : Int) == u) = false := by simpa using h4
  have hv : qz14 x y z u A = false := by simp [qz14, qz84, h4b]
  go_wp2_with (first | (go_at_call 98; refine (qzn _ _).mono ?_; rintro e w' ⟨rfl, hw⟩; obtain rfl := hw.symm) | (go_at_call 40; refine (qzd _ _ _ _).mono ?_; rintro e w' ⟨rfl, hw⟩; obtain rfl := hw.symm))
  go_ret
  exact ⟨by rw [hv]; rfl, K1⟩
 have h4' : ((A.guides.length : Int) != u) = false := by simpa using h4
 cases h5 : inB A.nodes.length 1 y
 ·have h35 : qz14 x y z u A = false := by simp [qz14, qz84, h5]
  have H3 : Hid _ := h3
  have H4 : Hid _ := h4
  clear h3 h4
  go_wp2_with (first | (go_at_call 98; refine (qzn _ _).mono ?_; rintro e w' ⟨rfl, hw⟩; obtain rfl := hw.symm) | (go_at_call 40; refine (qzd _ _ _ _).mono ?_; rintro e w' ⟨rfl, hw⟩; obtain rfl := hw.symm))
  go_ret
  exact ⟨by rw [h35]; rfl, K1⟩
 cases h6 : inB A.vers.length 1 z
 ·have h36 : qz14 x y z u A = false := by simp [qz14, qz84, h6]
  clear h3 h4
  go_wp2_with (first | (go_at_call 98; refine (qzn _ _).mono ?_; rintro e w' ⟨rfl, hw⟩; obtain rfl := hw.symm) | (go_at_call 40; refine (qzd _ _ _ _).mono ?_; rintro e w' ⟨rfl, hw⟩; obtain rfl := hw.symm))
  go_ret
  exact ⟨by rw [h36]; rfl, K1⟩
 have hh : qz84 x y z u A = true := by simp [qz84, h1, h2, h3, h4, h5, h6]
 clear h3 h4
 go_wp2_with (first | (go_at_call 98; refine (qzn _ _).mono ?_; rintro e w' ⟨rfl, hw⟩; obtain rfl := hw.symm) | (go_at_call 40; refine (qzd _ _ _ _).mono ?_; rintro e w' ⟨rfl, hw⟩; obtain rfl := hw.symm))
 clear x0 x1 x2 x3 x4 p0 p1 p2 p3 P1 h1 h2 h3' h4' h5 h6
 go_loopw [5] (fun i wr => ∃ k : Nat, k <= A.slots.length /\ i = .int .i64 k /\ Hid (∀ j (h : j < A.slots.length), j < k -> inB A.slots[j] (-1) 100 = true) /\ Below w1.heap.size w1 wr) (fun i _ => A.slots.length - (intOf i).toNat)
 case atStart => exact ⟨0, Nat.zero_le _, rfl, fun _ _ h => absurd h (by omega), Below.refl _ _⟩
 case round =>
  obtain ⟨k, hk, rfl, hall, bel⟩ := hrel
  obtain ⟨x0, x1, x2, x3, x4⟩ := row5 (qz0 X1 bel hz1)
  have KK := K1.trans (bel.mono (show w.heap.size <= w1.heap.size by omega))
  by_cases hlt : k < A.slots.length
  ·obtain ⟨bb, off, rfl, hbb, R⟩ := qzh.at I1.s (by omega)
   have hlt' : (k : Int) < (A.slots.length : Int) := by omega
   have hk0 : (0 : Int) <= (k : Int) := by omega
   have hc : wr.cell? ⟨bb, off + k, none⟩ = some (.int .i64 A.slots[k]) := (qz0 R (bel.mono (by omega)) hbb) k (.int .i64 A.slots[k]) (by have := qz1i (f := intC) (sz := 1) (fun _ => rfl) A.slots k hlt 0 (by omega); simpa [intC] using this)
   clear R
   cases hq : inB A.slots[k] (-1) 100
   ·have hv : qz14 x y z u A = false := by simp [qz14, qz2i (f := (fun _ v => inB v (-1) 100)) hlt hq]
    go_wp2_with (go_at_call 40; refine (qzd _ _ _ _).mono ?_; rintro e w' ⟨rfl, hw⟩; obtain rfl := hw.symm)
    go_ret
    exact ⟨by rw [hv]; rfl, KK⟩
   ·have hall' : Hid (∀ j (h : j < A.slots.length), j < k + 1 -> inB A.slots[j] (-1) 100 = true) := fun j h hj => by rcases Nat.lt_or_ge j k with hl | hl; exact hall.out j h hl; obtain rfl : j = k := (by omega); exact hq
    go_wp2_with (go_at_call 40; refine (qzd _ _ _ _).mono ?_; rintro e w' ⟨rfl, hw⟩; obtain rfl := hw.symm)
    go_roundw
    case rel => exact ⟨k + 1, by omega, by go_num, hall', bel⟩
    case measure => simp [intOf]; omega
  ·have hs0 : Hid (qz1g (fun _ v => inB v (-1) 100) A.slots = true) := (qz1e (fun _ v => inB v (-1) 100) A.slots).2 (fun i h => hall.out i h (by omega))
   clear hall
   have bel0 := bel
   clear bel
   obtain ⟨wo0, rfl⟩ : ∃ wo : World, wo = wr := ⟨_, rfl⟩
   go_wp2
   clear x0 x1 x2 x3 x4 KK hlt
   go_loopw [6] (fun i wr => ∃ k : Nat, k <= A.guides.length /\ i = .int .i64 k /\ Hid (∀ j (h : j < A.guides.length), j < k -> inB A.guides[j] 0 ((A.nodes.length : Int) - 1) = true) /\ Below w1.heap.size w1 wr) (fun i _ => A.guides.length - (intOf i).toNat)
   case atStart => exact ⟨0, Nat.zero_le _, rfl, fun _ _ h => absurd h (by omega), bel0⟩
   case round =>
    obtain ⟨k, hk, rfl, hall, bel⟩ := hrel
    obtain ⟨x0, x1, x2, x3, x4⟩ := row5 (qz0 X1 bel hz1)
    have KK := K1.trans (bel.mono (show w.heap.size <= w1.heap.size by omega))
    by_cases hlt : k < A.guides.length
    ·obtain ⟨bb, off, rfl, hbb, R⟩ := qzh.at I1.g (by omega)
     have hlt' : (k : Int) < (A.guides.length : Int) := by omega
     have hk0 : (0 : Int) <= (k : Int) := by omega
     have hc : wr.cell? ⟨bb, off + k, none⟩ = some (.int .i64 A.guides[k]) := (qz0 R (bel.mono (by omega)) hbb) k (.int .i64 A.guides[k]) (by have := qz1i (f := intC) (sz := 1) (fun _ => rfl) A.guides k hlt 0 (by omega); simpa [intC] using this)
     clear R
     cases hq : inB A.guides[k] 0 ((A.nodes.length : Int) - 1)
     ·have hv : qz14 x y z u A = false := by simp [qz14, qz2i (f := (fun _ v => inB v 0 ((A.nodes.length : Int) - 1))) hlt hq]
      go_wp2
      go_region_held3 (fun w' => w'.cell? ⟨w.heap.size + 1, 0, none⟩ = some (.int .i64 A.camera) /\ w'.cell? ⟨w.heap.size + 1, 1, none⟩ = some (.slice a0 A.slots.length c0) /\ w'.cell? ⟨w.heap.size + 1, 2, none⟩ = some (.slice (some ⟨bb, off, none⟩) A.guides.length c1) /\ w'.cell? ⟨w.heap.size + 1, 3, none⟩ = some (.slice a2 A.nodes.length c2) /\ w'.cell? ⟨w.heap.size + 1, 4, none⟩ = some (.slice a3 A.vers.length c3) /\ w'.cell? ⟨bb, off + k, none⟩ = some (.int .i64 A.guides[k])) (go_keep) ((go_at_call 99; refine (qz2v _ _ _ _ _ _ _ _ _ (by omega)).mono ?_; rintro e w2 ⟨rfl, b2⟩; have bel2 : Below w1.heap.size w1 w2 := bel.drew.trans (b2.mono (by exact bel.size)); obtain ⟨y0, y1, y2, y3, y4⟩ := row5 (qz0 X1 bel2 hz1); have hc2 : w2.cell? ⟨bb, off + k, none⟩ = some (.int .i64 A.guides[k]) := (b2.cell (p := ⟨bb, off + k, none⟩) (by have := bel.size; show bb < wr.heap.size; omega)).trans hc))
      go_wp2
      go_ret
      exact ⟨by rw [hv]; rfl, (K1.trans (bel2.mono (show w.heap.size <= w1.heap.size by omega)))⟩
     ·have hall' : Hid (∀ j (h : j < A.guides.length), j < k + 1 -> inB A.guides[j] 0 ((A.nodes.length : Int) - 1) = true) := fun j h hj => by rcases Nat.lt_or_ge j k with hl | hl; exact hall.out j h hl; obtain rfl : j = k := (by omega); exact hq
      go_wp2
      go_region_held3 (fun w' => w'.cell? ⟨w.heap.size + 1, 0, none⟩ = some (.int .i64 A.camera) /\ w'.cell? ⟨w.heap.size + 1, 1, none⟩ = some (.slice a0 A.slots.length c0) /\ w'.cell? ⟨w.heap.size + 1, 2, none⟩ = some (.slice (some ⟨bb, off, none⟩) A.guides.length c1) /\ w'.cell? ⟨w.heap.size + 1, 3, none⟩ = some (.slice a2 A.nodes.length c2) /\ w'.cell? ⟨w.heap.size + 1, 4, none⟩ = some (.slice a3 A.vers.length c3) /\ w'.cell? ⟨bb, off + k, none⟩ = some (.int .i64 A.guides[k])) (go_keep) ((go_at_call 99; refine (qz2v _ _ _ _ _ _ _ _ _ (by omega)).mono ?_; rintro e w2 ⟨rfl, b2⟩; have bel2 : Below w1.heap.size w1 w2 := bel.drew.trans (b2.mono (by exact bel.size)); obtain ⟨y0, y1, y2, y3, y4⟩ := row5 (qz0 X1 bel2 hz1); have hc2 : w2.cell? ⟨bb, off + k, none⟩ = some (.int .i64 A.guides[k]) := (b2.cell (p := ⟨bb, off + k, none⟩) (by have := bel.size; show bb < wr.heap.size; omega)).trans hc))
      go_wp2
      go_roundw
      case rel => exact ⟨k + 1, by omega, by go_num, hall', bel2⟩
      case measure => simp [intOf]; omega
    ·have hs1 : Hid (qz1g (fun _ v => inB v 0 ((A.nodes.length : Int) - 1)) A.guides = true) := (qz1e (fun _ v => inB v 0 ((A.nodes.length : Int) - 1)) A.guides).2 (fun i h => hall.out i h (by omega))
     clear hall
     have bel1 := bel
     clear bel
     obtain ⟨wo1, rfl⟩ : ∃ wo : World, wo = wr := ⟨_, rfl⟩
     go_wp2
     clear x0 x1 x2 x3 x4 KK hlt
     go_loopw [7] (fun i wr => ∃ k : Nat, k <= A.nodes.length /\ i = .int .i64 k /\ Hid (∀ j (h : j < A.nodes.length), j < k -> qz3c A.vers.length j A.nodes[j] = true) /\ Below w1.heap.size w1 wr) (fun i _ => A.nodes.length - (intOf i).toNat)
     case atStart => exact ⟨0, Nat.zero_le _, rfl, fun _ _ h => absurd h (by omega), bel1⟩
     case round =>
      obtain ⟨k, hk, rfl, hall, bel⟩ := hrel
      obtain ⟨x0, x1, x2, x3, x4⟩ := row5 (qz0 X1 bel hz1)
      have KK := K1.trans (bel.mono (show w.heap.size <= w1.heap.size by omega))
      by_cases hlt : k < A.nodes.length
      ·obtain ⟨bb, off, rfl, hbb, R⟩ := qzh.at I1.n (by omega)
       have hlt' : (k : Int) < (A.nodes.length : Int) := by omega
       have hk0 : (0 : Int) <= (k : Int) := by omega
       have E := qza (sz := 3) (fun _ => rfl) (qz0 R (bel.mono (by omega)) hbb) k hlt
       clear R
       cases hq : qz3c A.vers.length k A.nodes[k]
       ·have hv : qz14 x y z u A = false := by simp [qz14, qz2i (f := (qz3c A.vers.length)) hlt hq]
        go_wp2_with fail
        refine (qz4t _ _ _ bb off _ _ _ _ _ A.nodes[k] k _ (by omega) (by omega) hlt (by have := bel.size; omega) E).mono ?_
        rintro e w2 ⟨rfl, b2⟩
        have bel2 : Below w1.heap.size w1 w2 := bel.trans (b2.mono bel.size)
        rw [hq]
        go_wp2
        go_ret
        exact ⟨by rw [hv]; rfl, (K1.trans (bel2.mono (show w.heap.size <= w1.heap.size by omega)))⟩
       ·have hall' : Hid (∀ j (h : j < A.nodes.length), j < k + 1 -> qz3c A.vers.length j A.nodes[j] = true) := fun j h hj => by rcases Nat.lt_or_ge j k with hl | hl; exact hall.out j h hl; obtain rfl : j = k := (by omega); exact hq
        go_wp2_with fail
        refine (qz4t _ _ _ bb off _ _ _ _ _ A.nodes[k] k _ (by omega) (by omega) hlt (by have := bel.size; omega) E).mono ?_
        rintro e w2 ⟨rfl, b2⟩
        have bel2 : Below w1.heap.size w1 w2 := bel.trans (b2.mono bel.size)
        rw [hq]
        go_wp2
        go_roundw
        case rel => exact ⟨k + 1, by omega, by go_num, hall', bel2⟩
        case measure => simp [intOf]; omega
      ·have hs2 : Hid (qz1g (qz3c A.vers.length) A.nodes = true) := (qz1e (qz3c A.vers.length) A.nodes).2 (fun i h => hall.out i h (by omega))
       clear hall
       have bel2 := bel
       clear bel
       obtain ⟨wo2, rfl⟩ : ∃ wo : World, wo = wr := ⟨_, rfl⟩
       go_wp2
       clear x0 x1 x2 x3 x4 KK hlt
       go_loopw [8] (fun i wr => ∃ k : Nat, k <= A.vers.length /\ i = .int .i64 k /\ Hid (∀ j (h : j < A.vers.length), j < k -> verB A.nodes.length A.camera j A.vers[j] = true) /\ Below w1.heap.size w1 wr) (fun i _ => A.vers.length - (intOf i).toNat)
       case atStart => exact ⟨0, Nat.zero_le _, rfl, fun _ _ h => absurd h (by omega), bel2⟩
       case round =>
        obtain ⟨k, hk, rfl, hall, bel⟩ := hrel
        obtain ⟨x0, x1, x2, x3, x4⟩ := row5 (qz0 X1 bel hz1)
        have KK := K1.trans (bel.mono (show w.heap.size <= w1.heap.size by omega))
        by_cases hlt : k < A.vers.length
        ·obtain ⟨bb, off, rfl, hbb, R⟩ := qzh.at I1.r (by omega)
         have hlt' : (k : Int) < (A.vers.length : Int) := by omega
         have hk0 : (0 : Int) <= (k : Int) := by omega
         have E := qza (sz := 5) (fun _ => rfl) (qz0 R (bel.mono (by omega)) hbb) k hlt
         clear R
         cases hq : verB A.nodes.length A.camera k A.vers[k]
         ·have hv : qz14 x y z u A = false := by simp [qz14, qz2i (f := (verB A.nodes.length A.camera)) hlt hq]
          go_wp2_with fail
          refine (qz5t _ _ _ bb off _ _ _ _ _ A.vers[k] k _ (by omega) (by omega) hlt (by have := bel.size; omega) E).mono ?_
          rintro e w2 ⟨rfl, b2⟩
          have bel2 : Below w1.heap.size w1 w2 := bel.trans (b2.mono bel.size)
          rw [hq]
          go_wp2
          go_ret
          exact ⟨by rw [hv]; rfl, (K1.trans (bel2.mono (show w.heap.size <= w1.heap.size by omega)))⟩
         ·have hall' : Hid (∀ j (h : j < A.vers.length), j < k + 1 -> verB A.nodes.length A.camera j A.vers[j] = true) := fun j h hj => by rcases Nat.lt_or_ge j k with hl | hl; exact hall.out j h hl; obtain rfl : j = k := (by omega); exact hq
          go_wp2_with fail
          refine (qz5t _ _ _ bb off _ _ _ _ _ A.vers[k] k _ (by omega) (by omega) hlt (by have := bel.size; omega) E).mono ?_
          rintro e w2 ⟨rfl, b2⟩
          have bel2 : Below w1.heap.size w1 w2 := bel.trans (b2.mono bel.size)
          rw [hq]
          go_wp2
          go_roundw
          case rel => exact ⟨k + 1, by omega, by go_num, hall', bel2⟩
          case measure => simp [intOf]; omega
        ·have hs3 : Hid (qz1g (verB A.nodes.length A.camera) A.vers = true) := (qz1e (verB A.nodes.length A.camera) A.vers).2 (fun i h => hall.out i h (by omega))
         clear hall
         have hv : qz14 x y z u A = true := by simp only [qz14, hh, hs0.out, hs1.out, hs2.out, hs3.out, Bool.and_self]
         go_wp2
         go_ret
         exact ⟨by rw [hv]; rfl, KK⟩
end
section
attribute [local go_sem ↓] Go.wp_at_zero Go.wp_at_succ
structure Hd where
 at_ : Int
 then_ : Int
 code : Int
 key : Int
 value : Int
 begin : Int
 reply : Int
 out : Int
 sum : Int
 held : Int
 x_ : Int
 ver : Int
 cam : Int
 camAt : Int
 pred : Int
 predVer : Int
 curr : Int
 currVer : Int
 new_ : Int
 least : Int
 index : Int
 round : Int
def hdC (h : Hd) : List Value := [.int .i64 h.at_, .int .i64 h.then_, .int .i64 h.code, .int .i64 h.key, .int .i64 h.value, .int .i64 h.begin, .int .i64 h.reply, .int .i64 h.out, .int .i64 h.sum, .int .i64 h.held, .int .i64 h.x_, .int .i64 h.ver, .int .i64 h.cam, .int .i64 h.camAt, .int .i64 h.pred, .int .i64 h.predVer, .int .i64 h.curr, .int .i64 h.currVer, .int .i64 h.new_, .int .i64 h.least, .int .i64 h.index, .int .i64 h.round]
theorem qzx {P : Program} {ops : Array Oper} {rest : List Oper} {op : Oper} {a : Act} {w : World} {Q : Exit -> Act -> World -> Prop} (hw : Region.wanted op (yielded ops a.tmps) = true) (ty : TypeId) (x : Operand) (ho : op.op = .load ty x)
  (b o : Nat) (hx : a.eval x = .pointer (some ⟨b, o, none⟩)) (cs : List Value) (d : TypeDesc) (hc : w.rangeAt b o cs)
  (hu : P.underlying ty = some d) (hd : d.isRow = true) (hi : (P.info? ty).map (·.size) = some cs.length)
  (h : wpList P ops Q rest (a.put op.dst (.agg cs.toArray)) w) : wpList P ops Q (op :: rest) a w :=
 wpList_step fun K hK => by rw [if_pos hw]; exact wp_load_mid ty x ho b o hx cs d hc hu hd hi (hK _ _ h)
theorem qz8 (h : Hd) : (Tryz.prog.info? 36).map (fun i => i.size) = some (hdC h).toArray.size := by
 show _ = some 22
 kernel_rfl
theorem qz1 (h : Hd) : (Tryz.prog.info? 36).map (fun i => i.size) = some (hdC h).length := by
 show _ = some 22
 kernel_rfl
theorem qzc (h : Hd) : (hdC h).toArray.all (·.oneCell') = true := by simp [hdC, Value.oneCell']
theorem qz4r (h : Hd) (w : World) :
  Calls Tryz.prog 8 #[.agg (hdC h).toArray] w fun e w' => e = .returned (.agg (hdC h).toArray) /\ Below w.heap.size w w' := by
 show Calls Tryz.prog 8 #[.agg #[.int .i64 h.at_, .int .i64 h.then_, .int .i64 h.code, .int .i64 h.key, .int .i64 h.value, .int .i64 h.begin, .int .i64 h.reply, .int .i64 h.out, .int .i64 h.sum, .int .i64 h.held, .int .i64 h.x_, .int .i64 h.ver, .int .i64 h.cam, .int .i64 h.camAt, .int .i64 h.pred, .int .i64 h.predVer, .int .i64 h.curr, .int .i64 h.currVer, .int .i64 h.new_, .int .i64 h.least, .int .i64 h.index, .int .i64 h.round]] w fun e w' => e = .returned (.agg (hdC h).toArray) /\ Below w.heap.size w w'
 go_enter Tryz.func8, Tryz.ntmps8
 have F0 := qzf (w.alloc (.cells #[.int .i64 h.at_, .int .i64 h.then_, .int .i64 h.code, .int .i64 h.key, .int .i64 h.value, .int .i64 h.begin, .int .i64 h.reply, .int .i64 h.out, .int .i64 h.sum, .int .i64 h.held, .int .i64 h.x_, .int .i64 h.ver, .int .i64 h.cam, .int .i64 h.camAt, .int .i64 h.pred, .int .i64 h.predVer, .int .i64 h.curr, .int .i64 h.currVer, .int .i64 h.new_, .int .i64 h.least, .int .i64 h.index, .int .i64 h.round] 30)) #[.int .i64 0, .int .i64 0, .int .i64 0, .int .i64 0, .int .i64 0, .int .i64 0, .int .i64 0, .int .i64 0, .int .i64 0, .int .i64 0, .int .i64 0, .int .i64 0, .int .i64 0, .int .i64 0, .int .i64 0, .int .i64 0, .int .i64 0, .int .i64 0, .int .i64 0, .int .i64 0, .int .i64 0, .int .i64 0] 36 22 (by decide)
 have R0 := qz5 ((w.alloc (.cells #[.int .i64 h.at_, .int .i64 h.then_, .int .i64 h.code, .int .i64 h.key, .int .i64 h.value, .int .i64 h.begin, .int .i64 h.reply, .int .i64 h.out, .int .i64 h.sum, .int .i64 h.held, .int .i64 h.x_, .int .i64 h.ver, .int .i64 h.cam, .int .i64 h.camAt, .int .i64 h.pred, .int .i64 h.predVer, .int .i64 h.curr, .int .i64 h.currVer, .int .i64 h.new_, .int .i64 h.least, .int .i64 h.index, .int .i64 h.round] 30)).alloc (.cells #[.int .i64 0, .int .i64 0, .int .i64 0, .int .i64 0, .int .i64 0, .int .i64 0, .int .i64 0, .int .i64 0, .int .i64 0, .int .i64 0, .int .i64 0, .int .i64 0, .int .i64 0, .int .i64 0, .int .i64 0, .int .i64 0, .int .i64 0, .int .i64 0, .int .i64 0, .int .i64 0, .int .i64 0, .int .i64 0] 36)) (hdC h) 36
 have K0 := (((Below.refl w.heap.size w).alloc (Nat.le_refl _) (.cells #[.int .i64 h.at_, .int .i64 h.then_, .int .i64 h.code, .int .i64 h.key, .int .i64 h.value, .int .i64 h.begin, .int .i64 h.reply, .int .i64 h.out, .int .i64 h.sum, .int .i64 h.held, .int .i64 h.x_, .int .i64 h.ver, .int .i64 h.cam, .int .i64 h.camAt, .int .i64 h.pred, .int .i64 h.predVer, .int .i64 h.curr, .int .i64 h.currVer, .int .i64 h.new_, .int .i64 h.least, .int .i64 h.index, .int .i64 h.round] 30)).alloc (by simp) (.cells #[.int .i64 0, .int .i64 0, .int .i64 0, .int .i64 0, .int .i64 0, .int .i64 0, .int .i64 0, .int .i64 0, .int .i64 0, .int .i64 0, .int .i64 0, .int .i64 0, .int .i64 0, .int .i64 0, .int .i64 0, .int .i64 0, .int .i64 0, .int .i64 0, .int .i64 0, .int .i64 0, .int .i64 0, .int .i64 0] 36)).alloc (by simp; omega) (.cells (hdC h).toArray 36)
 have F1 := World.there_alloc F0 (.cells (hdC h).toArray 36)
 simp only [World.size_alloc] at F1 R0
 go_wp2_with (first | (refine wpList_load_mid rfl 36 (.tmp 3) rfl _ _ rfl (hdC h) _ ?hc Tryz.underlying36 rfl (qz1 h) ?_) | (refine wpList_store_mid rfl 36 (.tmp 2) (.tmp 70) rfl (w.heap.size + 1) 0 _ rfl rfl ?ht ?hi ?h1 ?_))
 case hc => exact R0
 case ht => exact F1
 case hi => exact qz8 h
 case h1 => exact qzc h
 refine bodyPost_ret (v := .agg (hdC h).toArray) ?_ rfl ⟨rfl, ?_⟩
 ·exact qz4 Tryz.results8 _ _ (w.heap.size + 1) 0 rfl (hdC h) _ (World.rangeAt_setCells_same _ _ _ _ F1) Tryz.underlying36 rfl (qz1 h)
 ·exact Below.setCells (by omega) _ _ _ K0
theorem qz9p (h : Hd) (w : World) :
  Calls Tryz.prog 30 #[.agg (hdC h).toArray, .agg (hdC h).toArray] w fun e w' => e = .returned (.bool true) /\ Below w.heap.size w w' := by
 show Calls Tryz.prog 30 #[.agg #[.int .i64 h.at_, .int .i64 h.then_, .int .i64 h.code, .int .i64 h.key, .int .i64 h.value, .int .i64 h.begin, .int .i64 h.reply, .int .i64 h.out, .int .i64 h.sum, .int .i64 h.held, .int .i64 h.x_, .int .i64 h.ver, .int .i64 h.cam, .int .i64 h.camAt, .int .i64 h.pred, .int .i64 h.predVer, .int .i64 h.curr, .int .i64 h.currVer, .int .i64 h.new_, .int .i64 h.least, .int .i64 h.index, .int .i64 h.round], .agg #[.int .i64 h.at_, .int .i64 h.then_, .int .i64 h.code, .int .i64 h.key, .int .i64 h.value, .int .i64 h.begin, .int .i64 h.reply, .int .i64 h.out, .int .i64 h.sum, .int .i64 h.held, .int .i64 h.x_, .int .i64 h.ver, .int .i64 h.cam, .int .i64 h.camAt, .int .i64 h.pred, .int .i64 h.predVer, .int .i64 h.curr, .int .i64 h.currVer, .int .i64 h.new_, .int .i64 h.least, .int .i64 h.index, .int .i64 h.round]] w fun e w' => e = .returned (.bool true) /\ Below w.heap.size w w'
 go_enter Tryz.func30, Tryz.ntmps30
 go_wp2
 go_ret
 exact ⟨rfl, ((Below.refl _ _).alloc (Nat.le_refl _) _).alloc (by simp) _⟩
def qz3a (y z : Int) (h : Hd) : Bool := inB h.x_ 0 (y - 1) && inB h.pred 0 (y - 1) && inB h.curr (-1) (y - 1) && inB h.new_ (-1) (y - 1) && inB h.ver 0 (z - 1) && inB h.predVer 0 (z - 1) && inB h.currVer 0 (z - 1)
def qz3d (h : Hd) : Bool := inB h.at_ 0 23 && inB h.then_ 0 7 && inB h.code 0 8 && inB h.reply 0 7 && inB h.key (-1) 63 && inB h.value 0 9999 && inB h.begin 0 20000 && inB h.camAt 0 20000 && inB h.round 0 20000 && inB h.out 0 1000000 && inB h.sum 0 1000000 && inB h.held (-1) 100 && inB h.cam 0 100 && inB h.least 0 100 && inB h.index 0 60
def qz2a (x y z u : Int) (h : Hd) : Bool := qz3e x y z u && qz3a y z h && qz3d h
theorem qzt (n : Int) (w : World) : Calls Tryz.prog 71 #[.int .i64 n] w fun e w' => e = .returned (.bool (inB n 0 20000)) /\ w' = w := by
 go_enter Tryz.func71, Tryz.ntmps71
 go_wp2_with (go_at_call 40; refine (qzd _ _ _ _).mono ?_; rintro e w' ⟨rfl, hw⟩; obtain rfl := hw.symm)
 go_ret
 exact ⟨rfl, rfl⟩
theorem qz8s (x y z u : Int) (h : Hd) (w : World) (hy : 1 <= y /\ y <= 60) (hz : 1 <= z /\ z <= 400) :
  Calls Tryz.prog 102 #[.agg #[.int .i64 x, .int .i64 y, .int .i64 z, .int .i64 u], .agg (hdC h).toArray] w fun e w' => e = .returned (.bool (qz3a y z h)) /\ Below w.heap.size w w' := by
 show Calls Tryz.prog 102 #[.agg #[.int .i64 x, .int .i64 y, .int .i64 z, .int .i64 u], .agg #[.int .i64 h.at_, .int .i64 h.then_, .int .i64 h.code, .int .i64 h.key, .int .i64 h.value, .int .i64 h.begin, .int .i64 h.reply, .int .i64 h.out, .int .i64 h.sum, .int .i64 h.held, .int .i64 h.x_, .int .i64 h.ver, .int .i64 h.cam, .int .i64 h.camAt, .int .i64 h.pred, .int .i64 h.predVer, .int .i64 h.curr, .int .i64 h.currVer, .int .i64 h.new_, .int .i64 h.least, .int .i64 h.index, .int .i64 h.round]] w fun e w' => e = .returned (.bool (qz3a y z h)) /\ Below w.heap.size w w'
 have KK := ((Below.refl w.heap.size w).alloc (Nat.le_refl _) (.cells #[.int .i64 x, .int .i64 y, .int .i64 z, .int .i64 u] 43)).alloc (by simp) (.cells #[.int .i64 h.at_, .int .i64 h.then_, .int .i64 h.code, .int .i64 h.key, .int .i64 h.value, .int .i64 h.begin, .int .i64 h.reply, .int .i64 h.out, .int .i64 h.sum, .int .i64 h.held, .int .i64 h.x_, .int .i64 h.ver, .int .i64 h.cam, .int .i64 h.camAt, .int .i64 h.pred, .int .i64 h.predVer, .int .i64 h.curr, .int .i64 h.currVer, .int .i64 h.new_, .int .i64 h.least, .int .i64 h.index, .int .i64 h.round] 36)
 cases e0 : inB h.x_ 0 (y - 1)
 ·have hv : qz3a y z h = false := by simp only [qz3a, e0, Bool.false_and]
  go_enter Tryz.func102, Tryz.ntmps102
  go_wp2_with (go_at_call 40; refine (qzd _ _ _ _).mono ?_; rintro e w' ⟨rfl, hw⟩; obtain rfl := hw.symm)
  go_ret
  exact ⟨by rw [hv]; rfl, KK⟩
 cases e1 : inB h.pred 0 (y - 1)
 ·have hv : qz3a y z h = false := by simp only [qz3a, e1, Bool.false_and, Bool.and_false]
  go_enter Tryz.func102, Tryz.ntmps102
  go_wp2_with (go_at_call 40; refine (qzd _ _ _ _).mono ?_; rintro e w' ⟨rfl, hw⟩; obtain rfl := hw.symm)
  go_ret
  exact ⟨by rw [hv]; rfl, KK⟩
 cases e2 : inB h.curr (-1) (y - 1)
 ·have hv : qz3a y z h = false := by simp only [qz3a, e2, Bool.false_and, Bool.and_false]
  go_enter Tryz.func102, Tryz.ntmps102
  go_wp2_with (go_at_call 40; refine (qzd _ _ _ _).mono ?_; rintro e w' ⟨rfl, hw⟩; obtain rfl := hw.symm)
  go_ret
  exact ⟨by rw [hv]; rfl, KK⟩
 cases e3 : inB h.new_ (-1) (y - 1)
 ·have hv : qz3a y z h = false := by simp only [qz3a, e3, Bool.false_and, Bool.and_false]
  go_enter Tryz.func102, Tryz.ntmps102
  go_wp2_with (go_at_call 40; refine (qzd _ _ _ _).mono ?_; rintro e w' ⟨rfl, hw⟩; obtain rfl := hw.symm)
  go_ret
  exact ⟨by rw [hv]; rfl, KK⟩
 cases e4 : inB h.ver 0 (z - 1)
 ·have hv : qz3a y z h = false := by simp only [qz3a, e4, Bool.false_and, Bool.and_false]
  go_enter Tryz.func102, Tryz.ntmps102
  go_wp2_with (go_at_call 40; refine (qzd _ _ _ _).mono ?_; rintro e w' ⟨rfl, hw⟩; obtain rfl := hw.symm)
  go_ret
  exact ⟨by rw [hv]; rfl, KK⟩
 cases e5 : inB h.predVer 0 (z - 1)
 ·have hv : qz3a y z h = false := by simp only [qz3a, e5, Bool.false_and, Bool.and_false]
  go_enter Tryz.func102, Tryz.ntmps102
  go_wp2_with (go_at_call 40; refine (qzd _ _ _ _).mono ?_; rintro e w' ⟨rfl, hw⟩; obtain rfl := hw.symm)
  go_ret
  exact ⟨by rw [hv]; rfl, KK⟩
 have hv : qz3a y z h = inB h.currVer 0 (z - 1) := by simp only [qz3a, e0, e1, e2, e3, e4, e5, Bool.true_and]
 go_enter Tryz.func102, Tryz.ntmps102
 go_wp2_with (go_at_call 40; refine (qzd _ _ _ _).mono ?_; rintro e w' ⟨rfl, hw⟩; obtain rfl := hw.symm)
 go_ret
 exact ⟨by rw [hv]; rfl, KK⟩
theorem qzbk {w : World} {b : Nat} {h : Hd} (R : w.rangeAt b 0 (hdC h)) : w.cell? ⟨b, 0, none⟩ = some (.int .i64 h.at_) /\ w.cell? ⟨b, 1, none⟩ = some (.int .i64 h.then_) /\ w.cell? ⟨b, 2, none⟩ = some (.int .i64 h.code) /\ w.cell? ⟨b, 3, none⟩ = some (.int .i64 h.key) /\ w.cell? ⟨b, 4, none⟩ = some (.int .i64 h.value) /\ w.cell? ⟨b, 5, none⟩ = some (.int .i64 h.begin) /\ w.cell? ⟨b, 6, none⟩ = some (.int .i64 h.reply) /\ w.cell? ⟨b, 7, none⟩ = some (.int .i64 h.out) /\ w.cell? ⟨b, 8, none⟩ = some (.int .i64 h.sum) /\ w.cell? ⟨b, 9, none⟩ = some (.int .i64 h.held) /\ w.cell? ⟨b, 10, none⟩ = some (.int .i64 h.x_) /\ w.cell? ⟨b, 11, none⟩ = some (.int .i64 h.ver) /\ w.cell? ⟨b, 12, none⟩ = some (.int .i64 h.cam) /\ w.cell? ⟨b, 13, none⟩ = some (.int .i64 h.camAt) /\ w.cell? ⟨b, 14, none⟩ = some (.int .i64 h.pred) /\ w.cell? ⟨b, 15, none⟩ = some (.int .i64 h.predVer) /\ w.cell? ⟨b, 16, none⟩ = some (.int .i64 h.curr) /\ w.cell? ⟨b, 17, none⟩ = some (.int .i64 h.currVer) /\ w.cell? ⟨b, 18, none⟩ = some (.int .i64 h.new_) /\ w.cell? ⟨b, 19, none⟩ = some (.int .i64 h.least) /\ w.cell? ⟨b, 20, none⟩ = some (.int .i64 h.index) /\ w.cell? ⟨b, 21, none⟩ = some (.int .i64 h.round) := by
 refine ⟨?_, ?_, ?_, ?_, ?_, ?_, ?_, ?_, ?_, ?_, ?_, ?_, ?_, ?_, ?_, ?_, ?_, ?_, ?_, ?_, ?_, ?_⟩
 ·simpa using R 0 (.int .i64 h.at_) rfl
 ·simpa using R 1 (.int .i64 h.then_) rfl
 ·simpa using R 2 (.int .i64 h.code) rfl
 ·simpa using R 3 (.int .i64 h.key) rfl
 ·simpa using R 4 (.int .i64 h.value) rfl
 ·simpa using R 5 (.int .i64 h.begin) rfl
 ·simpa using R 6 (.int .i64 h.reply) rfl
 ·simpa using R 7 (.int .i64 h.out) rfl
 ·simpa using R 8 (.int .i64 h.sum) rfl
 ·simpa using R 9 (.int .i64 h.held) rfl
 ·simpa using R 10 (.int .i64 h.x_) rfl
 ·simpa using R 11 (.int .i64 h.ver) rfl
 ·simpa using R 12 (.int .i64 h.cam) rfl
 ·simpa using R 13 (.int .i64 h.camAt) rfl
 ·simpa using R 14 (.int .i64 h.pred) rfl
 ·simpa using R 15 (.int .i64 h.predVer) rfl
 ·simpa using R 16 (.int .i64 h.curr) rfl
 ·simpa using R 17 (.int .i64 h.currVer) rfl
 ·simpa using R 18 (.int .i64 h.new_) rfl
 ·simpa using R 19 (.int .i64 h.least) rfl
 ·simpa using R 20 (.int .i64 h.index) rfl
 ·simpa using R 21 (.int .i64 h.round) rfl
theorem qz6b (x y z u : Int) (h : Hd) (w : World) :
  Calls Tryz.prog 70 #[.agg #[.int .i64 x, .int .i64 y, .int .i64 z, .int .i64 u], .agg (hdC h).toArray] w fun e w' => e = .returned (.bool (qz2a x y z u h)) /\ Below w.heap.size w w' := by
 show Calls Tryz.prog 70 #[.agg #[.int .i64 x, .int .i64 y, .int .i64 z, .int .i64 u], .agg #[.int .i64 h.at_, .int .i64 h.then_, .int .i64 h.code, .int .i64 h.key, .int .i64 h.value, .int .i64 h.begin, .int .i64 h.reply, .int .i64 h.out, .int .i64 h.sum, .int .i64 h.held, .int .i64 h.x_, .int .i64 h.ver, .int .i64 h.cam, .int .i64 h.camAt, .int .i64 h.pred, .int .i64 h.predVer, .int .i64 h.curr, .int .i64 h.currVer, .int .i64 h.new_, .int .i64 h.least, .int .i64 h.index, .int .i64 h.round]] w fun e w' => e = .returned (.bool (qz2a x y z u h)) /\ Below w.heap.size w w'
 have P0 := (qz2u w x y z u 43).below ((Below.refl _ _).alloc (Nat.le_refl _) (.cells (hdC h).toArray 36)) (by simp)
 have X0 := qz5 (w.alloc (.cells #[.int .i64 x, .int .i64 y, .int .i64 z, .int .i64 u] 43)) (hdC h) 36
 have K0 := ((Below.refl w.heap.size w).alloc (Nat.le_refl _) (.cells #[.int .i64 x, .int .i64 y, .int .i64 z, .int .i64 u] 43)).alloc (by simp) (.cells (hdC h).toArray 36)
 have hz0 : w.heap.size + 1 < ((w.alloc (.cells #[.int .i64 x, .int .i64 y, .int .i64 z, .int .i64 u] 43)).alloc (.cells (hdC h).toArray 36)).heap.size := by simp
 simp only [World.size_alloc] at X0
 go_enter Tryz.func70, Tryz.ntmps70
 go_wp2_with fail
 change Calls Tryz.prog _ _ ((w.alloc (.cells #[.int .i64 x, .int .i64 y, .int .i64 z, .int .i64 u] 43)).alloc (.cells (hdC h).toArray 36)) _
 generalize hw0 : (w.alloc (.cells #[.int .i64 x, .int .i64 y, .int .i64 z, .int .i64 u] 43)).alloc (.cells (hdC h).toArray 36) = w0 at *
 clear hw0
 refine (qz40 _ _ _ _ _).mono ?_
 rintro e w1 ⟨rfl, b1⟩
 have P1 := P0.below b1 (by omega)
 have X1 := qz0 X0 b1 hz0
 have K1 := K0.trans (b1.mono (by omega))
 have hz1 := Nat.lt_of_lt_of_le hz0 b1.size
 clear P0 X0 K0 b1 hz0
 cases h1 : qz3e x y z u
 ·have hv : qz2a x y z u h = false := by simp only [qz2a, h1, Bool.false_and]
  go_wp2_with fail
  go_ret
  exact ⟨by rw [hv]; rfl, K1⟩
 have hpl := (qz3y x y z u).1 h1
 obtain ⟨p0, p1, p2, p3⟩ := id P1
 go_wp2_with (refine qzx ?hw 36 (.tmp 3) rfl (w.heap.size + 1) 0 rfl (hdC h) _ ?hc Tryz.underlying36 rfl (qz1 h) ?_)
 try (case hw => rfl)
 case hc => exact X1
 refine (qz8s x y z u h _ hpl.2.1 hpl.2.2.1).mono ?_
 rintro e w2 ⟨rfl, b2⟩
 have X2 := qz0 X1 b2 hz1
 have K2 := K1.trans (b2.mono (by omega))
 clear P1 X1 K1 b2 p0 p1 p2 p3
 obtain ⟨x0, x1, x2, x3, x4, x5, x6, x7, x8, x9, x10, x11, x12, x13, x14, x15, x16, x17, x18, x19, x20, x21⟩ := qzbk X2
 clear X2 hpl
 cases h2 : qz3a y z h
 ·have hv : qz2a x y z u h = false := by simp only [qz2a, h2, Bool.false_and, Bool.and_false]
  go_wp2_with fail
  go_ret
  exact ⟨by rw [hv]; rfl, K2⟩
 cases e0 : inB h.at_ 0 23
 ·have hv : qz2a x y z u h = false := by simp only [qz2a, qz3d, e0, Bool.false_and, Bool.and_false]
  go_wp2_with (first | (go_at_call 40; refine (qzd _ _ _ _).mono ?_; rintro e w' ⟨rfl, hw⟩; obtain rfl := hw.symm) | (go_at_call 98; refine (qzn _ _).mono ?_; rintro e w' ⟨rfl, hw⟩; obtain rfl := hw.symm) | (go_at_call 71; refine (qzt _ _).mono ?_; rintro e w' ⟨rfl, hw⟩; obtain rfl := hw.symm))
  go_ret
  exact ⟨by rw [hv]; rfl, K2⟩
 cases e1 : inB h.then_ 0 7
 ·have hv : qz2a x y z u h = false := by simp only [qz2a, qz3d, e1, Bool.false_and, Bool.and_false]
  go_wp2_with (first | (go_at_call 40; refine (qzd _ _ _ _).mono ?_; rintro e w' ⟨rfl, hw⟩; obtain rfl := hw.symm) | (go_at_call 98; refine (qzn _ _).mono ?_; rintro e w' ⟨rfl, hw⟩; obtain rfl := hw.symm) | (go_at_call 71; refine (qzt _ _).mono ?_; rintro e w' ⟨rfl, hw⟩; obtain rfl := hw.symm))
  go_ret
  exact ⟨by rw [hv]; rfl, K2⟩
 cases e2 : inB h.code 0 8
 ·have hv : qz2a x y z u h = false := by simp only [qz2a, qz3d, e2, Bool.false_and, Bool.and_false]
  go_wp2_with (first | (go_at_call 40; refine (qzd _ _ _ _).mono ?_; rintro e w' ⟨rfl, hw⟩; obtain rfl := hw.symm) | (go_at_call 98; refine (qzn _ _).mono ?_; rintro e w' ⟨rfl, hw⟩; obtain rfl := hw.symm) | (go_at_call 71; refine (qzt _ _).mono ?_; rintro e w' ⟨rfl, hw⟩; obtain rfl := hw.symm))
  go_ret
  exact ⟨by rw [hv]; rfl, K2⟩
 cases e3 : inB h.reply 0 7
 ·have hv : qz2a x y z u h = false := by simp only [qz2a, qz3d, e3, Bool.false_and, Bool.and_false]
  go_wp2_with (first | (go_at_call 40; refine (qzd _ _ _ _).mono ?_; rintro e w' ⟨rfl, hw⟩; obtain rfl := hw.symm) | (go_at_call 98; refine (qzn _ _).mono ?_; rintro e w' ⟨rfl, hw⟩; obtain rfl := hw.symm) | (go_at_call 71; refine (qzt _ _).mono ?_; rintro e w' ⟨rfl, hw⟩; obtain rfl := hw.symm))
  go_ret
  exact ⟨by rw [hv]; rfl, K2⟩
 cases e4 : inB h.key (-1) 63
 ·have hv : qz2a x y z u h = false := by simp only [qz2a, qz3d, e4, Bool.false_and, Bool.and_false]
  go_wp2_with (first | (go_at_call 40; refine (qzd _ _ _ _).mono ?_; rintro e w' ⟨rfl, hw⟩; obtain rfl := hw.symm) | (go_at_call 98; refine (qzn _ _).mono ?_; rintro e w' ⟨rfl, hw⟩; obtain rfl := hw.symm) | (go_at_call 71; refine (qzt _ _).mono ?_; rintro e w' ⟨rfl, hw⟩; obtain rfl := hw.symm))
  go_ret
  exact ⟨by rw [hv]; rfl, K2⟩
 cases e5 : inB h.value 0 9999
 ·have hv : qz2a x y z u h = false := by simp only [qz2a, qz3d, e5, Bool.false_and, Bool.and_false]
  go_wp2_with (first | (go_at_call 40; refine (qzd _ _ _ _).mono ?_; rintro e w' ⟨rfl, hw⟩; obtain rfl := hw.symm) | (go_at_call 98; refine (qzn _ _).mono ?_; rintro e w' ⟨rfl, hw⟩; obtain rfl := hw.symm) | (go_at_call 71; refine (qzt _ _).mono ?_; rintro e w' ⟨rfl, hw⟩; obtain rfl := hw.symm))
  go_ret
  exact ⟨by rw [hv]; rfl, K2⟩
 cases e6 : inB h.begin 0 20000
 ·have hv : qz2a x y z u h = false := by simp only [qz2a, qz3d, e6, Bool.false_and, Bool.and_false]
  go_wp2_with (first | (go_at_call 40; refine (qzd _ _ _ _).mono ?_; rintro e w' ⟨rfl, hw⟩; obtain rfl := hw.symm) | (go_at_call 98; refine (qzn _ _).mono ?_; rintro e w' ⟨rfl, hw⟩; obtain rfl := hw.symm) | (go_at_call 71; refine (qzt _ _).mono ?_; rintro e w' ⟨rfl, hw⟩; obtain rfl := hw.symm))
  go_ret
  exact ⟨by rw [hv]; rfl, K2⟩
 cases e7 : inB h.camAt 0 20000
 ·have hv : qz2a x y z u h = false := by simp only [qz2a, qz3d, e7, Bool.false_and, Bool.and_false]
  go_wp2_with (first | (go_at_call 40; refine (qzd _ _ _ _).mono ?_; rintro e w' ⟨rfl, hw⟩; obtain rfl := hw.symm) | (go_at_call 98; refine (qzn _ _).mono ?_; rintro e w' ⟨rfl, hw⟩; obtain rfl := hw.symm) | (go_at_call 71; refine (qzt _ _).mono ?_; rintro e w' ⟨rfl, hw⟩; obtain rfl := hw.symm))
  go_ret
  exact ⟨by rw [hv]; rfl, K2⟩
 cases e8 : inB h.round 0 20000
 ·have hv : qz2a x y z u h = false := by simp only [qz2a, qz3d, e8, Bool.false_and, Bool.and_false]
  go_wp2_with (first | (go_at_call 40; refine (qzd _ _ _ _).mono ?_; rintro e w' ⟨rfl, hw⟩; obtain rfl := hw.symm) | (go_at_call 98; refine (qzn _ _).mono ?_; rintro e w' ⟨rfl, hw⟩; obtain rfl := hw.symm) | (go_at_call 71; refine (qzt _ _).mono ?_; rintro e w' ⟨rfl, hw⟩; obtain rfl := hw.symm))
  go_ret
  exact ⟨by rw [hv]; rfl, K2⟩
 cases e9 : inB h.out 0 1000000
 ·have hv : qz2a x y z u h = false := by simp only [qz2a, qz3d, e9, Bool.false_and, Bool.and_false]
  go_wp2_with (first | (go_at_call 40; refine (qzd _ _ _ _).mono ?_; rintro e w' ⟨rfl, hw⟩; obtain rfl := hw.symm) | (go_at_call 98; refine (qzn _ _).mono ?_; rintro e w' ⟨rfl, hw⟩; obtain rfl := hw.symm) | (go_at_call 71; refine (qzt _ _).mono ?_; rintro e w' ⟨rfl, hw⟩; obtain rfl := hw.symm))
  go_ret
  exact ⟨by rw [hv]; rfl, K2⟩
 cases e10 : inB h.sum 0 1000000
 ·have hv : qz2a x y z u h = false := by simp only [qz2a, qz3d, e10, Bool.false_and, Bool.and_false]
  go_wp2_with (first | (go_at_call 40; refine (qzd _ _ _ _).mono ?_; rintro e w' ⟨rfl, hw⟩; obtain rfl := hw.symm) | (go_at_call 98; refine (qzn _ _).mono ?_; rintro e w' ⟨rfl, hw⟩; obtain rfl := hw.symm) | (go_at_call 71; refine (qzt _ _).mono ?_; rintro e w' ⟨rfl, hw⟩; obtain rfl := hw.symm))
  go_ret
  exact ⟨by rw [hv]; rfl, K2⟩
 cases e11 : inB h.held (-1) 100
 ·have hv : qz2a x y z u h = false := by simp only [qz2a, qz3d, e11, Bool.false_and, Bool.and_false]
  go_wp2_with (first | (go_at_call 40; refine (qzd _ _ _ _).mono ?_; rintro e w' ⟨rfl, hw⟩; obtain rfl := hw.symm) | (go_at_call 98; refine (qzn _ _).mono ?_; rintro e w' ⟨rfl, hw⟩; obtain rfl := hw.symm) | (go_at_call 71; refine (qzt _ _).mono ?_; rintro e w' ⟨rfl, hw⟩; obtain rfl := hw.symm))
  go_ret
  exact ⟨by rw [hv]; rfl, K2⟩
 cases e12 : inB h.cam 0 100
 ·have hv : qz2a x y z u h = false := by simp only [qz2a, qz3d, e12, Bool.false_and, Bool.and_false]
  go_wp2_with (first | (go_at_call 40; refine (qzd _ _ _ _).mono ?_; rintro e w' ⟨rfl, hw⟩; obtain rfl := hw.symm) | (go_at_call 98; refine (qzn _ _).mono ?_; rintro e w' ⟨rfl, hw⟩; obtain rfl := hw.symm) | (go_at_call 71; refine (qzt _ _).mono ?_; rintro e w' ⟨rfl, hw⟩; obtain rfl := hw.symm))
  go_ret
  exact ⟨by rw [hv]; rfl, K2⟩
 cases e13 : inB h.least 0 100
 ·have hv : qz2a x y z u h = false := by simp only [qz2a, qz3d, e13, Bool.false_and, Bool.and_false]
  go_wp2_with (first | (go_at_call 40; refine (qzd _ _ _ _).mono ?_; rintro e w' ⟨rfl, hw⟩; obtain rfl := hw.symm) | (go_at_call 98; refine (qzn _ _).mono ?_; rintro e w' ⟨rfl, hw⟩; obtain rfl := hw.symm) | (go_at_call 71; refine (qzt _ _).mono ?_; rintro e w' ⟨rfl, hw⟩; obtain rfl := hw.symm))
  go_ret
  exact ⟨by rw [hv]; rfl, K2⟩
 have hv : qz2a x y z u h = inB h.index 0 60 := by simp only [qz2a, qz3d, h1, h2, e0, e1, e2, e3, e4, e5, e6, e7, e8, e9, e10, e11, e12, e13, Bool.true_and]
 go_wp2_with (first | (go_at_call 40; refine (qzd _ _ _ _).mono ?_; rintro e w' ⟨rfl, hw⟩; obtain rfl := hw.symm) | (go_at_call 98; refine (qzn _ _).mono ?_; rintro e w' ⟨rfl, hw⟩; obtain rfl := hw.symm) | (go_at_call 71; refine (qzt _ _).mono ?_; rintro e w' ⟨rfl, hw⟩; obtain rfl := hw.symm))
 go_ret
 exact ⟨by rw [hv]; rfl, K2⟩
end
section
theorem qzc5 {α : Type} {l : List α} (h : l.length = 22) : ∃ c0 c1 c2 c3 c4 c5 c6 c7 c8 c9 c10 c11 c12 c13 c14 c15 c16 c17 c18 c19 c20 c21, l = [c0, c1, c2, c3, c4, c5, c6, c7, c8, c9, c10, c11, c12, c13, c14, c15, c16, c17, c18, c19, c20, c21] := by
 match l, h with
 | [c0, c1, c2, c3, c4, c5, c6, c7, c8, c9, c10, c11, c12, c13, c14, c15, c16, c17, c18, c19, c20, c21], _ => exact ⟨c0, c1, c2, c3, c4, c5, c6, c7, c8, c9, c10, c11, c12, c13, c14, c15, c16, c17, c18, c19, c20, c21, rfl⟩
theorem qzaa {H : Type} {enc : TypeId × Value -> H} {W : World} {r : Reach} {b0 base : Nat} {spare : Nat -> Bool} {held : Bool} {v : Value} {d : DataW H} {p : List MemPlace} (hv : Value.okWide Tryz.prog W r b0 30 v) (h : DataW.Trod enc Tryz.prog W base spare held 30 v d p) :
  ∃ h : Hd, v = .agg (hdC h).toArray := by
 obtain ⟨cs, rfl, hsz⟩ := okWide_struct Tryz.underlying30 hv
 obtain ⟨fuel, hf⟩ := h
 have hcs : (Value.agg cs).cells.toList = cs.toList := rfl
 rw [hcs] at hf
 obtain ⟨xs, m, _, _, hl, hlen, hg⟩ := DataW.trod_struct Tryz.underlying30 hf
 obtain ⟨c0, c1, c2, c3, c4, c5, c6, c7, c8, c9, c10, c11, c12, c13, c14, c15, c16, c17, c18, c19, c20, c21, hc⟩ := qzc5 (hl.trans (show Tryz.prog.cellsOf 30 = 22 by kernel_rfl))
 have hx : xs.length = 22 := hlen
 rw [hc] at hg
 have g0 := hg 0 _ rfl
 rw [List.getElem?_eq_getElem (by omega)] at g0
 have k0 : DataW.trod enc Tryz.prog W base spare held m 2 [c0] = some xs[0] := g0
 obtain ⟨v0, d0, _⟩ := DataW.trod_int Tryz.underlying2 k0
 obtain rfl : c0 = .int .i64 v0 := by simpa using d0
 clear g0 k0 d0
 have g1 := hg 1 _ rfl
 rw [List.getElem?_eq_getElem (by omega)] at g1
 have k1 : DataW.trod enc Tryz.prog W base spare held m 2 [c1] = some xs[1] := g1
 obtain ⟨v1, d1, _⟩ := DataW.trod_int Tryz.underlying2 k1
 obtain rfl : c1 = .int .i64 v1 := by simpa using d1
 clear g1 k1 d1
 have g2 := hg 2 _ rfl
 rw [List.getElem?_eq_getElem (by omega)] at g2
 have k2 : DataW.trod enc Tryz.prog W base spare held m 2 [c2] = some xs[2] := g2
 obtain ⟨v2, d2, _⟩ := DataW.trod_int Tryz.underlying2 k2
 obtain rfl : c2 = .int .i64 v2 := by simpa using d2
 clear g2 k2 d2
 have g3 := hg 3 _ rfl
 rw [List.getElem?_eq_getElem (by omega)] at g3
 have k3 : DataW.trod enc Tryz.prog W base spare held m 2 [c3] = some xs[3] := g3
 obtain ⟨v3, d3, _⟩ := DataW.trod_int Tryz.underlying2 k3
 obtain rfl : c3 = .int .i64 v3 := by simpa using d3
 clear g3 k3 d3
 have g4 := hg 4 _ rfl
 rw [List.getElem?_eq_getElem (by omega)] at g4
 have k4 : DataW.trod enc Tryz.prog W base spare held m 2 [c4] = some xs[4] := g4
 obtain ⟨v4, d4, _⟩ := DataW.trod_int Tryz.underlying2 k4
 obtain rfl : c4 = .int .i64 v4 := by simpa using d4
 clear g4 k4 d4
 have g5 := hg 5 _ rfl
 rw [List.getElem?_eq_getElem (by omega)] at g5
 have k5 : DataW.trod enc Tryz.prog W base spare held m 2 [c5] = some xs[5] := g5
 obtain ⟨v5, d5, _⟩ := DataW.trod_int Tryz.underlying2 k5
 obtain rfl : c5 = .int .i64 v5 := by simpa using d5
 clear g5 k5 d5
 have g6 := hg 6 _ rfl
 rw [List.getElem?_eq_getElem (by omega)] at g6
 have k6 : DataW.trod enc Tryz.prog W base spare held m 2 [c6] = some xs[6] := g6
 obtain ⟨v6, d6, _⟩ := DataW.trod_int Tryz.underlying2 k6
 obtain rfl : c6 = .int .i64 v6 := by simpa using d6
 clear g6 k6 d6
 have g7 := hg 7 _ rfl
 rw [List.getElem?_eq_getElem (by omega)] at g7
 have k7 : DataW.trod enc Tryz.prog W base spare held m 2 [c7] = some xs[7] := g7
 obtain ⟨v7, d7, _⟩ := DataW.trod_int Tryz.underlying2 k7
 obtain rfl : c7 = .int .i64 v7 := by simpa using d7
 clear g7 k7 d7
 have g8 := hg 8 _ rfl
 rw [List.getElem?_eq_getElem (by omega)] at g8
 have k8 : DataW.trod enc Tryz.prog W base spare held m 2 [c8] = some xs[8] := g8
 obtain ⟨v8, d8, _⟩ := DataW.trod_int Tryz.underlying2 k8
 obtain rfl : c8 = .int .i64 v8 := by simpa using d8
 clear g8 k8 d8
 have g9 := hg 9 _ rfl
 rw [List.getElem?_eq_getElem (by omega)] at g9
 have k9 : DataW.trod enc Tryz.prog W base spare held m 2 [c9] = some xs[9] := g9
 obtain ⟨v9, d9, _⟩ := DataW.trod_int Tryz.underlying2 k9
 obtain rfl : c9 = .int .i64 v9 := by simpa using d9
 clear g9 k9 d9
 have g10 := hg 10 _ rfl
 rw [List.getElem?_eq_getElem (by omega)] at g10
 have k10 : DataW.trod enc Tryz.prog W base spare held m 2 [c10] = some xs[10] := g10
 obtain ⟨v10, d10, _⟩ := DataW.trod_int Tryz.underlying2 k10
 obtain rfl : c10 = .int .i64 v10 := by simpa using d10
 clear g10 k10 d10
 have g11 := hg 11 _ rfl
 rw [List.getElem?_eq_getElem (by omega)] at g11
 have k11 : DataW.trod enc Tryz.prog W base spare held m 2 [c11] = some xs[11] := g11
 obtain ⟨v11, d11, _⟩ := DataW.trod_int Tryz.underlying2 k11
 obtain rfl : c11 = .int .i64 v11 := by simpa using d11
 clear g11 k11 d11
 have g12 := hg 12 _ rfl
 rw [List.getElem?_eq_getElem (by omega)] at g12
 have k12 : DataW.trod enc Tryz.prog W base spare held m 2 [c12] = some xs[12] := g12
 obtain ⟨v12, d12, _⟩ := DataW.trod_int Tryz.underlying2 k12
 obtain rfl : c12 = .int .i64 v12 := by simpa using d12
 clear g12 k12 d12
 have g13 := hg 13 _ rfl
 rw [List.getElem?_eq_getElem (by omega)] at g13
 have k13 : DataW.trod enc Tryz.prog W base spare held m 2 [c13] = some xs[13] := g13
 obtain ⟨v13, d13, _⟩ := DataW.trod_int Tryz.underlying2 k13
 obtain rfl : c13 = .int .i64 v13 := by simpa using d13
 clear g13 k13 d13
 have g14 := hg 14 _ rfl
 rw [List.getElem?_eq_getElem (by omega)] at g14
 have k14 : DataW.trod enc Tryz.prog W base spare held m 2 [c14] = some xs[14] := g14
 obtain ⟨v14, d14, _⟩ := DataW.trod_int Tryz.underlying2 k14
 obtain rfl : c14 = .int .i64 v14 := by simpa using d14
 clear g14 k14 d14
 have g15 := hg 15 _ rfl
 rw [List.getElem?_eq_getElem (by omega)] at g15
 have k15 : DataW.trod enc Tryz.prog W base spare held m 2 [c15] = some xs[15] := g15
 obtain ⟨v15, d15, _⟩ := DataW.trod_int Tryz.underlying2 k15
 obtain rfl : c15 = .int .i64 v15 := by simpa using d15
 clear g15 k15 d15
 have g16 := hg 16 _ rfl
 rw [List.getElem?_eq_getElem (by omega)] at g16
 have k16 : DataW.trod enc Tryz.prog W base spare held m 2 [c16] = some xs[16] := g16
 obtain ⟨v16, d16, _⟩ := DataW.trod_int Tryz.underlying2 k16
 obtain rfl : c16 = .int .i64 v16 := by simpa using d16
 clear g16 k16 d16
 have g17 := hg 17 _ rfl
 rw [List.getElem?_eq_getElem (by omega)] at g17
 have k17 : DataW.trod enc Tryz.prog W base spare held m 2 [c17] = some xs[17] := g17
 obtain ⟨v17, d17, _⟩ := DataW.trod_int Tryz.underlying2 k17
 obtain rfl : c17 = .int .i64 v17 := by simpa using d17
 clear g17 k17 d17
 have g18 := hg 18 _ rfl
 rw [List.getElem?_eq_getElem (by omega)] at g18
 have k18 : DataW.trod enc Tryz.prog W base spare held m 2 [c18] = some xs[18] := g18
 obtain ⟨v18, d18, _⟩ := DataW.trod_int Tryz.underlying2 k18
 obtain rfl : c18 = .int .i64 v18 := by simpa using d18
 clear g18 k18 d18
 have g19 := hg 19 _ rfl
 rw [List.getElem?_eq_getElem (by omega)] at g19
 have k19 : DataW.trod enc Tryz.prog W base spare held m 2 [c19] = some xs[19] := g19
 obtain ⟨v19, d19, _⟩ := DataW.trod_int Tryz.underlying2 k19
 obtain rfl : c19 = .int .i64 v19 := by simpa using d19
 clear g19 k19 d19
 have g20 := hg 20 _ rfl
 rw [List.getElem?_eq_getElem (by omega)] at g20
 have k20 : DataW.trod enc Tryz.prog W base spare held m 2 [c20] = some xs[20] := g20
 obtain ⟨v20, d20, _⟩ := DataW.trod_int Tryz.underlying2 k20
 obtain rfl : c20 = .int .i64 v20 := by simpa using d20
 clear g20 k20 d20
 have g21 := hg 21 _ rfl
 rw [List.getElem?_eq_getElem (by omega)] at g21
 have k21 : DataW.trod enc Tryz.prog W base spare held m 2 [c21] = some xs[21] := g21
 obtain ⟨v21, d21, _⟩ := DataW.trod_int Tryz.underlying2 k21
 obtain rfl : c21 = .int .i64 v21 := by simpa using d21
 clear g21 k21 d21
 refine ⟨⟨v0, v1, v2, v3, v4, v5, v6, v7, v8, v9, v10, v11, v12, v13, v14, v15, v16, v17, v18, v19, v20, v21⟩, ?_⟩
 congr 1
 apply Array.toList_inj.1
 rw [hc]
 rfl
end
section
theorem qz66 : (Tryz.prog.info? 23).map (·.size) = some 4 := by kernel_rfl
theorem qz6g (h : Hd) : (Tryz.prog.info? 30).map (·.size) = some (hdC h).length := by
 show _ = some 22
 kernel_rfl
end
section
def qz2y : Value -> Option Nat
 | .pointer (some p) => some p.block
 | .slice (some p) _ _ => some p.block
 | _ => none
def qz27 (ops : Array Oper) (i : Nat) : Option Tmp := (ops[i]?).bind (·.dst)
def laid (ops : Array Oper) (vs : Nat -> Value) (listed : Array Bool) : List Nat -> Act -> Act
 | [], a => a
 | i :: l, a => laid ops vs listed l (if listed.getD i false then a.put (qz27 ops i) (vs i) else a)
def upd (vs : Nat -> Value) (i : Nat) (v : Value) : Nat -> Value := fun j => if j = i then v else vs j
def Lone (ops : Array Oper) : Prop := ∀ i j d, i ≠ j -> qz27 ops i = some d -> qz27 ops j ≠ some d
def qzax (ops : Array Oper) : Bool := (List.range ops.size).all fun i => (List.range ops.size).all fun j => (i == j) || match qz27 ops i, qz27 ops j with | some d, some e => d != e | _, _ => true
theorem qz6o {ops : Array Oper} (h : qzax ops = true) : Lone ops := by
 intro i j d hij hi hj
 have hi' : i < ops.size := by
  rcases Nat.lt_or_ge i ops.size with h | h
  ·exact h
  ·simp [qz27, Array.getElem?_eq_none h] at hi
 have hj' : j < ops.size := by
  rcases Nat.lt_or_ge j ops.size with h | h
  ·exact h
  ·simp [qz27, Array.getElem?_eq_none h] at hj
 have h1 := (List.all_eq_true.1 h) i (List.mem_range.2 hi')
 have h2 := (List.all_eq_true.1 h1) j (List.mem_range.2 hj')
 rw [hi, hj] at h2
 simp [hij] at h2
def Back (ops : Array Oper) : Prop := ∀ (i : Nat) (o : Oper), ops[i]? = some o -> ∀ e ∈ o.after, e.on < i
def qzbp (ops : Array Oper) : Bool := (List.range ops.size).all fun i => match ops[i]? with | some o => o.after.all fun e => decide (e.on < i) | none => true
theorem qz9h {ops : Array Oper} (h : qzbp ops = true) : Back ops := by
 intro i o ho e he
 have hi' : i < ops.size := by
  rcases Nat.lt_or_ge i ops.size with h | h
  ·exact h
  ·rw [Array.getElem?_eq_none h] at ho; cases ho
 have h1 := (List.all_eq_true.1 h) i (List.mem_range.2 hi')
 simp only [ho] at h1
 exact of_decide_eq_true (Array.all_eq_true_iff_forall_mem.1 h1 e he)
def qz7h (ops : Array Oper) (t : Nat) : Bool := (List.range ops.size).all fun k => qz27 ops k != some t
theorem qz58 {ops : Array Oper} {t : Nat} (h : qz7h ops t = true) (k : Nat) : qz27 ops k ≠ some t := by
 intro hk
 have hi' : k < ops.size := by
  rcases Nat.lt_or_ge k ops.size with h | h
  ·exact h
  ·simp [qz27, Array.getElem?_eq_none h] at hk
 have := (List.all_eq_true.1 h) k (List.mem_range.2 hi')
 simp [hk] at this
def dstB (ops : Array Oper) (n : Nat) : Bool := (List.range ops.size).all fun i => match qz27 ops i with | some d => decide (d < n) | none => true
theorem qz9u {ops : Array Oper} {n : Nat} (h : dstB ops n = true) (k d : Nat) (hk : qz27 ops k = some d) : d < n := by
 have hi' : k < ops.size := by
  rcases Nat.lt_or_ge k ops.size with h | h
  ·exact h
  ·simp [qz27, Array.getElem?_eq_none h] at hk
 have := (List.all_eq_true.1 h) k (List.mem_range.2 hi')
 rw [hk] at this
 exact of_decide_eq_true this
theorem qz3s {ops : Array Oper} (L : Lone ops) (vs : Nat -> Value) (listed : Array Bool) (i : Nat) (v : Value) : ∀ (l : List Nat) (a : Act), i ∉ l ->
  laid ops (upd vs i v) (listed.setIfInBounds i true) l (a.put (qz27 ops i) v) = (laid ops vs listed l a).put (qz27 ops i) v
 | [], a, _ => rfl
 | j :: l, a, h => by
  have hji : j ≠ i := fun e => h (by simp [e])
  have hl : i ∉ l := fun e => h (by simp [e])
  simp only [laid]
  rw [getD_set_ne false (Ne.symm hji)]
  have hu : upd vs i v j = vs j := by simp [upd, hji]
  rw [hu]
  split
  ·rw [Act.put_comm a v (vs j) (fun d h1 h2 => L i j d (Ne.symm hji) h1 h2)]
   exact qz3s L vs listed i v l _ hl
  ·exact qz3s L vs listed i v l _ hl
theorem qz3n {ops : Array Oper} (L : Lone ops) (vs : Nat -> Value) (listed : Array Bool) (i : Nat) (v : Value) (hi : i < listed.size) (hf : listed.getD i false = false) : ∀ (l : List Nat) (a : Act), l.Nodup -> i ∈ l ->
  (laid ops vs listed l a).put (qz27 ops i) v = laid ops (upd vs i v) (listed.setIfInBounds i true) l a
 | [], a, _, h => by cases h
 | j :: l, a, hn, h => by
  have hn' := List.nodup_cons.1 hn
  simp only [laid]
  by_cases hji : j = i
  ·subst hji
   rw [hf]
   have ht : (listed.setIfInBounds j true).getD j false = true := by simp [hi]
   have hu : upd vs j v j = v := by simp [upd]
   rw [ht, hu]
   simp only [if_true, Bool.false_eq_true, if_false]
   exact (qz3s L vs listed j v l a hn'.1).symm
  ·have hl : i ∈ l := by rcases List.mem_cons.1 h with h | h; exact absurd h.symm hji; exact h
   have hu : upd vs i v j = vs j := by simp [upd, hji]
   rw [getD_set_ne false (Ne.symm hji), hu]
   exact qz3n L vs listed i v hi hf l _ hn'.2 hl
theorem qzau (a : Act) (x : Option Tmp) (v : Value) : (a.put x v).tmps.size = a.tmps.size := by cases x <;> simp [Act.put]
theorem qz96 (a : Act) (x : Option Tmp) (v : Value) (d : Nat) (h : x ≠ some d) : (a.put x v).tmps.getD d undef = a.tmps.getD d undef := by
 cases x with
 | none => rfl
 | some e =>
  have : e ≠ d := fun h' => h (by rw [h'])
  simp [Act.put, Array.getElem?_setIfInBounds_ne this]
theorem qzb7 (a : Act) (v : Value) (d : Nat) (h : d < a.tmps.size) : (a.put (some d) v).tmps.getD d undef = v := by
 simp [Act.put, h]
theorem qz1s (ops : Array Oper) (vs : Nat -> Value) (listed : Array Bool) (d : Nat) : ∀ (l : List Nat) (a : Act), (∀ k ∈ l, qz27 ops k ≠ some d) -> (laid ops vs listed l a).tmps.getD d undef = a.tmps.getD d undef
 | [], a, _ => rfl
 | i :: l, a, h => by
  simp only [laid]
  rw [qz1s ops vs listed d l _ (fun k hk => h k (by simp [hk]))]
  split
  ·exact qz96 _ _ _ _ (h i (by simp))
  ·rfl
theorem qz3t {ops : Array Oper} (L : Lone ops) (vs : Nat -> Value) (listed : Array Bool) (j d : Nat) (hd : qz27 ops j = some d) (hj : listed.getD j false = true) : ∀ (l : List Nat) (a : Act), l.Nodup -> j ∈ l -> d < a.tmps.size -> (laid ops vs listed l a).tmps.getD d undef = vs j
 | [], a, _, h, _ => by cases h
 | i :: l, a, hn, h, hs => by
  have hn' := List.nodup_cons.1 hn
  simp only [laid]
  by_cases hij : i = j
  ·subst hij
   rw [qz1s ops vs listed d l _ (fun k hk h' => L i k d (fun e => hn'.1 (by rw [e]; exact hk)) hd h'), hj, hd]
   exact qzb7 _ _ _ hs
  ·have hl : j ∈ l := by rcases List.mem_cons.1 h with h | h; exact absurd h.symm hij; exact h
   exact qz3t L vs listed j d hd hj l _ hn'.2 hl (by split; rw [qzau]; exact hs; exact hs)
def qz3r (listed : Array Bool) : Nat := listed.toList.count false
theorem qz2e {listed : Array Bool} {i : Nat} (hi : i < listed.size) (h : listed.getD i false = false) : qz3r (listed.setIfInBounds i true) + 1 = qz3r listed := by
 have h' : listed.toList[i]'(by simpa using hi) = false := by simpa [hi] using h
 have hp : 0 < listed.toList.count false := List.count_pos_iff.2 (by rw [<- h']; exact List.getElem_mem _)
 have e := List.count_set (a := true) (b := false) (l := listed.toList) (i := i) (by simpa using hi)
 rw [h'] at e
 have e1 : (if (false == false) = true then 1 else 0) = 1 := rfl
 have e2 : (if (true == false) = true then 1 else 0) = 0 := rfl
 rw [e1, e2] at e
 unfold qz3r
 rw [Array.toList_setIfInBounds, e]
 omega
theorem qz77 {md : Region.Mode} {ops : Array Oper} {listed : Array Bool} (Bk : Back ops) (hs : listed.size = ops.size) (h : Region.ready md ops listed = []) : ∀ i, i < ops.size -> listed.getD i false = true := by
 intro i
 induction i using Nat.strongRecOn with
 | ind i ih =>
  intro hi
  cases hc : listed.getD i false with
  | true => rfl
  | false =>
   exfalso
   have hr : i ∈ Region.ready md ops listed := by
    rw [mem_ready]
    refine ⟨by simpa [hs, hi] using hc, ops[i], by simp [hi], fun e he _ => ?_⟩
    have hlt := Bk i ops[i] (by simp [hi]) e he
    exact ih e.on hlt (by omega)
   rw [h] at hr
   cases hr
theorem qz7c {listed : Array Bool} {n : Nat} (hs : listed.size = n) (h : ∀ i, i < n -> listed.getD i false = true) : listed = Array.replicate n true := by
 apply Array.ext
 ·simp [hs]
 ·intro i h1 h2
  have := h i (by omega)
  simp [h1] at this
  simp [this]
theorem qzbs {P : Program} {ops : Array Oper} {Q : Exit -> Act -> World -> Prop} {id : Nat} {a0 : Act} {w0 : World} (hm : P.follows .mixedOrders = true)
  (G : Nat -> Value -> World -> Prop) (fresh : Nat -> Bool) (hL : qzax ops = true) (hBk : qzbp ops = true) (hg : ops.all (fun o => o.guard.isNone) = true)
  (hdst0 : dstB ops a0.tmps.size = true)
  (mono : ∀ i v w w', w0.heap.size <= w.heap.size -> G i v w -> Below w.heap.size w w' -> G i v w')
  (blk : ∀ i v w b, fresh i = true -> G i v w -> qz2y v = some b -> b < w.heap.size)
  (step : ∀ (i : Nat) (o : Oper), ops[i]? = some o -> ∀ (ev : Operand -> Value) (w : World), Below w0.heap.size w0 w -> (∀ v, ev (.const v) = v) -> (∀ t, qz7h ops t = true -> ev (.tmp t) = a0.tmps.getD t undef) ->
   (∀ e ∈ o.after, Region.binds .any e = true -> ∀ d, qz27 ops e.on = some d -> G e.on (ev (.tmp d)) w) ->
   (∀ e ∈ o.after, Region.binds .any e = true -> ∀ f ∈ o.after, Region.binds .any f = true -> e.on ≠ f.on -> fresh e.on = true -> fresh f.on = true -> ∀ d d' b, qz27 ops e.on = some d -> qz27 ops f.on = some d' -> qz2y (ev (.tmp d)) = some b -> qz2y (ev (.tmp d')) ≠ some b) ->
   ∃ v w', (execOp ev o).run P w = .ok (.value v) w' /\ G i v w' /\ Below w.heap.size w w' /\ (fresh i = true -> ∀ b, qz2y v = some b -> w.heap.size <= b))
  (final : ∀ vs w', Below w0.heap.size w0 w' -> (∀ i, i < ops.size -> G i (vs i) w') ->
   (∀ i j b, i < ops.size -> j < ops.size -> i ≠ j -> fresh i = true -> fresh j = true -> qz2y (vs i) = some b -> qz2y (vs j) ≠ some b) ->
   Q .normal (laid ops vs (Array.replicate ops.size true) (List.range ops.size) a0) w') :
  (Code.region id ops true).wp P Q a0 w0 := by
 have hdst := qz9u hdst0
 have L := qz6o hL
 have Bk := qz9h hBk
 refine wp_region_any hm ?_
 have key : ∀ (fuel : Nat) (listed : Array Bool) (vs : Nat -> Value) (w : World), qz3r listed <= fuel -> listed.size = ops.size -> Below w0.heap.size w0 w ->
   (∀ i, i < ops.size -> listed.getD i false = true -> G i (vs i) w) ->
   (∀ i j b, i < ops.size -> j < ops.size -> i ≠ j -> listed.getD i false = true -> listed.getD j false = true -> fresh i = true -> fresh j = true -> qz2y (vs i) = some b -> qz2y (vs j) ≠ some b) ->
   wpAny P .any ops Q fuel listed (laid ops vs listed (List.range ops.size) a0) w := by
  intro fuel
  have fin : ∀ (listed : Array Bool) (vs : Nat -> Value) (w : World), listed.size = ops.size -> Below w0.heap.size w0 w ->
   (∀ i, i < ops.size -> listed.getD i false = true -> G i (vs i) w) ->
   (∀ i j b, i < ops.size -> j < ops.size -> i ≠ j -> listed.getD i false = true -> listed.getD j false = true -> fresh i = true -> fresh j = true -> qz2y (vs i) = some b -> qz2y (vs j) ≠ some b) ->
   Region.ready .any ops listed = [] -> Q .normal (laid ops vs listed (List.range ops.size) a0) w := by
   intro listed vs w hs hb hG hD hr
   have hall := qz77 Bk hs hr
   have he := qz7c hs hall
   have := final vs w hb (fun i hi => hG i hi (hall i hi)) (fun i j b hi hj hij => hD i j b hi hj hij (hall i hi) (hall j hj))
   rw [<- he] at this
   exact this
  induction fuel with
  | zero =>
   intro listed vs w hf hs hb hG hD
   have hr : Region.ready .any ops listed = [] := by
    apply List.eq_nil_iff_forall_not_mem.2
    intro i hi
    obtain ⟨h0, o, ho, _⟩ := mem_ready.1 hi
    have hi' : i < ops.size := (Array.getElem?_eq_some_iff.1 ho).1
    have hlt : i < listed.size := by omega
    have h1 : listed.getD i false = false := by simpa [hlt] using h0
    have := qz2e hlt h1
    omega
   exact ⟨hr, fin listed vs w hs hb hG hD hr⟩
  | succ fuel ih =>
   intro listed vs w hf hs hb hG hD
   refine ⟨fin listed vs w hs hb hG hD, ?_⟩
   intro i hi
   obtain ⟨h0, o, ho, hall⟩ := mem_ready.1 hi
   have hi' : i < ops.size := (Array.getElem?_eq_some_iff.1 ho).1
   have hlt : i < listed.size := by omega
   have h1 : listed.getD i false = false := by simpa [hlt] using h0
   have hguard : o.guard = none := by
    have := Array.all_eq_true_iff_forall_mem.1 hg o (Array.mem_of_getElem? ho)
    simpa using this
   have hnd : (List.range ops.size).Nodup := List.nodup_range
   have hlt' : ∀ e ∈ o.after, Region.binds .any e = true -> ∀ d, qz27 ops e.on = some d -> e.on < ops.size /\ listed.getD e.on false = true /\ (laid ops vs listed (List.range ops.size) a0).eval (.tmp d) = vs e.on := by
    intro e he hbd d hd
    have hel := hall e he hbd
    have hes : e.on < ops.size := by
     rcases Nat.lt_or_ge e.on ops.size with h | h
     ·exact h
     ·simp [qz27, Array.getElem?_eq_none h] at hd
    exact ⟨hes, hel, qz3t L vs listed e.on d hd hel _ _ hnd (List.mem_range.2 hes) (hdst _ _ hd)⟩
   obtain ⟨v, w', hrun, hGi, hb', hfr⟩ := step i o ho (laid ops vs listed (List.range ops.size) a0).eval w hb (fun _ => rfl)
    (fun t ht => qz1s ops vs listed t _ _ (fun k _ => qz58 ht k))
    (fun e he hbd d hd => by
     obtain ⟨h2, h3, h4⟩ := hlt' e he hbd d hd
     rw [h4]
     exact hG e.on h2 h3)
    (fun e he hbd f hf' hbf hef hfe hff d d' b hd hd' h5 => by
     obtain ⟨h2, h3, h4⟩ := hlt' e he hbd d hd
     obtain ⟨k2, k3, k4⟩ := hlt' f hf' hbf d' hd'
     rw [h4] at h5
     rw [k4]
     exact hD e.on f.on b h2 k2 hef h3 k3 hfe hff h5)
   have hw : Region.wanted o (yielded ops (laid ops vs listed (List.range ops.size) a0).tmps) = true := by simp [Region.wanted, hguard]
   unfold wpOp
   simp only [ho, hw, if_true]
   refine Or.inl ?_
   unfold Oper.wp
   rw [hrun]
   simp only [Oper.upon]
   have hd' : o.dst = qz27 ops i := by simp [qz27, ho]
   rw [hd', qz3n L vs listed i v hlt h1 _ _ hnd (List.mem_range.2 hi')]
   have hsz := hb.size
   refine ih _ _ _ (by have := qz2e hlt h1; omega) (by simpa using hs) (hb.trans (hb'.mono hsz)) ?_ ?_
   ·intro j hj hjl
    by_cases hji : j = i
    ·subst hji
     simp only [upd, if_true]
     exact hGi
    ·rw [getD_set_ne false (Ne.symm hji)] at hjl
     simp only [upd, hji, if_false]
     exact mono j _ w w' hsz (hG j hj hjl) hb'
   ·intro j k b hj hk hjk hjl hkl hfj hfk hbj hbk
    by_cases hji : j = i
    ·subst hji
     have hkj : k ≠ j := Ne.symm hjk
     rw [getD_set_ne false hjk] at hkl
     simp only [upd, if_true] at hbj
     simp only [upd, hkj, if_false] at hbk
     have h2 := hfr hfj b hbj
     have h3 := blk k _ w b hfk (hG k hk hkl) hbk
     omega
    ·rw [getD_set_ne false (Ne.symm hji)] at hjl
     simp only [upd, hji, if_false] at hbj
     by_cases hki : k = i
     ·subst hki
      simp only [upd, if_true] at hbk
      have h2 := hfr hfk b hbk
      have h3 := blk j _ w b hfj (hG j hj hjl) hbj
      omega
     ·rw [getD_set_ne false (Ne.symm hki)] at hkl
      simp only [upd, hki, if_false] at hbk
      exact hD j k b hj hk hjk hjl hkl hfj hfk hbj hbk
 have h0 : laid ops (fun _ => undef) (Array.replicate ops.size false) (List.range ops.size) a0 = a0 := by
  have : ∀ (l : List Nat) (a : Act), laid ops (fun _ => undef) (Array.replicate ops.size false) l a = a := by
   intro l
   induction l with
   | nil => intro a; rfl
   | cons i l ih =>
    intro a
    simp only [laid]
    have hf : (Array.replicate ops.size false).getD i false = false := by
     by_cases h : i < ops.size <;> simp [h]
    rw [hf]
    simpa using ih a
  exact this _ _
 have := key ops.size (Array.replicate ops.size false) (fun _ => undef) { w0 with drawn := w0.drawn + 1 } (by unfold qz3r; simp) (by simp) ⟨rfl, rfl, rfl, Nat.le_refl _, fun _ _ => rfl⟩ (fun i hi h => by simp [hi] at h) (fun i j b hi hj hij h => by simp [hi] at h)
 rw [h0] at this
 exact this
theorem qz5i {P : Program} {ops : Array Oper} {Q : Exit -> Act -> World -> Prop} {id : Nat} {a0 : Act} {w0 : World} (hm : P.follows .mixedOrders = true)
  (G : Nat -> Value -> World -> Prop) (fresh : Nat -> Bool) (hL : qzax ops = true) (hBk : qzbp ops = true) (hg : ops.all (fun o => o.guard.isNone) = true)
  (hdst0 : dstB ops a0.tmps.size = true)
  (mono : ∀ i v w w', w0.heap.size <= w.heap.size -> G i v w -> Below w.heap.size w w' -> G i v w')
  (blk : ∀ i v w b, fresh i = true -> G i v w -> qz2y v = some b -> b < w.heap.size)
  (step : ∀ (i : Nat) (o : Oper), ops[i]? = some o -> ∀ (a : Act) (w : World), Below w0.heap.size w0 w -> (∀ t, qz7h ops t = true -> a.eval (.tmp t) = a0.tmps.getD t undef) ->
   (∀ e ∈ o.after, Region.binds .any e = true -> ∀ d, qz27 ops e.on = some d -> G e.on (a.eval (.tmp d)) w) ->
   (∀ e ∈ o.after, Region.binds .any e = true -> ∀ f ∈ o.after, Region.binds .any f = true -> e.on ≠ f.on -> fresh e.on = true -> fresh f.on = true -> ∀ d d' b, qz27 ops e.on = some d -> qz27 ops f.on = some d' -> qz2y (a.eval (.tmp d)) = some b -> qz2y (a.eval (.tmp d')) ≠ some b) ->
   ∀ K : Act -> World -> Prop, (∀ v w', G i v w' -> Below w.heap.size w w' -> (fresh i = true -> ∀ b, qz2y v = some b -> w.heap.size <= b) -> K (a.put o.dst v) w') -> o.wp P a w K Q)
  (final : ∀ vs w', Below w0.heap.size w0 w' -> (∀ i, i < ops.size -> G i (vs i) w') ->
   (∀ i j b, i < ops.size -> j < ops.size -> i ≠ j -> fresh i = true -> fresh j = true -> qz2y (vs i) = some b -> qz2y (vs j) ≠ some b) ->
   Q .normal (laid ops vs (Array.replicate ops.size true) (List.range ops.size) a0) w') :
  (Code.region id ops true).wp P Q a0 w0 := by
 have hdst := qz9u hdst0
 have L := qz6o hL
 have Bk := qz9h hBk
 refine wp_region_any hm ?_
 have key : ∀ (fuel : Nat) (listed : Array Bool) (vs : Nat -> Value) (w : World), qz3r listed <= fuel -> listed.size = ops.size -> Below w0.heap.size w0 w ->
   (∀ i, i < ops.size -> listed.getD i false = true -> G i (vs i) w) ->
   (∀ i j b, i < ops.size -> j < ops.size -> i ≠ j -> listed.getD i false = true -> listed.getD j false = true -> fresh i = true -> fresh j = true -> qz2y (vs i) = some b -> qz2y (vs j) ≠ some b) ->
   wpAny P .any ops Q fuel listed (laid ops vs listed (List.range ops.size) a0) w := by
  intro fuel
  have fin : ∀ (listed : Array Bool) (vs : Nat -> Value) (w : World), listed.size = ops.size -> Below w0.heap.size w0 w ->
   (∀ i, i < ops.size -> listed.getD i false = true -> G i (vs i) w) ->
   (∀ i j b, i < ops.size -> j < ops.size -> i ≠ j -> listed.getD i false = true -> listed.getD j false = true -> fresh i = true -> fresh j = true -> qz2y (vs i) = some b -> qz2y (vs j) ≠ some b) ->
   Region.ready .any ops listed = [] -> Q .normal (laid ops vs listed (List.range ops.size) a0) w := by
   intro listed vs w hs hb hG hD hr
   have hall := qz77 Bk hs hr
   have he := qz7c hs hall
   have := final vs w hb (fun i hi => hG i hi (hall i hi)) (fun i j b hi hj hij => hD i j b hi hj hij (hall i hi) (hall j hj))
   rw [<- he] at this
   exact this
  induction fuel with
  | zero =>
   intro listed vs w hf hs hb hG hD
   have hr : Region.ready .any ops listed = [] := by
    apply List.eq_nil_iff_forall_not_mem.2
    intro i hi
    obtain ⟨h0, o, ho, _⟩ := mem_ready.1 hi
    have hi' : i < ops.size := (Array.getElem?_eq_some_iff.1 ho).1
    have hlt : i < listed.size := by omega
    have h1 : listed.getD i false = false := by simpa [hlt] using h0
    have := qz2e hlt h1
    omega
   exact ⟨hr, fin listed vs w hs hb hG hD hr⟩
  | succ fuel ih =>
   intro listed vs w hf hs hb hG hD
   refine ⟨fin listed vs w hs hb hG hD, ?_⟩
   intro i hi
   obtain ⟨h0, o, ho, hall⟩ := mem_ready.1 hi
   have hi' : i < ops.size := (Array.getElem?_eq_some_iff.1 ho).1
   have hlt : i < listed.size := by omega
   have h1 : listed.getD i false = false := by simpa [hlt] using h0
   have hguard : o.guard = none := by
    have := Array.all_eq_true_iff_forall_mem.1 hg o (Array.mem_of_getElem? ho)
    simpa using this
   have hnd : (List.range ops.size).Nodup := List.nodup_range
   have hlt' : ∀ e ∈ o.after, Region.binds .any e = true -> ∀ d, qz27 ops e.on = some d -> e.on < ops.size /\ listed.getD e.on false = true /\ (laid ops vs listed (List.range ops.size) a0).eval (.tmp d) = vs e.on := by
    intro e he hbd d hd
    have hel := hall e he hbd
    have hes : e.on < ops.size := by
     rcases Nat.lt_or_ge e.on ops.size with h | h
     ·exact h
     ·simp [qz27, Array.getElem?_eq_none h] at hd
    exact ⟨hes, hel, qz3t L vs listed e.on d hd hel _ _ hnd (List.mem_range.2 hes) (hdst _ _ hd)⟩
   have hstep := step i o ho (laid ops vs listed (List.range ops.size) a0) w hb
    (fun t ht => qz1s ops vs listed t _ _ (fun k _ => qz58 ht k))
    (fun e he hbd d hd => by
     obtain ⟨h2, h3, h4⟩ := hlt' e he hbd d hd
     rw [h4]
     exact hG e.on h2 h3)
    (fun e he hbd f hf' hbf hef hfe hff d d' b hd hd' h5 => by
     obtain ⟨h2, h3, h4⟩ := hlt' e he hbd d hd
     obtain ⟨k2, k3, k4⟩ := hlt' f hf' hbf d' hd'
     rw [h4] at h5
     rw [k4]
     exact hD e.on f.on b h2 k2 hef h3 k3 hfe hff h5)
   have hw : Region.wanted o (yielded ops (laid ops vs listed (List.range ops.size) a0).tmps) = true := by simp [Region.wanted, hguard]
   unfold wpOp
   simp only [ho, hw, if_true]
   refine Or.inl (hstep _ ?_)
   intro v w' hGi hb' hfr
   have hd' : o.dst = qz27 ops i := by simp [qz27, ho]
   rw [hd', qz3n L vs listed i v hlt h1 _ _ hnd (List.mem_range.2 hi')]
   have hsz := hb.size
   refine ih _ _ _ (by have := qz2e hlt h1; omega) (by simpa using hs) (hb.trans (hb'.mono hsz)) ?_ ?_
   ·intro j hj hjl
    by_cases hji : j = i
    ·subst hji
     simp only [upd, if_true]
     exact hGi
    ·rw [getD_set_ne false (Ne.symm hji)] at hjl
     simp only [upd, hji, if_false]
     exact mono j _ w w' hsz (hG j hj hjl) hb'
   ·intro j k b hj hk hjk hjl hkl hfj hfk hbj hbk
    by_cases hji : j = i
    ·subst hji
     have hkj : k ≠ j := Ne.symm hjk
     rw [getD_set_ne false hjk] at hkl
     simp only [upd, if_true] at hbj
     simp only [upd, hkj, if_false] at hbk
     have h2 := hfr hfj b hbj
     have h3 := blk k _ w b hfk (hG k hk hkl) hbk
     omega
    ·rw [getD_set_ne false (Ne.symm hji)] at hjl
     simp only [upd, hji, if_false] at hbj
     by_cases hki : k = i
     ·subst hki
      simp only [upd, if_true] at hbk
      have h2 := hfr hfk b hbk
      have h3 := blk j _ w b hfj (hG j hj hjl) hbj
      omega
     ·rw [getD_set_ne false (Ne.symm hki)] at hkl
      simp only [upd, hki, if_false] at hbk
      exact hD j k b hj hk hjk hjl hkl hfj hfk hbj hbk
 have h0 : laid ops (fun _ => undef) (Array.replicate ops.size false) (List.range ops.size) a0 = a0 := by
  have : ∀ (l : List Nat) (a : Act), laid ops (fun _ => undef) (Array.replicate ops.size false) l a = a := by
   intro l
   induction l with
   | nil => intro a; rfl
   | cons i l ih =>
    intro a
    simp only [laid]
    have hf : (Array.replicate ops.size false).getD i false = false := by
     by_cases h : i < ops.size <;> simp [h]
    rw [hf]
    simpa using ih a
  exact this _ _
 have := key ops.size (Array.replicate ops.size false) (fun _ => undef) { w0 with drawn := w0.drawn + 1 } (by unfold qz3r; simp) (by simp) ⟨rfl, rfl, rfl, Nat.le_refl _, fun _ _ => rfl⟩ (fun i hi h => by simp [hi] at h) (fun i j b hi hj hij h => by simp [hi] at h)
 rw [h0] at this
 exact this
theorem qz1z {P : Program} {op : Oper} {a : Act} {w : World} {K : Act -> World -> Prop} {Q : Exit -> Act -> World -> Prop} (ty : TypeId) (x : Operand) (ho : op.op = .load ty x)
  (b o : Nat) (hx : a.eval x = .pointer (some ⟨b, o, none⟩)) (cs : List Value) (d : TypeDesc) (hc : w.rangeAt b o cs)
  (hu : P.underlying ty = some d) (hd : d.isRow = true) (hi : (P.info? ty).map (·.size) = some cs.length)
  (h : K (a.put op.dst (.agg cs.toArray)) w) : op.wp P a w K Q := wp_load_mid ty x ho b o hx cs d hc hu hd hi h
theorem qz12 {P : Program} {op : Oper} {a : Act} {w : World} {K : Act -> World -> Prop} {Q : Exit -> Act -> World -> Prop} {f : FuncId} {args : Array Value} {R : Value -> World -> Prop}
  (he : (execOp a.eval op).run P w = .ok (.enter f args) w) (hc : Calls P f args w fun e w' => ∃ v, e = .returned v /\ R v w') (h : ∀ v w', R v w' -> K (a.put op.dst v) w') : op.wp P a w K Q := by
 unfold Oper.wp
 rw [he]
 simp only [Oper.upon]
 refine hc.mono ?_
 rintro e w' ⟨v, rfl, hR⟩
 exact h v w' hR
theorem qz7 {P : Program} {op : Oper} {a : Act} {w w' : World} {v : Value} {K : Act -> World -> Prop} {Q : Exit -> Act -> World -> Prop}
  (he : (execOp a.eval op).run P w = .ok (.value v) w') (h : K (a.put op.dst v) w') : op.wp P a w K Q := by
 unfold Oper.wp
 rw [he]
 exact h
end
section
theorem qz24 {P : Program} {ops : Array Oper} {Q : Exit -> Act -> World -> Prop} {l : List Oper} {a : Act} (w : World) (h : Hid (wpList P ops Q l a w)) : wpList P ops Q l a w := h
section
variable {P : Program} {ops : Array Oper} {md : Region.Mode} {C : World -> Prop}
def qz9b (md : Region.Mode) (ops : Array Oper) : Nat -> Nat -> Nat -> Bool
 | 0, _, _ => false
 | f + 1, j, i => match ops[j]? with
  | some o => o.after.any fun e => Region.binds md e && (e.on == i || qz9b md ops f e.on i)
  | none => false
def qz8c (md : Region.Mode) (ops : Array Oper) (k : Nat) : Bool := (List.range ops.size).all fun j => decide (j < k) || (List.range k).all fun i => qz9b md ops ops.size j i
def qzbq (md : Region.Mode) (ops : Array Oper) : Nat -> Nat -> Array Bool -> Bool
 | 0, _, _ => true
 | f + 1, k, listed => (Region.ready md ops listed).contains k && Region.free md ops listed k && qzbq md ops f (k + 1) (listed.setIfInBounds k true)
def qz3j : Nat -> Nat -> Array Bool -> Array Bool
 | 0, _, l => l
 | f + 1, k, l => qz3j f (k + 1) (l.setIfInBounds k true)
def qz3m (md : Region.Mode) (ops : Array Oper) : Nat -> Nat -> Array Bool -> Bool
 | 0, _, listed => (Region.ready md ops listed).isEmpty
 | f + 1, k, listed => (Region.ready md ops listed == [k]) && qz3m md ops f (k + 1) (listed.setIfInBounds k true)
def qzbb (md : Region.Mode) (ops : Array Oper) (k m : Nat) : Bool :=
 (ops.size == k + m) && Region.noSelect ops && qzbq md ops k 0 (Array.replicate ops.size false) && qz8c md ops k && qz3m md ops m k (qz3j k 0 (Array.replicate ops.size false))
theorem qz21 : ∀ (f k : Nat) (l : Array Bool), (qz3j f k l).size = l.size
 | 0, _, _ => rfl
 | f + 1, k, l => by rw [qz3j, qz21 f (k + 1)]; simp
theorem qz2j : ∀ (f k : Nat) (l : Array Bool) (i : Nat), i < l.size -> (qz3j f k l).getD i false = if k <= i /\ i < k + f then true else l.getD i false
 | 0, k, l, i, h => by rw [if_neg (by omega)]; rfl
 | f + 1, k, l, i, h => by
  rw [qz3j, qz2j f (k + 1) _ i (by simpa using h)]
  by_cases e : k = i
  ·subst e
   rw [if_neg (by omega), if_pos (by omega)]
   simp [h]
  ·rw [getD_set_ne false e]
   by_cases c : k + 1 <= i /\ i < k + 1 + f
   ·rw [if_pos c, if_pos (by omega)]
   ·rw [if_neg c, if_neg (by omega)]
def qz45 (md : Region.Mode) (ops : Array Oper) (listed : Array Bool) : Prop := ∀ j o, ops[j]? = some o -> listed.getD j false = true -> ∀ e ∈ o.after, Region.binds md e = true -> listed.getD e.on false = true
theorem qz45.set {listed : Array Bool} (hc : qz45 md ops listed) {j : Nat} (hj : j ∈ Region.ready md ops listed) : qz45 md ops (listed.setIfInBounds j true) := by
 intro i o ho hi e he hb
 by_cases hij : j = i
 ·subst hij
  obtain ⟨_, o', ho', hall⟩ := mem_ready.1 hj
  rw [ho] at ho'
  cases ho'
  exact getD_set_true (hall e he hb)
 ·rw [getD_set_ne false hij] at hi
  exact getD_set_true (hc i o ho hi e he hb)
theorem qz3u {listed : Array Bool} (hc : qz45 md ops listed) : ∀ (f j i : Nat), qz9b md ops f j i = true -> (∀ o, ops[j]? = some o -> ∀ e ∈ o.after, Region.binds md e = true -> listed.getD e.on false = true) -> listed.getD i false = true
 | 0, j, i, h, _ => by cases h
 | f + 1, j, i, h, hall => by
  unfold qz9b at h
  cases ho : ops[j]? with
  | none => rw [ho] at h; cases h
  | some o =>
   rw [ho] at h
   obtain ⟨e, he, hb⟩ := Array.any_eq_true'.1 h
   simp only [Bool.and_eq_true, Bool.or_eq_true, beq_iff_eq] at hb
   have h1 := hall o ho e he hb.1
   rcases hb.2 with h2 | h2
   ·rw [<- h2]; exact h1
   ·exact qz3u hc f e.on i h2 (fun o' ho' => hc e.on o' ho' h1)
theorem qz3b {k : Nat} {listed : Array Bool} (hw : qz8c md ops k = true) (hc : qz45 md ops listed) {i j : Nat} (hi : i < k) (hu : listed.getD i true = false) (hj : j ∈ Region.ready md ops listed) : j < k := by
 rcases Nat.lt_or_ge j k with h | h
 ·exact h
 ·obtain ⟨_, o, ho, hall⟩ := mem_ready.1 hj
  have hjs : j < ops.size := (Array.getElem?_eq_some_iff.1 ho).1
  have h1 := (List.all_eq_true.1 hw) j (List.mem_range.2 hjs)
  simp only [Bool.or_eq_true, decide_eq_true_eq] at h1
  rcases h1 with h1 | h1
  ·exact h1
  ·have h2 := (List.all_eq_true.1 h1) i (List.mem_range.2 hi)
   have h3 := qz3u hc _ j i h2 (fun o' ho' => by rw [ho] at ho'; cases ho'; exact hall)
   rcases Nat.lt_or_ge i listed.size with h' | h'
   ·simp [h'] at hu h3; rw [hu] at h3; cases h3
   ·simp [Array.getElem?_eq_none h'] at hu
def qza0 (P : Program) (md : Region.Mode) (ops : Array Oper) (C : World -> Prop) (k : Nat) (Q : Act -> Prop) : Nat -> Array Bool -> Act -> Prop
 | 0, listed, a => (∀ i, i < k -> listed.getD i true = true) /\ Q a
 | f + 1, listed, a => (∃ i, i < k /\ i ∈ Region.ready md ops listed) /\ ∀ i ∈ Region.ready md ops listed, qOp P ops C i (qza0 P md ops C k Q f (listed.setIfInBounds i true)) a
theorem qz7q {k : Nat} {Q : Act -> Prop} {i : Nat} {oi : Oper} {v : Value} (hw : qz8c md ops k = true) (hik : i < k) (hi : ops[i]? = some oi) (hsel : ∀ (j : Nat) (o : Oper) cs b, ops[j]? = some o -> o.op ≠ .select cs b) :
  ∀ (f : Nat) (listed : Array Bool) (a : Act), qz45 md ops listed ->
   (∀ j oj, ops[j]? = some oj -> j ≠ i -> listed.getD j true = false -> (∀ e ∈ oj.after, Region.binds md e = true -> e.on ≠ i) -> oi.apart ops oj = true) ->
   i ∈ Region.ready md ops listed -> YieldsIn P ops C oi v a ->
   qza0 P md ops C k Q f (listed.setIfInBounds i true) (a.put oi.dst v) -> qza0 P md ops C k Q (f + 1) listed a := by
 intro f
 induction f with
 | zero =>
  intro listed a hc _ hr hy H
  refine ⟨⟨i, hik, hr⟩, fun j hj => ?_⟩
  by_cases hji : j = i
  ·subst hji; exact hy.qOp hi H
  ·have hjk := qz3b hw hc hik (mem_ready.1 hr).1 hj
   have h1 := H.1 j hjk
   rw [getD_set_ne true (Ne.symm hji), (mem_ready.1 hj).1] at h1
   cases h1
 | succ f ih =>
  intro listed a hc hfree hr hy H
  refine ⟨⟨i, hik, hr⟩, fun j hj => ?_⟩
  by_cases hji : j = i
  ·subst hji; exact hy.qOp hi H
  ·have h1 := H.2 j (ready_mono hj hji)
   obtain ⟨hjun, oj, hoj, hall⟩ := mem_ready.1 hj
   have hnot : ∀ e ∈ oj.after, Region.binds md e = true -> e.on ≠ i := fun e he hb heq => by
    have h1 := hall e he hb
    have h0 := (mem_ready.1 hr).1
    rw [heq] at h1
    rcases Nat.lt_or_ge i listed.size with h' | h'
    ·simp [h'] at h0 h1; rw [h0] at h1; cases h1
    ·simp [Array.getElem?_eq_none h'] at h1
   have h2 := qOp_put hoj (hfree j oj hoj hji hjun hnot) (fun cs b => hsel i oi cs b hi) (fun cs b => hsel j oj cs b hoj) hy h1
   have hfree' : ∀ k ok, ops[k]? = some ok -> k ≠ i -> (listed.setIfInBounds j true).getD k true = false ->
     (∀ e ∈ ok.after, Region.binds md e = true -> e.on ≠ i) -> oi.apart ops ok = true := fun k ok hk hki hun hno => by
    refine hfree k ok hk hki ?_ hno
    by_cases hjk : j = k
    ·subst hjk; exact hjun
    ·rw [getD_set_ne true hjk] at hun; exact hun
   refine qOp_mono (fun a' h3 => ih (listed.setIfInBounds j true) a' (hc.set hj) hfree' (ready_mono hr (Ne.symm hji)) h3.1 ?_) h2
   rw [Array.setIfInBounds_comm _ _ hji]
   exact h3.2
theorem qz78 {k : Nat} {Q : Act -> Prop} (hw : qz8c md ops k = true) (hs : Region.noSelect ops = true) : ∀ (l : List Oper) (n : Nat) (listed : Array Bool) (a : Act), n + l.length = k -> (∀ j, j < l.length -> l[j]? = ops[n + j]?) -> qz45 md ops listed -> (∀ i, i < n -> listed.getD i true = true) -> k <= listed.size ->
  qzbq md ops l.length n listed = true -> wpQuiet P ops C Q l a -> qza0 P md ops C k Q l.length listed a
 | [], n, listed, _, hn, _, _, hall, _, _, h => ⟨fun i hi => hall i (by simp at hn; omega), h⟩
 | o :: l, n, listed, a, hn, hl, hc, hall, hsz, hB, h => by
  have h0 : ops[n]? = some o := by simpa using (hl 0 (by simp)).symm
  simp only [List.length_cons, qzbq, Bool.and_eq_true] at hB
  obtain ⟨⟨hr, hf⟩, hB'⟩ := hB
  have hr' : n ∈ Region.ready md ops listed := by simpa using hr
  have hst : qOp P ops C n (wpQuiet P ops C Q l) a := by unfold qOp; simp only [h0]; exact h
  obtain ⟨v, hy, hK⟩ := yieldsIn_of_qOp h0 hst
  simp only [List.length_cons] at hn
  refine qz7q hw (by omega) h0 (Region.noSelect_spec hs) l.length listed a hc (Region.free_spec h0 hf) hr' hy ?_
  refine qz78 hw hs l (n + 1) _ _ (by omega) (fun j hj => by have := hl (j + 1) (by simp; omega); simpa [Nat.add_assoc, Nat.add_comm 1 j] using this) (hc.set hr') (fun i hi => ?_) (by simpa using hsz) hB' hK
  by_cases e : n = i
  ·subst e
   have : n < listed.size := by omega
   simp [this]
  ·rw [getD_set_ne true e]
   exact hall i (by omega)
theorem qz6q {k m : Nat} {Q : Act -> Prop} {Q' : Exit -> Act -> World -> Prop} (hw : qz8c md ops k = true) (hkm : ops.size = k + m)
  (hQ : ∀ a w, C w -> Q a -> wpAny P md ops Q' m (qz3j k 0 (Array.replicate ops.size false)) a w) : ∀ (f : Nat) (listed : Array Bool) (a : Act) (w : World), C w -> qz45 md ops listed -> listed.size = ops.size -> (∀ j, k <= j -> listed.getD j false = false) ->
  qza0 P md ops C k Q f listed a -> wpAny P md ops Q' (f + m) listed a w
 | 0, listed, a, w, hC, _, hsz, htail, h => by
  have e : listed = qz3j k 0 (Array.replicate ops.size false) := by
   apply Array.ext
   ·rw [qz21, hsz]; simp
   ·intro i h1 h2
    have g := qz2j k 0 (Array.replicate ops.size false) i (by simp; omega)
    have g1 : (qz3j k 0 (Array.replicate ops.size false))[i] = (qz3j k 0 (Array.replicate ops.size false)).getD i false := by simp [h2]
    have g2 : listed[i] = listed.getD i false := by simp [h1]
    rw [g1, g2, g]
    by_cases c : i < k
    ·rw [if_pos (by omega)]
     have := h.1 i c
     simpa [h1] using this
    ·have hio : i < ops.size := by omega
     rw [if_neg (by omega), htail i (by omega)]
     simp [hio]
  rw [e, Nat.zero_add]
  exact hQ a w hC h.2
 | f + 1, listed, a, w, hC, hc, hsz, htail, h => by
  obtain ⟨⟨i0, hi0, hr0⟩, hall⟩ := h
  rw [show f + 1 + m = (f + m) + 1 by omega]
  refine ⟨fun h0 => (by rw [h0] at hr0; cases hr0), fun i hi => ?_⟩
  have hik := qz3b hw hc hi0 (mem_ready.1 hr0).1 hi
  refine wpOp_of_qOp hC (fun a' w' hC' hT => qz6q hw hkm hQ f _ a' w' hC' (hc.set hi) (by simpa using hsz) (fun j hj => ?_) hT) (hall i hi)
  rw [getD_set_ne false (by omega)]
  exact htail j hj
theorem qz82 {Q : Exit -> Act -> World -> Prop} : ∀ (l : List Oper) (n : Nat) (listed : Array Bool) (a : Act) (w : World), (∀ j, l[j]? = ops[n + j]?) -> qz3m md ops l.length n listed = true -> wpList P ops Q l a w -> wpAny P md ops Q l.length listed a w
 | [], _, listed, a, w, _, hB, h => ⟨by simpa [qz3m] using hB, h⟩
 | o :: l, n, listed, a, w, hl, hB, h => by
  have h0 : ops[n]? = some o := by simpa using (hl 0).symm
  simp only [List.length_cons, qz3m, Bool.and_eq_true] at hB
  obtain ⟨hr, hB'⟩ := hB
  have hr' : Region.ready md ops listed = [n] := by simpa using hr
  have ih := fun a w => qz82 (Q := Q) l (n + 1) (listed.setIfInBounds n true) a w (fun j => by have := hl (j + 1); simpa [Nat.add_assoc, Nat.add_comm 1 j] using this) hB'
  refine wpAny_all hr' (by simp) (fun i hi => ?_)
  obtain rfl := List.mem_singleton.1 hi
  unfold wpOp
  unfold wpList at h
  simp only [h0]
  split
  ·rename_i hwd
   rw [if_pos hwd] at h
   rcases h with h | h
   ·exact .inl (Oper.wp_mono ih h)
   ·exact .inr h
  ·rename_i hwd
   rw [if_neg hwd] at h
   exact ih _ _ h
theorem qzz {id : Nat} {Q : Exit -> Act -> World -> Prop} {a : Act} {w : World} {l : List Oper} (k : Nat) (hm : P.follows .mixedOrders = true) (hB : qzbb .any l.toArray k (l.length - k) = true)
  (h : wpQuiet P l.toArray (fun w' => ∃ n, w' = w.drewN n) (fun a' => ∀ w', (∃ n, w' = w.drewN n) -> wpList P l.toArray Q (l.drop k) a' w') (l.take k) a) : (Code.region id l.toArray true).wp P Q a w := by
 simp only [qzbb, Bool.and_eq_true, beq_iff_eq] at hB
 obtain ⟨⟨⟨⟨hkm, hs⟩, hlex⟩, hw⟩, hseq⟩ := hB
 have hkl : k <= l.length := by simp at hkm; omega
 have hsz : l.toArray.size = l.length := by simp
 refine wp_region_any hm ?_
 have hc0 : qz45 .any l.toArray (Array.replicate l.toArray.size false) := by
  intro j o ho hj
  exfalso
  rcases Nat.lt_or_ge j l.toArray.size with h' | h'
  ·simp at h'; simp [h'] at hj
  ·simp at h'; simp [h'] at hj
 have hT := qz78 (P := P) (md := .any) (C := fun w' => ∃ n, w' = w.drewN n) (Q := fun a' => ∀ w', (∃ n, w' = w.drewN n) -> wpList P l.toArray Q (l.drop k) a' w') hw hs (l.take k) 0 (Array.replicate l.toArray.size false) a (by simp; omega) (fun j hj => by simp at hj; simp [hj]) hc0 (fun i hi => by omega) (by simp; omega) (by simpa [Nat.min_eq_left hkl] using hlex) h
 have hfin := qz6q (P := P) (md := .any) (Q' := Q) hw hkm (fun a' w' hC hq => by
  have := qz82 (P := P) (md := .any) (Q := Q) (l.drop k) k (qz3j k 0 (Array.replicate l.toArray.size false)) a' w' (fun j => by simp) (by simpa using hseq) (hq w' hC)
  simpa using this) (l.take k).length (Array.replicate l.toArray.size false) a { w with drawn := w.drawn + 1 } ⟨1, rfl⟩ hc0 (by simp) (fun j _ => by
   rcases Nat.lt_or_ge j l.toArray.size with h' | h'
   ·simp at h'; simp [h']
   ·simp at h'; simp [h']) hT
 rw [show (l.take k).length + (l.length - k) = l.toArray.size by simp; omega] at hfin
 exact hfin
theorem qzy {Q : Act -> Prop} {a : Act} {o : Oper} {rest : List Oper} (hw : Region.wanted o (yielded ops a.tmps) = true) (ty : TypeId) (x : Operand) (ho : o.op = .load ty x)
  (b f : Nat) (hx : a.eval x = .pointer (some ⟨b, f, none⟩)) (cs : List Value) (d : TypeDesc) (hc : ∀ w, C w -> w.rangeAt b f cs)
  (hu : P.underlying ty = some d) (hd : d.isRow = true) (hi : (P.info? ty).map (·.size) = some cs.length)
  (h : wpQuiet P ops C Q rest (a.put o.dst (.agg cs.toArray))) : wpQuiet P ops C Q (o :: rest) a := by
 refine wpQuiet_step fun K hK => ?_
 rw [if_pos hw]
 refine ⟨.agg cs.toArray, fun w hw => ?_, hK _ h⟩
 unfold Oper.quietAt execOp
 simp only [ho, hx, Instr.loadAt, Instr.sureAddr, Sem.run_bind, Sem.run_pure, Result.andThen_ok, run_loadVar_mid w b f ty cs d (hc w hw) hu hd hi]
 exact ⟨rfl, rfl⟩
theorem qz18 {Q : Act -> Prop} {a : Act} {o : Oper} {rest : List Oper} (hgd : o.guard = none) (ty : TypeId) (x : Operand) (ho : o.op = .load ty x)
  (b f : Nat) (hx : a.eval x = .pointer (some ⟨b, f, none⟩)) (cs : List Value) (d : TypeDesc) (hc : ∀ w, C w -> w.rangeAt b f cs)
  (hu : P.underlying ty = some d) (hd : d.isRow = true) (hi : (P.info? ty).map (·.size) = some cs.length)
  (h : wpQuiet P ops C Q rest (a.put o.dst (.agg cs.toArray))) : wpQuiet P ops C Q (o :: rest) a :=
 qzy (by simp [Region.wanted, hgd]) ty x ho b f hx cs d hc hu hd hi h
end
end
end Go.Proofs.YtknncnaikeinbaaGreat
