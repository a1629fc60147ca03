/-
  What the law's proof goes by, part 4.
-/
import Derived.Test.YtlfjhcdjgoeafaaDoorSwapped00
import Derived.Test.YtlfjhcdjgoeafaaDoorSwapped01
namespace Go.Proofs.YtlfjhcdjgoeafaaDoor
open Go.ChangeShapes Go.WideShapes Go.ChangeAt Go.RowKit
set_option maxRecDepth 100000
set_option maxHeartbeats 16000000
set_option linter.unusedVariables false
set_option linter.unusedSimpArgs false
set_option linter.unnecessarySimpa false
set_option linter.unusedSectionVars false
section
attribute [local go_sem ↓] Go.wp_at_zero Go.wp_at_succ
def qz1r (nv : Int) (i : Nat) (x : Nd) : Bool :=
 if i = 0 then (x.key == -1) && (x.value == 0) && inB x.head 0 (nv - 1) else inB x.key 0 63 && inB x.value 0 9999 && inB x.head 0 (nv - 1)
def verB (nn cam : Int) (i : Nat) (v : Vr) : Bool :=
 ((v.next == -1) || inB v.next 1 (nn - 1)) && inB v.stamp (-1) cam && inB v.prev (-1) ((i : Int) - 1) && inB v.kind 0 2
theorem qz17 (n : Int) (w : World) : Calls Tryd.prog 47 #[.int .i64 n] w fun e w' => e = .returned (.bool (inB n 0 100)) /\ w' = w := by
 go_enter Tryd.func47, Tryd.ntmps47
 go_wp2_with (go_at_call 48; refine (qzb _ _ _ _).mono ?_; rintro e w' ⟨rfl, rfl⟩)
 go_ret
 exact ⟨rfl, rfl⟩
theorem qz3m (cam : Int) (s g r : Value) (a : Option Addr) (len cap : Nat) (n : Int) (w : World) (hl : len <= 1048576) :
  Calls Tryd.prog 44 #[.agg #[.int .i64 cam, s, g, .slice a len cap, r], .int .i64 n] w fun e w' => e = .returned (.bool (inB n 0 (len - 1))) /\ Below w.heap.size w w' := by
 go_enter Tryd.func44, Tryd.ntmps44
 go_wp2_with (go_at_call 48; refine (qzb _ _ _ _).mono ?_; rintro e w' ⟨rfl, rfl⟩)
 go_ret
 exact ⟨rfl, (Below.refl _ _).alloc (Nat.le_refl _) _⟩
theorem qz69 (cam : Int) (s g n : Value) (a : Option Addr) (len cap : Nat) (v : Int) (w : World) (hl : len <= 1048576) :
  Calls Tryd.prog 75 #[.agg #[.int .i64 cam, s, g, n, .slice a len cap], .int .i64 v] w fun e w' => e = .returned (.bool (inB v 0 (len - 1))) /\ Below w.heap.size w w' := by
 go_enter Tryd.func75, Tryd.ntmps75
 go_wp2_with (go_at_call 48; refine (qzb _ _ _ _).mono ?_; rintro e w' ⟨rfl, rfl⟩)
 go_ret
 exact ⟨rfl, (Below.refl _ _).alloc (Nat.le_refl _) _⟩
theorem qz3o (cam : Int) (s g : Value) (bb off len cap : Nat) (a4 : Option Addr) (n4 c4 : Nat) (x : Nd) (i : Nat) (w : World) (hl : len <= 1048576) (h4 : n4 <= 1048576) (hi : i < len) (hb : bb < w.heap.size) (R : w.rangeAt bb (off + i * 3) (ndC x)) :
  Calls Tryd.prog 49 #[.agg #[.int .i64 cam, s, g, .slice (some ⟨bb, off, none⟩) len cap, .slice a4 n4 c4], .int .i64 i] w fun e w' => e = .returned (.bool (qz1r n4 i x)) /\ Below w.heap.size w w' := by
 have hi' : (i : Int) < (len : Int) := by omega
 have f0 : ∀ o : Obj, (w.alloc o).cell? ⟨bb, off + i * 3, none⟩ = some (.int .i64 x.key) := fun o => (World.cell?_alloc_lt _ _ _ hb).trans (R 0 _ rfl)
 have f1 : ∀ o : Obj, (w.alloc o).cell? ⟨bb, off + i * 3 + 1, none⟩ = some (.int .i64 x.value) := fun o => (World.cell?_alloc_lt _ _ _ hb).trans (R 1 _ rfl)
 have f2 : ∀ o : Obj, (w.alloc o).cell? ⟨bb, off + i * 3 + 2, none⟩ = some (.int .i64 x.head) := fun o => (World.cell?_alloc_lt _ _ _ hb).trans (R 2 _ rfl)
 clear R
 by_cases h0 : i = 0
 ·have hi0 : ((i : Int) == 0) = true := by simp; omega
  cases e1 : (x.key == -1)
  ·have hv : qz1r n4 i x = false := by simp [qz1r, h0, e1]
   clear h0
   go_enter Tryd.func49, Tryd.ntmps49
   go_wp2_with (first | (go_at_call 48; refine (qzb _ _ _ _).mono ?_; rintro e w' ⟨rfl, rfl⟩) | (go_at_call 39; refine (qzz _ _).mono ?_; rintro e w' ⟨rfl, rfl⟩))
   go_ret
   exact ⟨by rw [hv]; rfl, (((Below.refl _ _).alloc (Nat.le_refl _) _).alloc (by simp) _)⟩
  ·cases e2 : (x.value == 0)
   ·have hv : qz1r n4 i x = false := by simp [qz1r, h0, e2]
    clear h0
    go_enter Tryd.func49, Tryd.ntmps49
    go_wp2_with (first | (go_at_call 48; refine (qzb _ _ _ _).mono ?_; rintro e w' ⟨rfl, rfl⟩) | (go_at_call 39; refine (qzz _ _).mono ?_; rintro e w' ⟨rfl, rfl⟩))
    go_ret
    exact ⟨by rw [hv]; rfl, (((Below.refl _ _).alloc (Nat.le_refl _) _).alloc (by simp) _)⟩
   ·have hv : qz1r n4 i x = inB x.head 0 (n4 - 1) := by simp [qz1r, h0, e1, e2]
    clear h0
    go_enter Tryd.func49, Tryd.ntmps49
    go_wp2_with (first | (go_at_call 48; refine (qzb _ _ _ _).mono ?_; rintro e w' ⟨rfl, rfl⟩) | (go_at_call 39; refine (qzz _ _).mono ?_; rintro e w' ⟨rfl, rfl⟩) | (go_at_call 75; refine (qz69 _ _ _ _ _ _ _ _ _ h4).mono ?_; rintro e w2 ⟨rfl, b2⟩))
    go_ret
    exact ⟨by rw [hv]; rfl, (((Below.refl _ _).alloc (Nat.le_refl _) _).alloc (by simp) _).trans (b2.mono (by simp; omega))⟩
 ·have hi0 : ((i : Int) == 0) = false := by simp; omega
  cases e1 : inB x.key 0 63
  ·have hv : qz1r n4 i x = false := by simp [qz1r, h0, e1]
   go_enter Tryd.func49, Tryd.ntmps49
   go_wp2_with (first | (go_at_call 48; refine (qzb _ _ _ _).mono ?_; rintro e w' ⟨rfl, rfl⟩) | (go_at_call 39; refine (qzz _ _).mono ?_; rintro e w' ⟨rfl, rfl⟩))
   go_ret
   exact ⟨by rw [hv]; rfl, (((Below.refl _ _).alloc (Nat.le_refl _) _).alloc (by simp) _)⟩
  ·cases e2 : inB x.value 0 9999
   ·have hv : qz1r n4 i x = false := by simp [qz1r, h0, e2]
    go_enter Tryd.func49, Tryd.ntmps49
    go_wp2_with (first | (go_at_call 48; refine (qzb _ _ _ _).mono ?_; rintro e w' ⟨rfl, rfl⟩) | (go_at_call 39; refine (qzz _ _).mono ?_; rintro e w' ⟨rfl, rfl⟩))
    go_ret
    exact ⟨by rw [hv]; rfl, (((Below.refl _ _).alloc (Nat.le_refl _) _).alloc (by simp) _)⟩
   ·have hv : qz1r n4 i x = inB x.head 0 (n4 - 1) := by simp [qz1r, h0, e1, e2]
    go_enter Tryd.func49, Tryd.ntmps49
    go_wp2_with (first | (go_at_call 48; refine (qzb _ _ _ _).mono ?_; rintro e w' ⟨rfl, rfl⟩) | (go_at_call 39; refine (qzz _ _).mono ?_; rintro e w' ⟨rfl, rfl⟩) | (go_at_call 75; refine (qz69 _ _ _ _ _ _ _ _ _ h4).mono ?_; rintro e w2 ⟨rfl, b2⟩))
    go_ret
    exact ⟨by rw [hv]; rfl, (((Below.refl _ _).alloc (Nat.le_refl _) _).alloc (by simp) _).trans (b2.mono (by simp; omega))⟩
theorem qz47 (cam : Int) (s g : Value) (bb off len cap : Nat) (a3 : Option Addr) (n3 c3 : Nat) (x : Vr) (i : Nat) (w : World) (hl : len <= 1048576) (h3 : n3 <= 1048576) (hi : i < len) (hb : bb < w.heap.size) (R : w.rangeAt bb (off + i * 5) (vrC x)) :
  Calls Tryd.prog 50 #[.agg #[.int .i64 cam, s, g, .slice a3 n3 c3, .slice (some ⟨bb, off, none⟩) len cap], .int .i64 i] w fun e w' => e = .returned (.bool (verB n3 cam i x)) /\ Below w.heap.size w w' := by
 have hi' : (i : Int) < (len : Int) := by omega
 have f0 : ∀ o : Obj, (w.alloc o).cell? ⟨bb, off + i * 5, none⟩ = some (.int .i64 x.next) := fun o => (World.cell?_alloc_lt _ _ _ hb).trans (R 0 _ rfl)
 have f1 : ∀ o : Obj, (w.alloc o).cell? ⟨bb, off + i * 5 + 1, none⟩ = some (.bool x.gone) := fun o => (World.cell?_alloc_lt _ _ _ hb).trans (R 1 _ rfl)
 have f2 : ∀ o : Obj, (w.alloc o).cell? ⟨bb, off + i * 5 + 2, none⟩ = some (.int .i64 x.stamp) := fun o => (World.cell?_alloc_lt _ _ _ hb).trans (R 2 _ rfl)
 have f3 : ∀ o : Obj, (w.alloc o).cell? ⟨bb, off + i * 5 + 3, none⟩ = some (.int .i64 x.prev) := fun o => (World.cell?_alloc_lt _ _ _ hb).trans (R 3 _ rfl)
 have f4 : ∀ o : Obj, (w.alloc o).cell? ⟨bb, off + i * 5 + 4, none⟩ = some (.int .i64 x.kind) := fun o => (World.cell?_alloc_lt _ _ _ hb).trans (R 4 _ rfl)
 clear R
 cases e1 : (x.next == -1)
 ·cases e1b : inB x.next 1 ((n3 : Int) - 1)
  ·have hv : verB n3 cam i x = false := by simp [verB, e1, e1b]
   go_enter Tryd.func50, Tryd.ntmps50
   go_wp2_with (go_at_call 48; refine (qzb _ _ _ _).mono ?_; rintro e w' ⟨rfl, rfl⟩)
   go_ret
   exact ⟨by rw [hv]; rfl, (((Below.refl _ _).alloc (Nat.le_refl _) _).alloc (by simp) _)⟩
  ·cases e2 : inB x.stamp (-1) cam
   ·have hv : verB n3 cam i x = false := by simp [verB, e2]
    go_enter Tryd.func50, Tryd.ntmps50
    go_wp2_with (go_at_call 48; refine (qzb _ _ _ _).mono ?_; rintro e w' ⟨rfl, rfl⟩)
    go_ret
    exact ⟨by rw [hv]; rfl, (((Below.refl _ _).alloc (Nat.le_refl _) _).alloc (by simp) _)⟩
   ·cases e3 : inB x.prev (-1) ((i : Int) - 1)
    ·have hv : verB n3 cam i x = false := by simp [verB, e3]
     go_enter Tryd.func50, Tryd.ntmps50
     go_wp2_with (go_at_call 48; refine (qzb _ _ _ _).mono ?_; rintro e w' ⟨rfl, rfl⟩)
     go_ret
     exact ⟨by rw [hv]; rfl, (((Below.refl _ _).alloc (Nat.le_refl _) _).alloc (by simp) _)⟩
    ·have hv : verB n3 cam i x = inB x.kind 0 2 := by simp [verB, e1b, e2, e3]
     go_enter Tryd.func50, Tryd.ntmps50
     go_wp2_with (go_at_call 48; refine (qzb _ _ _ _).mono ?_; rintro e w' ⟨rfl, rfl⟩)
     go_ret
     exact ⟨by rw [hv]; rfl, (((Below.refl _ _).alloc (Nat.le_refl _) _).alloc (by simp) _)⟩
 ·cases e2 : inB x.stamp (-1) cam
  ·have hv : verB n3 cam i x = false := by simp [verB, e2]
   go_enter Tryd.func50, Tryd.ntmps50
   go_wp2_with (go_at_call 48; refine (qzb _ _ _ _).mono ?_; rintro e w' ⟨rfl, rfl⟩)
   go_ret
   exact ⟨by rw [hv]; rfl, (((Below.refl _ _).alloc (Nat.le_refl _) _).alloc (by simp) _)⟩
  ·cases e3 : inB x.prev (-1) ((i : Int) - 1)
   ·have hv : verB n3 cam i x = false := by simp [verB, e3]
    go_enter Tryd.func50, Tryd.ntmps50
    go_wp2_with (go_at_call 48; refine (qzb _ _ _ _).mono ?_; rintro e w' ⟨rfl, rfl⟩)
    go_ret
    exact ⟨by rw [hv]; rfl, (((Below.refl _ _).alloc (Nat.le_refl _) _).alloc (by simp) _)⟩
   ·have hv : verB n3 cam i x = inB x.kind 0 2 := by simp [verB, e1, e2, e3]
    go_enter Tryd.func50, Tryd.ntmps50
    go_wp2_with (go_at_call 48; refine (qzb _ _ _ _).mono ?_; rintro e w' ⟨rfl, rfl⟩)
    go_ret
    exact ⟨by rw [hv]; rfl, (((Below.refl _ _).alloc (Nat.le_refl _) _).alloc (by simp) _)⟩
def qzn {α : Type} (f : Nat -> α -> Bool) (l : List α) : Bool := l.zipIdx.all fun p => f p.2 p.1
theorem qzl {α : Type} (f : Nat -> α -> Bool) (l : List α) : qzn f l = true ↔ ∀ i (h : i < l.length), f i l[i] = true := by
 unfold qzn
 rw [List.all_eq_true]
 constructor
 ·intro h i hi
  exact h (l[i], i) (by rw [List.mem_zipIdx_iff_getElem?]; simp [hi])
 ·rintro h ⟨x, i⟩ hm
  rw [List.mem_zipIdx_iff_getElem?] at hm
  obtain ⟨hi, e⟩ := List.getElem?_eq_some_iff.1 hm
  have := h i hi
  rw [e] at this
  exact this
theorem qz18 {α : Type} {f : Nat -> α -> Bool} {l : List α} {i : Nat} (hi : i < l.length) (h : f i l[i] = false) : qzn f l = false := by
 cases e : qzn f l
 ·rfl
 ·have := (qzl f l).1 e i hi
  rw [h] at this
  cases this
def qz64 (x y z u : Int) (A : Ar) : Bool :=
 qz2m x y z u && inB A.camera 0 100 && ((A.slots.length : Int) == x) && ((A.guides.length : Int) == u) && inB A.nodes.length 1 y && inB A.vers.length 1 z
def qzi (x y z u : Int) (A : Ar) : Bool :=
 qz64 x y z u A && qzn (fun _ v => inB v (-1) 100) A.slots && qzn (fun _ v => inB v 0 ((A.nodes.length : Int) - 1)) A.guides && qzn (qz1r A.vers.length) A.nodes && qzn (verB A.nodes.length A.camera) A.vers
theorem qz8.at {B : Nat} {w : World} {a : Option Addr} {len cap : Nat} {cs : List Value} (S : qz8 B w (.slice a len cap) len cs) (hp : 0 < len) : ∃ bb off, a = some ⟨bb, off, none⟩ /\ bb < B /\ w.rangeAt bb off cs := by
 obtain ⟨a', cap', e, h⟩ := S
 injection e with e1 _ _
 subst e1
 rcases h with h | h
 ·omega
 ·exact h
theorem qz2c (B : Nat) (A : Ar) (x y z u : Int) (a0 a1 a2 a3 : Option Addr) (c0 c1 c2 c3 : Nat) (w : World) (hB : B <= w.heap.size) (hA : A.size <= 1048576) (I : qzd B w (.slice a0 A.slots.length c0) (.slice a1 A.guides.length c1) (.slice a2 A.nodes.length c2) (.slice a3 A.vers.length c3) A) :
  Calls Tryd.prog 21 #[.agg #[.int .i64 x, .int .i64 y, .int .i64 z, .int .i64 u], .agg #[.int .i64 A.camera, .slice a0 A.slots.length c0, .slice a1 A.guides.length c1, .slice a2 A.nodes.length c2, .slice a3 A.vers.length c3]] w fun e w' => e = .returned (.bool (qzi x y z u A)) /\ Below w.heap.size w w' := by
 unfold Ar.size at hA
 have P0 := (qz1h w x y z u 36).below ((Below.refl _ _).alloc (Nat.le_refl _) (.cells #[.int .i64 A.camera, .slice a0 A.slots.length c0, .slice a1 A.guides.length c1, .slice a2 A.nodes.length c2, .slice a3 A.vers.length c3] 33)) (by simp)
 have X0 : World.rangeAt ((w.alloc (.cells #[.int .i64 x, .int .i64 y, .int .i64 z, .int .i64 u] 36)).alloc (.cells #[.int .i64 A.camera, .slice a0 A.slots.length c0, .slice a1 A.guides.length c1, .slice a2 A.nodes.length c2, .slice a3 A.vers.length c3] 33)) (w.heap.size + 1) 0 [.int .i64 A.camera, .slice a0 A.slots.length c0, .slice a1 A.guides.length c1, .slice a2 A.nodes.length c2, .slice a3 A.vers.length c3] := by
  have h := qz6 (w.alloc (.cells #[.int .i64 x, .int .i64 y, .int .i64 z, .int .i64 u] 36)) [.int .i64 A.camera, .slice a0 A.slots.length c0, .slice a1 A.guides.length c1, .slice a2 A.nodes.length c2, .slice a3 A.vers.length c3] 33
  simp only [World.size_alloc] at h
  exact h
 have K0 := ((Below.refl w.heap.size w).alloc (Nat.le_refl _) (.cells #[.int .i64 x, .int .i64 y, .int .i64 z, .int .i64 u] 36)).alloc (by simp) (.cells #[.int .i64 A.camera, .slice a0 A.slots.length c0, .slice a1 A.guides.length c1, .slice a2 A.nodes.length c2, .slice a3 A.vers.length c3] 33)
 have hz0 : w.heap.size + 1 < ((w.alloc (.cells #[.int .i64 x, .int .i64 y, .int .i64 z, .int .i64 u] 36)).alloc (.cells #[.int .i64 A.camera, .slice a0 A.slots.length c0, .slice a1 A.guides.length c1, .slice a2 A.nodes.length c2, .slice a3 A.vers.length c3] 33)).heap.size := by simp
 go_enter Tryd.func21, Tryd.ntmps21
 go_wp2_with fail
 refine (qz4u _ _ _ _ _).mono ?_
 rintro e w1 ⟨rfl, b1⟩
 have P1 := P0.below b1 (by omega)
 have X1 := qz0 X0 b1 hz0
 have K1 := K0.trans (b1.mono (by omega))
 have I1 := I.below (K1.mono hB)
 have hz1 := Nat.lt_of_lt_of_le hz0 b1.size
 clear P0 X0 K0 I b1 hz0
 have P1' := P1
 obtain ⟨p0, p1, p2, p3⟩ := P1'
 obtain ⟨x0, x1, x2, x3, x4⟩ := row5 X1
 cases h1 : qz2m x y z u
 ·have hv : qzi x y z u A = false := by simp [qzi, qz64, h1]
  go_wp2_with (first | (go_at_call 47; refine (qz17 _ _).mono ?_; rintro e w' ⟨rfl, hw⟩; obtain rfl := hw.symm) | (go_at_call 48; refine (qzb _ _ _ _).mono ?_; rintro e w' ⟨rfl, hw⟩; obtain rfl := hw.symm))
  go_ret
  exact ⟨by rw [hv]; rfl, K1⟩
 cases h2 : inB A.camera 0 100
 ·have hv : qzi x y z u A = false := by simp [qzi, qz64, h2]
  go_wp2_with (first | (go_at_call 47; refine (qz17 _ _).mono ?_; rintro e w' ⟨rfl, hw⟩; obtain rfl := hw.symm) | (go_at_call 48; refine (qzb _ _ _ _).mono ?_; rintro e w' ⟨rfl, hw⟩; obtain rfl := hw.symm))
  go_ret
  exact ⟨by rw [hv]; rfl, K1⟩
 by_cases h3 : (A.slots.length : Int) = x
 case neg =>
  have h3' : ((A.slots.length : Int) != x) = true := by simpa using h3
  have h3b : ((A.slots.length : Int) == x) = false := by simpa using h3
  have hv : qzi x y z u A = false := by simp [qzi, qz64, h3b]
  go_wp2_with (first | (go_at_call 47; refine (qz17 _ _).mono ?_; rintro e w' ⟨rfl, hw⟩; obtain rfl := hw.symm) | (go_at_call 48; refine (qzb _ _ _ _).mono ?_; rintro e w' ⟨rfl, hw⟩; obtain rfl := hw.symm))
  go_ret
  exact ⟨by rw [hv]; rfl, K1⟩
 have h3' : ((A.slots.length : Int) != x) = false := by simpa using h3
 by_cases h4 : (A.guides.length : Int) = u
 case neg =>
  have h4' : ((A.guides.length : Int) != u) = true := by simpa using h4
  have h4b : ((A.guides.length : Int) == u) = false := by simpa using h4
  have hv : qzi x y z u A = false := by simp [qzi, qz64, h4b]
  go_wp2_with (first | (go_at_call 47; refine (qz17 _ _).mono ?_; rintro e w' ⟨rfl, hw⟩; obtain rfl := hw.symm) | (go_at_call 48; refine (qzb _ _ _ _).mono ?_; rintro e w' ⟨rfl, hw⟩; obtain rfl := hw.symm))
  go_ret
  exact ⟨by rw [hv]; rfl, K1⟩
 have h4' : ((A.guides.length : Int) != u) = false := by simpa using h4
 cases h5 : inB A.nodes.length 1 y
 ·have h35 : qzi x y z u A = false := by simp [qzi, qz64, h5]
  have H3 : Hid _ := h3
  have H4 : Hid _ := h4
  clear h3 h4
  go_wp2_with (first | (go_at_call 47; refine (qz17 _ _).mono ?_; rintro e w' ⟨rfl, hw⟩; obtain rfl := hw.symm) | (go_at_call 48; refine (qzb _ _ _ _).mono ?_; rintro e w' ⟨rfl, hw⟩; obtain rfl := hw.symm))
  go_ret
  exact ⟨by rw [h35]; rfl, K1⟩
 cases h6 : inB A.vers.length 1 z
 ·have h36 : qzi x y z u A = false := by simp [qzi, qz64, h6]
  clear h3 h4
  go_wp2_with (first | (go_at_call 47; refine (qz17 _ _).mono ?_; rintro e w' ⟨rfl, hw⟩; obtain rfl := hw.symm) | (go_at_call 48; refine (qzb _ _ _ _).mono ?_; rintro e w' ⟨rfl, hw⟩; obtain rfl := hw.symm))
  go_ret
  exact ⟨by rw [h36]; rfl, K1⟩
 have hh : qz64 x y z u A = true := by simp [qz64, h1, h2, h3, h4, h5, h6]
 clear h3 h4
 go_wp2_with (first | (go_at_call 47; refine (qz17 _ _).mono ?_; rintro e w' ⟨rfl, hw⟩; obtain rfl := hw.symm) | (go_at_call 48; refine (qzb _ _ _ _).mono ?_; rintro e w' ⟨rfl, hw⟩; obtain rfl := hw.symm))
 clear x0 x1 x2 x3 x4 p0 p1 p2 p3 P1 h1 h2 h3' h4' h5 h6
 go_loopw [5] (fun i wr => ∃ k : Nat, k <= A.slots.length /\ i = .int .i64 k /\ Hid (∀ j (h : j < A.slots.length), j < k -> inB A.slots[j] (-1) 100 = true) /\ Below w1.heap.size w1 wr) (fun i _ => A.slots.length - (intOf i).toNat)
 case atStart => exact ⟨0, Nat.zero_le _, rfl, fun _ _ h => absurd h (by omega), Below.refl _ _⟩
 case round =>
  obtain ⟨k, hk, rfl, hall, bel⟩ := hrel
  obtain ⟨x0, x1, x2, x3, x4⟩ := row5 (qz0 X1 bel hz1)
  have KK := K1.trans (bel.mono (show w.heap.size <= w1.heap.size by omega))
  by_cases hlt : k < A.slots.length
  ·obtain ⟨bb, off, rfl, hbb, R⟩ := qz8.at I1.s (by omega)
   have hlt' : (k : Int) < (A.slots.length : Int) := by omega
   have hk0 : (0 : Int) <= (k : Int) := by omega
   have hc : wr.cell? ⟨bb, off + k, none⟩ = some (.int .i64 A.slots[k]) := (qz0 R (bel.mono (by omega)) hbb) k (.int .i64 A.slots[k]) (by have := qzu (f := intC) (sz := 1) (fun _ => rfl) A.slots k hlt 0 (by omega); simpa [intC] using this)
   clear R
   cases hq : inB A.slots[k] (-1) 100
   ·have hv : qzi x y z u A = false := by simp [qzi, qz18 (f := (fun _ v => inB v (-1) 100)) hlt hq]
    go_wp2_with (go_at_call 48; refine (qzb _ _ _ _).mono ?_; rintro e w' ⟨rfl, hw⟩; obtain rfl := hw.symm)
    go_ret
    exact ⟨by rw [hv]; rfl, KK⟩
   ·have hall' : Hid (∀ j (h : j < A.slots.length), j < k + 1 -> inB A.slots[j] (-1) 100 = true) := fun j h hj => by rcases Nat.lt_or_ge j k with hl | hl; exact hall.out j h hl; obtain rfl : j = k := (by omega); exact hq
    go_wp2_with (go_at_call 48; refine (qzb _ _ _ _).mono ?_; rintro e w' ⟨rfl, hw⟩; obtain rfl := hw.symm)
    go_roundw
    case rel => exact ⟨k + 1, by omega, by go_num, hall', bel⟩
    case measure => simp [intOf]; omega
  ·have hs0 : Hid (qzn (fun _ v => inB v (-1) 100) A.slots = true) := (qzl (fun _ v => inB v (-1) 100) A.slots).2 (fun i h => hall.out i h (by omega))
   clear hall
   have bel0 := bel
   clear bel
   obtain ⟨wo0, rfl⟩ : ∃ wo : World, wo = wr := ⟨_, rfl⟩
   go_wp2
   clear x0 x1 x2 x3 x4 KK hlt
   go_loopw [6] (fun i wr => ∃ k : Nat, k <= A.guides.length /\ i = .int .i64 k /\ Hid (∀ j (h : j < A.guides.length), j < k -> inB A.guides[j] 0 ((A.nodes.length : Int) - 1) = true) /\ Below w1.heap.size w1 wr) (fun i _ => A.guides.length - (intOf i).toNat)
   case atStart => exact ⟨0, Nat.zero_le _, rfl, fun _ _ h => absurd h (by omega), bel0⟩
   case round =>
    obtain ⟨k, hk, rfl, hall, bel⟩ := hrel
    obtain ⟨x0, x1, x2, x3, x4⟩ := row5 (qz0 X1 bel hz1)
    have KK := K1.trans (bel.mono (show w.heap.size <= w1.heap.size by omega))
    by_cases hlt : k < A.guides.length
    ·obtain ⟨bb, off, rfl, hbb, R⟩ := qz8.at I1.g (by omega)
     have hlt' : (k : Int) < (A.guides.length : Int) := by omega
     have hk0 : (0 : Int) <= (k : Int) := by omega
     have hc : wr.cell? ⟨bb, off + k, none⟩ = some (.int .i64 A.guides[k]) := (qz0 R (bel.mono (by omega)) hbb) k (.int .i64 A.guides[k]) (by have := qzu (f := intC) (sz := 1) (fun _ => rfl) A.guides k hlt 0 (by omega); simpa [intC] using this)
     clear R
     cases hq : inB A.guides[k] 0 ((A.nodes.length : Int) - 1)
     ·have hv : qzi x y z u A = false := by simp [qzi, qz18 (f := (fun _ v => inB v 0 ((A.nodes.length : Int) - 1))) hlt hq]
      go_wp2
      go_region_held3 (fun w' => w'.cell? ⟨w.heap.size + 1, 0, none⟩ = some (.int .i64 A.camera) /\ w'.cell? ⟨w.heap.size + 1, 1, none⟩ = some (.slice a0 A.slots.length c0) /\ w'.cell? ⟨w.heap.size + 1, 2, none⟩ = some (.slice (some ⟨bb, off, none⟩) A.guides.length c1) /\ w'.cell? ⟨w.heap.size + 1, 3, none⟩ = some (.slice a2 A.nodes.length c2) /\ w'.cell? ⟨w.heap.size + 1, 4, none⟩ = some (.slice a3 A.vers.length c3) /\ w'.cell? ⟨bb, off + k, none⟩ = some (.int .i64 A.guides[k])) (go_keep) ((go_at_call 44; refine (qz3m _ _ _ _ _ _ _ _ _ (by omega)).mono ?_; rintro e w2 ⟨rfl, b2⟩; have bel2 : Below w1.heap.size w1 w2 := bel.drew.trans (b2.mono (by exact bel.size)); obtain ⟨y0, y1, y2, y3, y4⟩ := row5 (qz0 X1 bel2 hz1); have hc2 : w2.cell? ⟨bb, off + k, none⟩ = some (.int .i64 A.guides[k]) := (b2.cell (p := ⟨bb, off + k, none⟩) (by have := bel.size; show bb < wr.heap.size; omega)).trans hc))
      go_wp2
      go_ret
      exact ⟨by rw [hv]; rfl, (K1.trans (bel2.mono (show w.heap.size <= w1.heap.size by omega)))⟩
     ·have hall' : Hid (∀ j (h : j < A.guides.length), j < k + 1 -> inB A.guides[j] 0 ((A.nodes.length : Int) - 1) = true) := fun j h hj => by rcases Nat.lt_or_ge j k with hl | hl; exact hall.out j h hl; obtain rfl : j = k := (by omega); exact hq
      go_wp2
      go_region_held3 (fun w' => w'.cell? ⟨w.heap.size + 1, 0, none⟩ = some (.int .i64 A.camera) /\ w'.cell? ⟨w.heap.size + 1, 1, none⟩ = some (.slice a0 A.slots.length c0) /\ w'.cell? ⟨w.heap.size + 1, 2, none⟩ = some (.slice (some ⟨bb, off, none⟩) A.guides.length c1) /\ w'.cell? ⟨w.heap.size + 1, 3, none⟩ = some (.slice a2 A.nodes.length c2) /\ w'.cell? ⟨w.heap.size + 1, 4, none⟩ = some (.slice a3 A.vers.length c3) /\ w'.cell? ⟨bb, off + k, none⟩ = some (.int .i64 A.guides[k])) (go_keep) ((go_at_call 44; refine (qz3m _ _ _ _ _ _ _ _ _ (by omega)).mono ?_; rintro e w2 ⟨rfl, b2⟩; have bel2 : Below w1.heap.size w1 w2 := bel.drew.trans (b2.mono (by exact bel.size)); obtain ⟨y0, y1, y2, y3, y4⟩ := row5 (qz0 X1 bel2 hz1); have hc2 : w2.cell? ⟨bb, off + k, none⟩ = some (.int .i64 A.guides[k]) := (b2.cell (p := ⟨bb, off + k, none⟩) (by have := bel.size; show bb < wr.heap.size; omega)).trans hc))
      go_wp2
      go_roundw
      case rel => exact ⟨k + 1, by omega, by go_num, hall', bel2⟩
      case measure => simp [intOf]; omega
    ·have hs1 : Hid (qzn (fun _ v => inB v 0 ((A.nodes.length : Int) - 1)) A.guides = true) := (qzl (fun _ v => inB v 0 ((A.nodes.length : Int) - 1)) A.guides).2 (fun i h => hall.out i h (by omega))
     clear hall
     have bel1 := bel
     clear bel
     obtain ⟨wo1, rfl⟩ : ∃ wo : World, wo = wr := ⟨_, rfl⟩
     go_wp2
     clear x0 x1 x2 x3 x4 KK hlt
     go_loopw [7] (fun i wr => ∃ k : Nat, k <= A.nodes.length /\ i = .int .i64 k /\ Hid (∀ j (h : j < A.nodes.length), j < k -> qz1r A.vers.length j A.nodes[j] = true) /\ Below w1.heap.size w1 wr) (fun i _ => A.nodes.length - (intOf i).toNat)
     case atStart => exact ⟨0, Nat.zero_le _, rfl, fun _ _ h => absurd h (by omega), bel1⟩
     case round =>
      obtain ⟨k, hk, rfl, hall, bel⟩ := hrel
      obtain ⟨x0, x1, x2, x3, x4⟩ := row5 (qz0 X1 bel hz1)
      have KK := K1.trans (bel.mono (show w.heap.size <= w1.heap.size by omega))
      by_cases hlt : k < A.nodes.length
      ·obtain ⟨bb, off, rfl, hbb, R⟩ := qz8.at I1.n (by omega)
       have hlt' : (k : Int) < (A.nodes.length : Int) := by omega
       have hk0 : (0 : Int) <= (k : Int) := by omega
       have E := qz9 (sz := 3) (fun _ => rfl) (qz0 R (bel.mono (by omega)) hbb) k hlt
       clear R
       cases hq : qz1r A.vers.length k A.nodes[k]
       ·have hv : qzi x y z u A = false := by simp [qzi, qz18 (f := (qz1r A.vers.length)) hlt hq]
        go_wp2_with fail
        refine (qz3o _ _ _ bb off _ _ _ _ _ A.nodes[k] k _ (by omega) (by omega) hlt (by have := bel.size; omega) E).mono ?_
        rintro e w2 ⟨rfl, b2⟩
        have bel2 : Below w1.heap.size w1 w2 := bel.trans (b2.mono bel.size)
        rw [hq]
        go_wp2
        go_ret
        exact ⟨by rw [hv]; rfl, (K1.trans (bel2.mono (show w.heap.size <= w1.heap.size by omega)))⟩
       ·have hall' : Hid (∀ j (h : j < A.nodes.length), j < k + 1 -> qz1r A.vers.length j A.nodes[j] = true) := fun j h hj => by rcases Nat.lt_or_ge j k with hl | hl; exact hall.out j h hl; obtain rfl : j = k := (by omega); exact hq
        go_wp2_with fail
        refine (qz3o _ _ _ bb off _ _ _ _ _ A.nodes[k] k _ (by omega) (by omega) hlt (by have := bel.size; omega) E).mono ?_
        rintro e w2 ⟨rfl, b2⟩
        have bel2 : Below w1.heap.size w1 w2 := bel.trans (b2.mono bel.size)
        rw [hq]
        go_wp2
        go_roundw
        case rel => exact ⟨k + 1, by omega, by go_num, hall', bel2⟩
        case measure => simp [intOf]; omega
      ·have hs2 : Hid (qzn (qz1r A.vers.length) A.nodes = true) := (qzl (qz1r A.vers.length) A.nodes).2 (fun i h => hall.out i h (by omega))
       clear hall
       have bel2 := bel
       clear bel
       obtain ⟨wo2, rfl⟩ : ∃ wo : World, wo = wr := ⟨_, rfl⟩
       go_wp2
       clear x0 x1 x2 x3 x4 KK hlt
       go_loopw [8] (fun i wr => ∃ k : Nat, k <= A.vers.length /\ i = .int .i64 k /\ Hid (∀ j (h : j < A.vers.length), j < k -> verB A.nodes.length A.camera j A.vers[j] = true) /\ Below w1.heap.size w1 wr) (fun i _ => A.vers.length - (intOf i).toNat)
       case atStart => exact ⟨0, Nat.zero_le _, rfl, fun _ _ h => absurd h (by omega), bel2⟩
       case round =>
        obtain ⟨k, hk, rfl, hall, bel⟩ := hrel
        obtain ⟨x0, x1, x2, x3, x4⟩ := row5 (qz0 X1 bel hz1)
        have KK := K1.trans (bel.mono (show w.heap.size <= w1.heap.size by omega))
        by_cases hlt : k < A.vers.length
        ·obtain ⟨bb, off, rfl, hbb, R⟩ := qz8.at I1.r (by omega)
         have hlt' : (k : Int) < (A.vers.length : Int) := by omega
         have hk0 : (0 : Int) <= (k : Int) := by omega
         have E := qz9 (sz := 5) (fun _ => rfl) (qz0 R (bel.mono (by omega)) hbb) k hlt
         clear R
         cases hq : verB A.nodes.length A.camera k A.vers[k]
         ·have hv : qzi x y z u A = false := by simp [qzi, qz18 (f := (verB A.nodes.length A.camera)) hlt hq]
          go_wp2_with fail
          refine (qz47 _ _ _ bb off _ _ _ _ _ A.vers[k] k _ (by omega) (by omega) hlt (by have := bel.size; omega) E).mono ?_
          rintro e w2 ⟨rfl, b2⟩
          have bel2 : Below w1.heap.size w1 w2 := bel.trans (b2.mono bel.size)
          rw [hq]
          go_wp2
          go_ret
          exact ⟨by rw [hv]; rfl, (K1.trans (bel2.mono (show w.heap.size <= w1.heap.size by omega)))⟩
         ·have hall' : Hid (∀ j (h : j < A.vers.length), j < k + 1 -> verB A.nodes.length A.camera j A.vers[j] = true) := fun j h hj => by rcases Nat.lt_or_ge j k with hl | hl; exact hall.out j h hl; obtain rfl : j = k := (by omega); exact hq
          go_wp2_with fail
          refine (qz47 _ _ _ bb off _ _ _ _ _ A.vers[k] k _ (by omega) (by omega) hlt (by have := bel.size; omega) E).mono ?_
          rintro e w2 ⟨rfl, b2⟩
          have bel2 : Below w1.heap.size w1 w2 := bel.trans (b2.mono bel.size)
          rw [hq]
          go_wp2
          go_roundw
          case rel => exact ⟨k + 1, by omega, by go_num, hall', bel2⟩
          case measure => simp [intOf]; omega
        ·have hs3 : Hid (qzn (verB A.nodes.length A.camera) A.vers = true) := (qzl (verB A.nodes.length A.camera) A.vers).2 (fun i h => hall.out i h (by omega))
         clear hall
         have hv : qzi x y z u A = true := by simp only [qzi, hh, hs0.out, hs1.out, hs2.out, hs3.out, Bool.and_self]
         go_wp2
         go_ret
         exact ⟨by rw [hv]; rfl, KK⟩
end
section
attribute [local go_sem ↓] Go.wp_at_zero Go.wp_at_succ
theorem qz1p {P : Program} {ops : Array Oper} {rest : List Oper} {op : Oper} {a : Act} {w : World} {Q : Exit -> Act -> World -> Prop} (hw : Region.wanted op (yielded ops a.tmps) = true) (ty : TypeId) (x : Operand) (ho : op.op = .load ty x)
  (b o : Nat) (hx : a.eval x = .pointer (some ⟨b, o, none⟩)) (cs : List Value) (d : TypeDesc) (hc : w.rangeAt b o cs)
  (hu : P.underlying ty = some d) (hd : d.isRow = true) (hi : (P.info? ty).map (·.size) = some cs.length)
  (h : wpList P ops Q rest (a.put op.dst (.agg cs.toArray)) w) : wpList P ops Q (op :: rest) a w :=
 wpList_step fun K hK => by rw [if_pos hw]; exact wp_load_mid ty x ho b o hx cs d hc hu hd hi (hK _ _ h)
end
section
theorem qz4l : (Tryd.prog.info? 23).map (·.size) = some 4 := by kernel_rfl
end
end Go.Proofs.YtlfjhcdjgoeafaaDoor
