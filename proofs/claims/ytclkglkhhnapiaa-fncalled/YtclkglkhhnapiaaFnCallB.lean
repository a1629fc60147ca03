/-
  What the law's proof goes by, part 2.
-/
import Derived.Deep.AppendSrc
import Derived.Maps.AppendAt
import Derived.Deep.AppendLies
import Derived.Deep.Cut
import Derived.Test.YtclkglkhhnapiaaFnCallA
namespace Go.Proofs.Ytclkglkhhnapiaa
open Go.ChangeShapes Go.WideShapes Go.ChangeAt Go.RowKit
set_option maxRecDepth 100000
set_option maxHeartbeats 16000000
set_option linter.unusedVariables false
set_option linter.unusedSimpArgs false
set_option linter.unnecessarySimpa false
set_option linter.unusedSectionVars false
section
def qzda (lo : Nat) (w : World) (v : Value) (len sz : Nat) (cs : List Value) (b : Nat) : Prop :=
 ∃ a cap off, v = .slice a len cap /\ (len = 0 ∨ (a = some ⟨b, off, none⟩ /\ lo <= b /\ b < w.heap.size /\ w.rangeAt b off cs /\ w.there b off (len * sz)))
end
section
theorem qzd4 {w : World} {base : Nat} {e : TypeId} {sz : Nat} {v : Value} {n : Nat} {xs : List Value} (h : w.ownsRow base e sz v n xs) : ∃ b, qzda base w v n sz xs b := by
 rcases h.2 with ⟨rfl, rfl⟩ | ⟨g, cap, cur, rfl, hg, hh, hnc, _, hs, ht⟩
 ·exact ⟨0, _, _, 0, rfl, Or.inl rfl⟩
 ·have hlt : g < w.heap.size := by
   rcases Nat.lt_or_ge g w.heap.size with hl | hl
   ·exact hl
   ·rw [Array.getElem?_eq_none hl] at hh; cases hh
  have hm : n * sz <= cur.size := by rw [hs]; exact Nat.mul_le_mul_right _ hnc
  refine ⟨g, _, _, 0, rfl, Or.inr ⟨rfl, hg, hlt, ?_, ?_⟩⟩
  ·have R := World.rangeAt_of_block hh 0 (n * sz)
   have e1 : (cur.extract 0 (0 + n * sz)).toList = xs := by rw [<- ht]; simp
   rw [e1] at R
   exact R
  ·intro j hj
   refine ⟨?_, ?_⟩
   ·simp only [World.cell?, hh]
    simp
    omega
   ·simp [World.frozen?, hh]
theorem qzbj {w w' : World} {base B : Nat} {e : TypeId} {sz : Nat} {v : Value} {n : Nat} {xs : List Value} (h : w.ownsRow base e sz v n xs) (hb : Below B w w') (hv : ∀ j, v.ownBlock = some j -> j < B) : w'.ownsRow base e sz v n xs := by
 refine ⟨h.1, ?_⟩
 rcases h.2 with h0 | ⟨g, cap, cur, rfl, hg, hh, rest⟩
 ·exact Or.inl h0
 ·exact Or.inr ⟨g, cap, cur, rfl, hg, (hb.block g (hv g rfl)).trans hh, rest⟩
theorem qz2m {w : World} {base : Nat} {e : TypeId} {sz : Nat} {v : Value} {n : Nat} {xs : List Value} (h : w.ownsRow base e sz v n xs) {j : Nat} (hj : v.ownBlock = some j) : j < w.heap.size := by
 rcases h.2 with ⟨rfl, _⟩ | ⟨g, cap, cur, rfl, hg, hh, _⟩
 ·simp [Value.ownBlock] at hj
 ·simp [Value.ownBlock] at hj
  subst hj
  rcases Nat.lt_or_ge g w.heap.size with hl | hl
  ·exact hl
  ·rw [Array.getElem?_eq_none hl] at hh; cases hh
theorem qzk {w : World} {base : Nat} {e : TypeId} {sz : Nat} {v : Value} {n : Nat} {xs : List Value} (h : w.ownsRow base e sz v n xs) : ∃ a cap, v = .slice a n cap := by
 rcases h.2 with ⟨rfl, rfl⟩ | ⟨g, cap, cur, rfl, _⟩
 ·exact ⟨_, _, rfl⟩
 ·exact ⟨_, _, rfl⟩
end
section
attribute [local go_sem ↓] Go.wp_at_zero Go.wp_at_succ
def qz5n (nv : Int) (i : Nat) (x : Nd) : Bool :=
 if i = 0 then (x.key == -1) && (x.value == 0) && inB x.head 0 (nv - 1) else inB x.key 0 63 && inB x.value 0 9999 && inB x.head 0 (nv - 1)
def verB (nn cam : Int) (i : Nat) (v : Vr) : Bool :=
 ((v.next == -1) || inB v.next 1 (nn - 1)) && inB v.stamp (-1) cam && inB v.prev (-1) ((i : Int) - 1) && inB v.kind 0 2
theorem qz16 (n : Int) (w : World) : Calls Try.prog 62 #[.int .i64 n] w fun e w' => e = .returned (.bool (inB n 0 100)) /\ w' = w := by
 go_enter Try.func62, Try.ntmps62
 go_wp2_with (go_at_call 43; refine (qzg _ _ _ _).mono ?_; rintro e w' ⟨rfl, rfl⟩)
 go_ret
 exact ⟨rfl, rfl⟩
theorem qz3n (cam : Int) (s g r : Value) (a : Option Addr) (len cap : Nat) (n : Int) (w : World) (hl : len <= 1048576) :
  Calls Try.prog 63 #[.agg #[.int .i64 cam, s, g, .slice a len cap, r], .int .i64 n] w fun e w' => e = .returned (.bool (inB n 0 (len - 1))) /\ Below w.heap.size w w' := by
 go_enter Try.func63, Try.ntmps63
 go_wp2_with (go_at_call 43; refine (qzg _ _ _ _).mono ?_; rintro e w' ⟨rfl, rfl⟩)
 go_ret
 exact ⟨rfl, (Below.refl _ _).alloc (Nat.le_refl _) _⟩
theorem qz2j (cam : Int) (s g n : Value) (a : Option Addr) (len cap : Nat) (v : Int) (w : World) (hl : len <= 1048576) :
  Calls Try.prog 87 #[.agg #[.int .i64 cam, s, g, n, .slice a len cap], .int .i64 v] w fun e w' => e = .returned (.bool (inB v 0 (len - 1))) /\ Below w.heap.size w w' := by
 go_enter Try.func87, Try.ntmps87
 go_wp2_with (go_at_call 43; refine (qzg _ _ _ _).mono ?_; rintro e w' ⟨rfl, rfl⟩)
 go_ret
 exact ⟨rfl, (Below.refl _ _).alloc (Nat.le_refl _) _⟩
theorem qz5y (cam : Int) (s g : Value) (bb off len cap : Nat) (a4 : Option Addr) (n4 c4 : Nat) (x : Nd) (i : Nat) (w : World) (hl : len <= 1048576) (h4 : n4 <= 1048576) (hi : i < len) (hb : bb < w.heap.size) (R : w.rangeAt bb (off + i * 3) (ndC x)) :
  Calls Try.prog 64 #[.agg #[.int .i64 cam, s, g, .slice (some ⟨bb, off, none⟩) len cap, .slice a4 n4 c4], .int .i64 i] w fun e w' => e = .returned (.bool (qz5n n4 i x)) /\ Below w.heap.size w w' := by
 have hi' : (i : Int) < (len : Int) := by omega
 have f0 : ∀ o : Obj, (w.alloc o).cell? ⟨bb, off + i * 3, none⟩ = some (.int .i64 x.key) := fun o => (World.cell?_alloc_lt _ _ _ hb).trans (R 0 _ rfl)
 have f1 : ∀ o : Obj, (w.alloc o).cell? ⟨bb, off + i * 3 + 1, none⟩ = some (.int .i64 x.value) := fun o => (World.cell?_alloc_lt _ _ _ hb).trans (R 1 _ rfl)
 have f2 : ∀ o : Obj, (w.alloc o).cell? ⟨bb, off + i * 3 + 2, none⟩ = some (.int .i64 x.head) := fun o => (World.cell?_alloc_lt _ _ _ hb).trans (R 2 _ rfl)
 clear R
 by_cases h0 : i = 0
 ·have hi0 : ((i : Int) == 0) = true := by simp; omega
  cases e1 : (x.key == -1)
  ·have hv : qz5n n4 i x = false := by simp [qz5n, h0, e1]
   clear h0
   go_enter Try.func64, Try.ntmps64
   go_wp2_with (first | (go_at_call 43; refine (qzg _ _ _ _).mono ?_; rintro e w' ⟨rfl, rfl⟩) | (go_at_call 42; refine (qzs _ _).mono ?_; rintro e w' ⟨rfl, rfl⟩))
   go_ret
   exact ⟨by rw [hv]; rfl, (((Below.refl _ _).alloc (Nat.le_refl _) _).alloc (by simp) _)⟩
  ·cases e2 : (x.value == 0)
   ·have hv : qz5n n4 i x = false := by simp [qz5n, h0, e2]
    clear h0
    go_enter Try.func64, Try.ntmps64
    go_wp2_with (first | (go_at_call 43; refine (qzg _ _ _ _).mono ?_; rintro e w' ⟨rfl, rfl⟩) | (go_at_call 42; refine (qzs _ _).mono ?_; rintro e w' ⟨rfl, rfl⟩))
    go_ret
    exact ⟨by rw [hv]; rfl, (((Below.refl _ _).alloc (Nat.le_refl _) _).alloc (by simp) _)⟩
   ·have hv : qz5n n4 i x = inB x.head 0 (n4 - 1) := by simp [qz5n, h0, e1, e2]
    clear h0
    go_enter Try.func64, Try.ntmps64
    go_wp2_with (first | (go_at_call 43; refine (qzg _ _ _ _).mono ?_; rintro e w' ⟨rfl, rfl⟩) | (go_at_call 42; refine (qzs _ _).mono ?_; rintro e w' ⟨rfl, rfl⟩) | (go_at_call 87; refine (qz2j _ _ _ _ _ _ _ _ _ h4).mono ?_; rintro e w2 ⟨rfl, b2⟩))
    go_ret
    exact ⟨by rw [hv]; rfl, (((Below.refl _ _).alloc (Nat.le_refl _) _).alloc (by simp) _).trans (b2.mono (by simp; omega))⟩
 ·have hi0 : ((i : Int) == 0) = false := by simp; omega
  cases e1 : inB x.key 0 63
  ·have hv : qz5n n4 i x = false := by simp [qz5n, h0, e1]
   go_enter Try.func64, Try.ntmps64
   go_wp2_with (first | (go_at_call 43; refine (qzg _ _ _ _).mono ?_; rintro e w' ⟨rfl, rfl⟩) | (go_at_call 42; refine (qzs _ _).mono ?_; rintro e w' ⟨rfl, rfl⟩))
   go_ret
   exact ⟨by rw [hv]; rfl, (((Below.refl _ _).alloc (Nat.le_refl _) _).alloc (by simp) _)⟩
  ·cases e2 : inB x.value 0 9999
   ·have hv : qz5n n4 i x = false := by simp [qz5n, h0, e2]
    go_enter Try.func64, Try.ntmps64
    go_wp2_with (first | (go_at_call 43; refine (qzg _ _ _ _).mono ?_; rintro e w' ⟨rfl, rfl⟩) | (go_at_call 42; refine (qzs _ _).mono ?_; rintro e w' ⟨rfl, rfl⟩))
    go_ret
    exact ⟨by rw [hv]; rfl, (((Below.refl _ _).alloc (Nat.le_refl _) _).alloc (by simp) _)⟩
   ·have hv : qz5n n4 i x = inB x.head 0 (n4 - 1) := by simp [qz5n, h0, e1, e2]
    go_enter Try.func64, Try.ntmps64
    go_wp2_with (first | (go_at_call 43; refine (qzg _ _ _ _).mono ?_; rintro e w' ⟨rfl, rfl⟩) | (go_at_call 42; refine (qzs _ _).mono ?_; rintro e w' ⟨rfl, rfl⟩) | (go_at_call 87; refine (qz2j _ _ _ _ _ _ _ _ _ h4).mono ?_; rintro e w2 ⟨rfl, b2⟩))
    go_ret
    exact ⟨by rw [hv]; rfl, (((Below.refl _ _).alloc (Nat.le_refl _) _).alloc (by simp) _).trans (b2.mono (by simp; omega))⟩
theorem qz6s (cam : Int) (s g : Value) (bb off len cap : Nat) (a3 : Option Addr) (n3 c3 : Nat) (x : Vr) (i : Nat) (w : World) (hl : len <= 1048576) (h3 : n3 <= 1048576) (hi : i < len) (hb : bb < w.heap.size) (R : w.rangeAt bb (off + i * 5) (vrC x)) :
  Calls Try.prog 65 #[.agg #[.int .i64 cam, s, g, .slice a3 n3 c3, .slice (some ⟨bb, off, none⟩) len cap], .int .i64 i] w fun e w' => e = .returned (.bool (verB n3 cam i x)) /\ Below w.heap.size w w' := by
 have hi' : (i : Int) < (len : Int) := by omega
 have f0 : ∀ o : Obj, (w.alloc o).cell? ⟨bb, off + i * 5, none⟩ = some (.int .i64 x.next) := fun o => (World.cell?_alloc_lt _ _ _ hb).trans (R 0 _ rfl)
 have f1 : ∀ o : Obj, (w.alloc o).cell? ⟨bb, off + i * 5 + 1, none⟩ = some (.bool x.gone) := fun o => (World.cell?_alloc_lt _ _ _ hb).trans (R 1 _ rfl)
 have f2 : ∀ o : Obj, (w.alloc o).cell? ⟨bb, off + i * 5 + 2, none⟩ = some (.int .i64 x.stamp) := fun o => (World.cell?_alloc_lt _ _ _ hb).trans (R 2 _ rfl)
 have f3 : ∀ o : Obj, (w.alloc o).cell? ⟨bb, off + i * 5 + 3, none⟩ = some (.int .i64 x.prev) := fun o => (World.cell?_alloc_lt _ _ _ hb).trans (R 3 _ rfl)
 have f4 : ∀ o : Obj, (w.alloc o).cell? ⟨bb, off + i * 5 + 4, none⟩ = some (.int .i64 x.kind) := fun o => (World.cell?_alloc_lt _ _ _ hb).trans (R 4 _ rfl)
 clear R
 cases e1 : (x.next == -1)
 ·cases e1b : inB x.next 1 ((n3 : Int) - 1)
  ·have hv : verB n3 cam i x = false := by simp [verB, e1, e1b]
   go_enter Try.func65, Try.ntmps65
   go_wp2_with (go_at_call 43; refine (qzg _ _ _ _).mono ?_; rintro e w' ⟨rfl, rfl⟩)
   go_ret
   exact ⟨by rw [hv]; rfl, (((Below.refl _ _).alloc (Nat.le_refl _) _).alloc (by simp) _)⟩
  ·cases e2 : inB x.stamp (-1) cam
   ·have hv : verB n3 cam i x = false := by simp [verB, e2]
    go_enter Try.func65, Try.ntmps65
    go_wp2_with (go_at_call 43; refine (qzg _ _ _ _).mono ?_; rintro e w' ⟨rfl, rfl⟩)
    go_ret
    exact ⟨by rw [hv]; rfl, (((Below.refl _ _).alloc (Nat.le_refl _) _).alloc (by simp) _)⟩
   ·cases e3 : inB x.prev (-1) ((i : Int) - 1)
    ·have hv : verB n3 cam i x = false := by simp [verB, e3]
     go_enter Try.func65, Try.ntmps65
     go_wp2_with (go_at_call 43; refine (qzg _ _ _ _).mono ?_; rintro e w' ⟨rfl, rfl⟩)
     go_ret
     exact ⟨by rw [hv]; rfl, (((Below.refl _ _).alloc (Nat.le_refl _) _).alloc (by simp) _)⟩
    ·have hv : verB n3 cam i x = inB x.kind 0 2 := by simp [verB, e1b, e2, e3]
     go_enter Try.func65, Try.ntmps65
     go_wp2_with (go_at_call 43; refine (qzg _ _ _ _).mono ?_; rintro e w' ⟨rfl, rfl⟩)
     go_ret
     exact ⟨by rw [hv]; rfl, (((Below.refl _ _).alloc (Nat.le_refl _) _).alloc (by simp) _)⟩
 ·cases e2 : inB x.stamp (-1) cam
  ·have hv : verB n3 cam i x = false := by simp [verB, e2]
   go_enter Try.func65, Try.ntmps65
   go_wp2_with (go_at_call 43; refine (qzg _ _ _ _).mono ?_; rintro e w' ⟨rfl, rfl⟩)
   go_ret
   exact ⟨by rw [hv]; rfl, (((Below.refl _ _).alloc (Nat.le_refl _) _).alloc (by simp) _)⟩
  ·cases e3 : inB x.prev (-1) ((i : Int) - 1)
   ·have hv : verB n3 cam i x = false := by simp [verB, e3]
    go_enter Try.func65, Try.ntmps65
    go_wp2_with (go_at_call 43; refine (qzg _ _ _ _).mono ?_; rintro e w' ⟨rfl, rfl⟩)
    go_ret
    exact ⟨by rw [hv]; rfl, (((Below.refl _ _).alloc (Nat.le_refl _) _).alloc (by simp) _)⟩
   ·have hv : verB n3 cam i x = inB x.kind 0 2 := by simp [verB, e1, e2, e3]
    go_enter Try.func65, Try.ntmps65
    go_wp2_with (go_at_call 43; refine (qzg _ _ _ _).mono ?_; rintro e w' ⟨rfl, rfl⟩)
    go_ret
    exact ⟨by rw [hv]; rfl, (((Below.refl _ _).alloc (Nat.le_refl _) _).alloc (by simp) _)⟩
def qz4s {α : Type} (f : Nat -> α -> Bool) (l : List α) : Bool := l.zipIdx.all fun p => f p.2 p.1
theorem qz2o {α : Type} (f : Nat -> α -> Bool) (l : List α) : qz4s f l = true ↔ ∀ i (h : i < l.length), f i l[i] = true := by
 unfold qz4s
 rw [List.all_eq_true]
 constructor
 ·intro h i hi
  exact h (l[i], i) (by rw [List.mem_zipIdx_iff_getElem?]; simp [hi])
 ·rintro h ⟨x, i⟩ hm
  rw [List.mem_zipIdx_iff_getElem?] at hm
  obtain ⟨hi, e⟩ := List.getElem?_eq_some_iff.1 hm
  have := h i hi
  rw [e] at this
  exact this
theorem qz5r {α : Type} {f : Nat -> α -> Bool} {l : List α} {i : Nat} (hi : i < l.length) (h : f i l[i] = false) : qz4s f l = false := by
 cases e : qz4s f l
 ·rfl
 ·have := (qz2o f l).1 e i hi
  rw [h] at this
  cases this
def qz7j (x y z u : Int) (A : Ar) : Bool :=
 qz3o x y z u && inB A.camera 0 100 && ((A.slots.length : Int) == x) && ((A.guides.length : Int) == u) && inB A.nodes.length 1 y && inB A.vers.length 1 z
def qz1o (x y z u : Int) (A : Ar) : Bool :=
 qz7j x y z u A && qz4s (fun _ v => inB v (-1) 100) A.slots && qz4s (fun _ v => inB v 0 ((A.nodes.length : Int) - 1)) A.guides && qz4s (qz5n A.vers.length) A.nodes && qz4s (verB A.nodes.length A.camera) A.vers
theorem qz14.at {B : Nat} {w : World} {a : Option Addr} {len cap : Nat} {cs : List Value} (S : qz14 B w (.slice a len cap) len cs) (hp : 0 < len) : ∃ bb off, a = some ⟨bb, off, none⟩ /\ bb < B /\ w.rangeAt bb off cs := by
 obtain ⟨a', cap', e, h⟩ := S
 injection e with e1 _ _
 subst e1
 rcases h with h | h
 ·omega
 ·exact h
theorem qz6g (B : Nat) (A : Ar) (x y z u : Int) (a0 a1 a2 a3 : Option Addr) (c0 c1 c2 c3 : Nat) (w : World) (hB : B <= w.heap.size) (hA : A.size <= 1048576) (I : qz25 B w (.slice a0 A.slots.length c0) (.slice a1 A.guides.length c1) (.slice a2 A.nodes.length c2) (.slice a3 A.vers.length c3) A) :
  Calls Try.prog 21 #[.agg #[.int .i64 x, .int .i64 y, .int .i64 z, .int .i64 u], .agg #[.int .i64 A.camera, .slice a0 A.slots.length c0, .slice a1 A.guides.length c1, .slice a2 A.nodes.length c2, .slice a3 A.vers.length c3]] w fun e w' => e = .returned (.bool (qz1o x y z u A)) /\ Below w.heap.size w w' := by
 unfold Ar.size at hA
 have P0 := (qz1t w x y z u 25).below ((Below.refl _ _).alloc (Nat.le_refl _) (.cells #[.int .i64 A.camera, .slice a0 A.slots.length c0, .slice a1 A.guides.length c1, .slice a2 A.nodes.length c2, .slice a3 A.vers.length c3] 38)) (by simp)
 have X0 : World.rangeAt ((w.alloc (.cells #[.int .i64 x, .int .i64 y, .int .i64 z, .int .i64 u] 25)).alloc (.cells #[.int .i64 A.camera, .slice a0 A.slots.length c0, .slice a1 A.guides.length c1, .slice a2 A.nodes.length c2, .slice a3 A.vers.length c3] 38)) (w.heap.size + 1) 0 [.int .i64 A.camera, .slice a0 A.slots.length c0, .slice a1 A.guides.length c1, .slice a2 A.nodes.length c2, .slice a3 A.vers.length c3] := by
  have h := qzd (w.alloc (.cells #[.int .i64 x, .int .i64 y, .int .i64 z, .int .i64 u] 25)) [.int .i64 A.camera, .slice a0 A.slots.length c0, .slice a1 A.guides.length c1, .slice a2 A.nodes.length c2, .slice a3 A.vers.length c3] 38
  simp only [World.size_alloc] at h
  exact h
 have K0 := ((Below.refl w.heap.size w).alloc (Nat.le_refl _) (.cells #[.int .i64 x, .int .i64 y, .int .i64 z, .int .i64 u] 25)).alloc (by simp) (.cells #[.int .i64 A.camera, .slice a0 A.slots.length c0, .slice a1 A.guides.length c1, .slice a2 A.nodes.length c2, .slice a3 A.vers.length c3] 38)
 have hz0 : w.heap.size + 1 < ((w.alloc (.cells #[.int .i64 x, .int .i64 y, .int .i64 z, .int .i64 u] 25)).alloc (.cells #[.int .i64 A.camera, .slice a0 A.slots.length c0, .slice a1 A.guides.length c1, .slice a2 A.nodes.length c2, .slice a3 A.vers.length c3] 38)).heap.size := by simp
 go_enter Try.func21, Try.ntmps21
 go_wp2_with fail
 refine (qz1w _ _ _ _ _).mono ?_
 rintro e w1 ⟨rfl, b1⟩
 have P1 := P0.below b1 (by omega)
 have X1 := qz0 X0 b1 hz0
 have K1 := K0.trans (b1.mono (by omega))
 have I1 := I.below (K1.mono hB)
 have hz1 := Nat.lt_of_lt_of_le hz0 b1.size
 clear P0 X0 K0 I b1 hz0
 have P1' := P1
 obtain ⟨p0, p1, p2, p3⟩ := P1'
 obtain ⟨x0, x1, x2, x3, x4⟩ := row5 X1
 cases h1 : qz3o x y z u
 ·have hv : qz1o x y z u A = false := by simp [qz1o, qz7j, h1]
  go_wp2_with (first | (go_at_call 62; refine (qz16 _ _).mono ?_; rintro e w' ⟨rfl, hw⟩; obtain rfl := hw.symm) | (go_at_call 43; refine (qzg _ _ _ _).mono ?_; rintro e w' ⟨rfl, hw⟩; obtain rfl := hw.symm))
  go_ret
  exact ⟨by rw [hv]; rfl, K1⟩
 cases h2 : inB A.camera 0 100
 ·have hv : qz1o x y z u A = false := by simp [qz1o, qz7j, h2]
  go_wp2_with (first | (go_at_call 62; refine (qz16 _ _).mono ?_; rintro e w' ⟨rfl, hw⟩; obtain rfl := hw.symm) | (go_at_call 43; refine (qzg _ _ _ _).mono ?_; rintro e w' ⟨rfl, hw⟩; obtain rfl := hw.symm))
  go_ret
  exact ⟨by rw [hv]; rfl, K1⟩
 by_cases h3 : (A.slots.length : Int) = x
 case neg =>
  have h3' : ((A.slots.length : Int) != x) = true := by simpa using h3
  have h3b : ((A.slots.length : Int) == x) = false := by simpa using h3
  have hv : qz1o x y z u A = false := by simp [qz1o, qz7j, h3b]
  go_wp2_with (first | (go_at_call 62; refine (qz16 _ _).mono ?_; rintro e w' ⟨rfl, hw⟩; obtain rfl := hw.symm) | (go_at_call 43; refine (qzg _ _ _ _).mono ?_; rintro e w' ⟨rfl, hw⟩; obtain rfl := hw.symm))
  go_ret
  exact ⟨by rw [hv]; rfl, K1⟩
 have h3' : ((A.slots.length : Int) != x) = false := by simpa using h3
 by_cases h4 : (A.guides.length : Int) = u
 case neg =>
  have h4' : ((A.guides.length : Int) != u) = true := by simpa using h4
  have h4b : ((A.guides.length : Int) == u) = false := by simpa using h4
  have hv : qz1o x y z u A = false := by simp [qz1o, qz7j, h4b]
  go_wp2_with (first | (go_at_call 62; refine (qz16 _ _).mono ?_; rintro e w' ⟨rfl, hw⟩; obtain rfl := hw.symm) | (go_at_call 43; refine (qzg _ _ _ _).mono ?_; rintro e w' ⟨rfl, hw⟩; obtain rfl := hw.symm))
  go_ret
  exact ⟨by rw [hv]; rfl, K1⟩
 have h4' : ((A.guides.length : Int) != u) = false := by simpa using h4
 cases h5 : inB A.nodes.length 1 y
 ·have h35 : qz1o x y z u A = false := by simp [qz1o, qz7j, h5]
  have H3 : Hid _ := h3
  have H4 : Hid _ := h4
  clear h3 h4
  go_wp2_with (first | (go_at_call 62; refine (qz16 _ _).mono ?_; rintro e w' ⟨rfl, hw⟩; obtain rfl := hw.symm) | (go_at_call 43; refine (qzg _ _ _ _).mono ?_; rintro e w' ⟨rfl, hw⟩; obtain rfl := hw.symm))
  go_ret
  exact ⟨by rw [h35]; rfl, K1⟩
 cases h6 : inB A.vers.length 1 z
 ·have h36 : qz1o x y z u A = false := by simp [qz1o, qz7j, h6]
  clear h3 h4
  go_wp2_with (first | (go_at_call 62; refine (qz16 _ _).mono ?_; rintro e w' ⟨rfl, hw⟩; obtain rfl := hw.symm) | (go_at_call 43; refine (qzg _ _ _ _).mono ?_; rintro e w' ⟨rfl, hw⟩; obtain rfl := hw.symm))
  go_ret
  exact ⟨by rw [h36]; rfl, K1⟩
 have hh : qz7j x y z u A = true := by simp [qz7j, h1, h2, h3, h4, h5, h6]
 clear h3 h4
 go_wp2_with (first | (go_at_call 62; refine (qz16 _ _).mono ?_; rintro e w' ⟨rfl, hw⟩; obtain rfl := hw.symm) | (go_at_call 43; refine (qzg _ _ _ _).mono ?_; rintro e w' ⟨rfl, hw⟩; obtain rfl := hw.symm))
 clear x0 x1 x2 x3 x4 p0 p1 p2 p3 P1 h1 h2 h3' h4' h5 h6
 go_loopw [5] (fun i wr => ∃ k : Nat, k <= A.slots.length /\ i = .int .i64 k /\ Hid (∀ j (h : j < A.slots.length), j < k -> inB A.slots[j] (-1) 100 = true) /\ Below w1.heap.size w1 wr) (fun i _ => A.slots.length - (intOf i).toNat)
 case atStart => exact ⟨0, Nat.zero_le _, rfl, fun _ _ h => absurd h (by omega), Below.refl _ _⟩
 case round =>
  obtain ⟨k, hk, rfl, hall, bel⟩ := hrel
  obtain ⟨x0, x1, x2, x3, x4⟩ := row5 (qz0 X1 bel hz1)
  have KK := K1.trans (bel.mono (show w.heap.size <= w1.heap.size by omega))
  by_cases hlt : k < A.slots.length
  ·obtain ⟨bb, off, rfl, hbb, R⟩ := qz14.at I1.s (by omega)
   have hlt' : (k : Int) < (A.slots.length : Int) := by omega
   have hk0 : (0 : Int) <= (k : Int) := by omega
   have hc : wr.cell? ⟨bb, off + k, none⟩ = some (.int .i64 A.slots[k]) := (qz0 R (bel.mono (by omega)) hbb) k (.int .i64 A.slots[k]) (by have := qz1q (f := intC) (sz := 1) (fun _ => rfl) A.slots k hlt 0 (by omega); simpa [intC] using this)
   clear R
   cases hq : inB A.slots[k] (-1) 100
   ·have hv : qz1o x y z u A = false := by simp [qz1o, qz5r (f := (fun _ v => inB v (-1) 100)) hlt hq]
    go_wp2_with (go_at_call 43; refine (qzg _ _ _ _).mono ?_; rintro e w' ⟨rfl, hw⟩; obtain rfl := hw.symm)
    go_ret
    exact ⟨by rw [hv]; rfl, KK⟩
   ·have hall' : Hid (∀ j (h : j < A.slots.length), j < k + 1 -> inB A.slots[j] (-1) 100 = true) := fun j h hj => by rcases Nat.lt_or_ge j k with hl | hl; exact hall.out j h hl; obtain rfl : j = k := (by omega); exact hq
    go_wp2_with (go_at_call 43; refine (qzg _ _ _ _).mono ?_; rintro e w' ⟨rfl, hw⟩; obtain rfl := hw.symm)
    go_roundw
    case rel => exact ⟨k + 1, by omega, by go_num, hall', bel⟩
    case measure => simp [intOf]; omega
  ·have hs0 : Hid (qz4s (fun _ v => inB v (-1) 100) A.slots = true) := (qz2o (fun _ v => inB v (-1) 100) A.slots).2 (fun i h => hall.out i h (by omega))
   clear hall
   have bel0 := bel
   clear bel
   obtain ⟨wo0, rfl⟩ : ∃ wo : World, wo = wr := ⟨_, rfl⟩
   go_wp2
   clear x0 x1 x2 x3 x4 KK hlt
   go_loopw [6] (fun i wr => ∃ k : Nat, k <= A.guides.length /\ i = .int .i64 k /\ Hid (∀ j (h : j < A.guides.length), j < k -> inB A.guides[j] 0 ((A.nodes.length : Int) - 1) = true) /\ Below w1.heap.size w1 wr) (fun i _ => A.guides.length - (intOf i).toNat)
   case atStart => exact ⟨0, Nat.zero_le _, rfl, fun _ _ h => absurd h (by omega), bel0⟩
   case round =>
    obtain ⟨k, hk, rfl, hall, bel⟩ := hrel
    obtain ⟨x0, x1, x2, x3, x4⟩ := row5 (qz0 X1 bel hz1)
    have KK := K1.trans (bel.mono (show w.heap.size <= w1.heap.size by omega))
    by_cases hlt : k < A.guides.length
    ·obtain ⟨bb, off, rfl, hbb, R⟩ := qz14.at I1.g (by omega)
     have hlt' : (k : Int) < (A.guides.length : Int) := by omega
     have hk0 : (0 : Int) <= (k : Int) := by omega
     have hc : wr.cell? ⟨bb, off + k, none⟩ = some (.int .i64 A.guides[k]) := (qz0 R (bel.mono (by omega)) hbb) k (.int .i64 A.guides[k]) (by have := qz1q (f := intC) (sz := 1) (fun _ => rfl) A.guides k hlt 0 (by omega); simpa [intC] using this)
     clear R
     cases hq : inB A.guides[k] 0 ((A.nodes.length : Int) - 1)
     ·have hv : qz1o x y z u A = false := by simp [qz1o, qz5r (f := (fun _ v => inB v 0 ((A.nodes.length : Int) - 1))) hlt hq]
      go_wp2
      go_region_held3 (fun w' => w'.cell? ⟨w.heap.size + 1, 0, none⟩ = some (.int .i64 A.camera) /\ w'.cell? ⟨w.heap.size + 1, 1, none⟩ = some (.slice a0 A.slots.length c0) /\ w'.cell? ⟨w.heap.size + 1, 2, none⟩ = some (.slice (some ⟨bb, off, none⟩) A.guides.length c1) /\ w'.cell? ⟨w.heap.size + 1, 3, none⟩ = some (.slice a2 A.nodes.length c2) /\ w'.cell? ⟨w.heap.size + 1, 4, none⟩ = some (.slice a3 A.vers.length c3) /\ w'.cell? ⟨bb, off + k, none⟩ = some (.int .i64 A.guides[k])) (go_keep) ((go_at_call 63; refine (qz3n _ _ _ _ _ _ _ _ _ (by omega)).mono ?_; rintro e w2 ⟨rfl, b2⟩; have bel2 : Below w1.heap.size w1 w2 := bel.drew.trans (b2.mono (by exact bel.size)); obtain ⟨y0, y1, y2, y3, y4⟩ := row5 (qz0 X1 bel2 hz1); have hc2 : w2.cell? ⟨bb, off + k, none⟩ = some (.int .i64 A.guides[k]) := (b2.cell (p := ⟨bb, off + k, none⟩) (by have := bel.size; show bb < wr.heap.size; omega)).trans hc))
      go_wp2
      go_ret
      exact ⟨by rw [hv]; rfl, (K1.trans (bel2.mono (show w.heap.size <= w1.heap.size by omega)))⟩
     ·have hall' : Hid (∀ j (h : j < A.guides.length), j < k + 1 -> inB A.guides[j] 0 ((A.nodes.length : Int) - 1) = true) := fun j h hj => by rcases Nat.lt_or_ge j k with hl | hl; exact hall.out j h hl; obtain rfl : j = k := (by omega); exact hq
      go_wp2
      go_region_held3 (fun w' => w'.cell? ⟨w.heap.size + 1, 0, none⟩ = some (.int .i64 A.camera) /\ w'.cell? ⟨w.heap.size + 1, 1, none⟩ = some (.slice a0 A.slots.length c0) /\ w'.cell? ⟨w.heap.size + 1, 2, none⟩ = some (.slice (some ⟨bb, off, none⟩) A.guides.length c1) /\ w'.cell? ⟨w.heap.size + 1, 3, none⟩ = some (.slice a2 A.nodes.length c2) /\ w'.cell? ⟨w.heap.size + 1, 4, none⟩ = some (.slice a3 A.vers.length c3) /\ w'.cell? ⟨bb, off + k, none⟩ = some (.int .i64 A.guides[k])) (go_keep) ((go_at_call 63; refine (qz3n _ _ _ _ _ _ _ _ _ (by omega)).mono ?_; rintro e w2 ⟨rfl, b2⟩; have bel2 : Below w1.heap.size w1 w2 := bel.drew.trans (b2.mono (by exact bel.size)); obtain ⟨y0, y1, y2, y3, y4⟩ := row5 (qz0 X1 bel2 hz1); have hc2 : w2.cell? ⟨bb, off + k, none⟩ = some (.int .i64 A.guides[k]) := (b2.cell (p := ⟨bb, off + k, none⟩) (by have := bel.size; show bb < wr.heap.size; omega)).trans hc))
      go_wp2
      go_roundw
      case rel => exact ⟨k + 1, by omega, by go_num, hall', bel2⟩
      case measure => simp [intOf]; omega
    ·have hs1 : Hid (qz4s (fun _ v => inB v 0 ((A.nodes.length : Int) - 1)) A.guides = true) := (qz2o (fun _ v => inB v 0 ((A.nodes.length : Int) - 1)) A.guides).2 (fun i h => hall.out i h (by omega))
     clear hall
     have bel1 := bel
     clear bel
     obtain ⟨wo1, rfl⟩ : ∃ wo : World, wo = wr := ⟨_, rfl⟩
     go_wp2
     clear x0 x1 x2 x3 x4 KK hlt
     go_loopw [7] (fun i wr => ∃ k : Nat, k <= A.nodes.length /\ i = .int .i64 k /\ Hid (∀ j (h : j < A.nodes.length), j < k -> qz5n A.vers.length j A.nodes[j] = true) /\ Below w1.heap.size w1 wr) (fun i _ => A.nodes.length - (intOf i).toNat)
     case atStart => exact ⟨0, Nat.zero_le _, rfl, fun _ _ h => absurd h (by omega), bel1⟩
     case round =>
      obtain ⟨k, hk, rfl, hall, bel⟩ := hrel
      obtain ⟨x0, x1, x2, x3, x4⟩ := row5 (qz0 X1 bel hz1)
      have KK := K1.trans (bel.mono (show w.heap.size <= w1.heap.size by omega))
      by_cases hlt : k < A.nodes.length
      ·obtain ⟨bb, off, rfl, hbb, R⟩ := qz14.at I1.n (by omega)
       have hlt' : (k : Int) < (A.nodes.length : Int) := by omega
       have hk0 : (0 : Int) <= (k : Int) := by omega
       have E := qzu (sz := 3) (fun _ => rfl) (qz0 R (bel.mono (by omega)) hbb) k hlt
       clear R
       cases hq : qz5n A.vers.length k A.nodes[k]
       ·have hv : qz1o x y z u A = false := by simp [qz1o, qz5r (f := (qz5n A.vers.length)) hlt hq]
        go_wp2_with fail
        refine (qz5y _ _ _ bb off _ _ _ _ _ A.nodes[k] k _ (by omega) (by omega) hlt (by have := bel.size; omega) E).mono ?_
        rintro e w2 ⟨rfl, b2⟩
        have bel2 : Below w1.heap.size w1 w2 := bel.trans (b2.mono bel.size)
        rw [hq]
        go_wp2
        go_ret
        exact ⟨by rw [hv]; rfl, (K1.trans (bel2.mono (show w.heap.size <= w1.heap.size by omega)))⟩
       ·have hall' : Hid (∀ j (h : j < A.nodes.length), j < k + 1 -> qz5n A.vers.length j A.nodes[j] = true) := fun j h hj => by rcases Nat.lt_or_ge j k with hl | hl; exact hall.out j h hl; obtain rfl : j = k := (by omega); exact hq
        go_wp2_with fail
        refine (qz5y _ _ _ bb off _ _ _ _ _ A.nodes[k] k _ (by omega) (by omega) hlt (by have := bel.size; omega) E).mono ?_
        rintro e w2 ⟨rfl, b2⟩
        have bel2 : Below w1.heap.size w1 w2 := bel.trans (b2.mono bel.size)
        rw [hq]
        go_wp2
        go_roundw
        case rel => exact ⟨k + 1, by omega, by go_num, hall', bel2⟩
        case measure => simp [intOf]; omega
      ·have hs2 : Hid (qz4s (qz5n A.vers.length) A.nodes = true) := (qz2o (qz5n A.vers.length) A.nodes).2 (fun i h => hall.out i h (by omega))
       clear hall
       have bel2 := bel
       clear bel
       obtain ⟨wo2, rfl⟩ : ∃ wo : World, wo = wr := ⟨_, rfl⟩
       go_wp2
       clear x0 x1 x2 x3 x4 KK hlt
       go_loopw [8] (fun i wr => ∃ k : Nat, k <= A.vers.length /\ i = .int .i64 k /\ Hid (∀ j (h : j < A.vers.length), j < k -> verB A.nodes.length A.camera j A.vers[j] = true) /\ Below w1.heap.size w1 wr) (fun i _ => A.vers.length - (intOf i).toNat)
       case atStart => exact ⟨0, Nat.zero_le _, rfl, fun _ _ h => absurd h (by omega), bel2⟩
       case round =>
        obtain ⟨k, hk, rfl, hall, bel⟩ := hrel
        obtain ⟨x0, x1, x2, x3, x4⟩ := row5 (qz0 X1 bel hz1)
        have KK := K1.trans (bel.mono (show w.heap.size <= w1.heap.size by omega))
        by_cases hlt : k < A.vers.length
        ·obtain ⟨bb, off, rfl, hbb, R⟩ := qz14.at I1.r (by omega)
         have hlt' : (k : Int) < (A.vers.length : Int) := by omega
         have hk0 : (0 : Int) <= (k : Int) := by omega
         have E := qzu (sz := 5) (fun _ => rfl) (qz0 R (bel.mono (by omega)) hbb) k hlt
         clear R
         cases hq : verB A.nodes.length A.camera k A.vers[k]
         ·have hv : qz1o x y z u A = false := by simp [qz1o, qz5r (f := (verB A.nodes.length A.camera)) hlt hq]
          go_wp2_with fail
          refine (qz6s _ _ _ bb off _ _ _ _ _ A.vers[k] k _ (by omega) (by omega) hlt (by have := bel.size; omega) E).mono ?_
          rintro e w2 ⟨rfl, b2⟩
          have bel2 : Below w1.heap.size w1 w2 := bel.trans (b2.mono bel.size)
          rw [hq]
          go_wp2
          go_ret
          exact ⟨by rw [hv]; rfl, (K1.trans (bel2.mono (show w.heap.size <= w1.heap.size by omega)))⟩
         ·have hall' : Hid (∀ j (h : j < A.vers.length), j < k + 1 -> verB A.nodes.length A.camera j A.vers[j] = true) := fun j h hj => by rcases Nat.lt_or_ge j k with hl | hl; exact hall.out j h hl; obtain rfl : j = k := (by omega); exact hq
          go_wp2_with fail
          refine (qz6s _ _ _ bb off _ _ _ _ _ A.vers[k] k _ (by omega) (by omega) hlt (by have := bel.size; omega) E).mono ?_
          rintro e w2 ⟨rfl, b2⟩
          have bel2 : Below w1.heap.size w1 w2 := bel.trans (b2.mono bel.size)
          rw [hq]
          go_wp2
          go_roundw
          case rel => exact ⟨k + 1, by omega, by go_num, hall', bel2⟩
          case measure => simp [intOf]; omega
        ·have hs3 : Hid (qz4s (verB A.nodes.length A.camera) A.vers = true) := (qz2o (verB A.nodes.length A.camera) A.vers).2 (fun i h => hall.out i h (by omega))
         clear hall
         have hv : qz1o x y z u A = true := by simp only [qz1o, hh, hs0.out, hs1.out, hs2.out, hs3.out, Bool.and_self]
         go_wp2
         go_ret
         exact ⟨by rw [hv]; rfl, KK⟩
end
section
attribute [local go_sem ↓] Go.wp_at_zero Go.wp_at_succ
def vrOf (A : Ar) (v : Int) : Vr := A.vers.getD v.toNat ⟨-1, false, -1, -1, 0⟩
def ndOf (A : Ar) (n : Int) : Nd := A.nodes.getD n.toNat ⟨-1, 0, 0⟩
theorem qz32 (A : Ar) (n : Nat) (h : n < A.vers.length) : vrOf A n = A.vers[n] := by simp [vrOf, h]
theorem qz24 (A : Ar) (n : Nat) (h : n < A.nodes.length) : ndOf A n = A.nodes[n] := by simp [ndOf, h]
def qz2x (A : Ar) (v : Int) : Bool := inB v 0 ((A.vers.length : Int) - 1) && ((vrOf A v).stamp != -1)
def qzdl (A : Ar) : Prop := ∀ i (h : i < A.vers.length), -1 <= A.vers[i].prev /\ A.vers[i].prev < (i : Int)
theorem qz2a {x y z u : Int} {A : Ar} (h : qz1o x y z u A = true) : qz7j x y z u A = true /\ qz4s (fun _ v => inB v (-1) 100) A.slots = true /\ qz4s (fun _ v => inB v 0 ((A.nodes.length : Int) - 1)) A.guides = true /\ qz4s (qz5n A.vers.length) A.nodes = true /\ qz4s (verB A.nodes.length A.camera) A.vers = true := by
 simp only [qz1o, Bool.and_eq_true] at h
 exact ⟨h.1.1.1.1, h.1.1.1.2, h.1.1.2, h.1.2, h.2⟩
theorem qzcl {x y z u : Int} {A : Ar} (h : qz1o x y z u A = true) : qzdl A := by
 intro i hi
 have := (qz2o _ _).1 (qz2a h).2.2.2.2 i hi
 simp only [verB, Bool.and_eq_true, qz1b] at this
 omega
theorem qz9q {x y z u : Int} {A : Ar} (h : qz1o x y z u A = true) (n : Nat) (hn : n < A.nodes.length) : 0 <= A.nodes[n].head /\ A.nodes[n].head < (A.vers.length : Int) := by
 have := (qz2o _ _).1 (qz2a h).2.2.2.1 n hn
 unfold qz5n at this
 split at this <;> (simp only [Bool.and_eq_true, qz1b] at this; omega)
theorem qz1s (B : Nat) (A : Ar) (v : Int) (a0 a1 a2 a3 : Option Addr) (c0 c1 c2 c3 : Nat) (w : World) (hB : B <= w.heap.size) (hA : A.size <= 1048576) (I : qz25 B w (.slice a0 A.slots.length c0) (.slice a1 A.guides.length c1) (.slice a2 A.nodes.length c2) (.slice a3 A.vers.length c3) A) :
  Calls Try.prog 120 #[.agg #[.int .i64 A.camera, .slice a0 A.slots.length c0, .slice a1 A.guides.length c1, .slice a2 A.nodes.length c2, .slice a3 A.vers.length c3], .int .i64 v] w fun e w' => e = .returned (.bool (qz2x A v)) /\ Below w.heap.size w w' := by
 unfold Ar.size at hA
 have X0 := qzd w [.int .i64 A.camera, .slice a0 A.slots.length c0, .slice a1 A.guides.length c1, .slice a2 A.nodes.length c2, .slice a3 A.vers.length c3] 38
 have K0 := (Below.refl w.heap.size w).alloc (Nat.le_refl _) (.cells #[.int .i64 A.camera, .slice a0 A.slots.length c0, .slice a1 A.guides.length c1, .slice a2 A.nodes.length c2, .slice a3 A.vers.length c3] 38)
 have hz0 : w.heap.size < (w.alloc (.cells #[.int .i64 A.camera, .slice a0 A.slots.length c0, .slice a1 A.guides.length c1, .slice a2 A.nodes.length c2, .slice a3 A.vers.length c3] 38)).heap.size := by simp
 obtain ⟨x0, x1, x2, x3, x4⟩ := row5 X0
 go_enter Try.func120, Try.ntmps120
 go_wp2_with fail
 refine (qz2j _ _ _ _ _ _ _ _ _ (by omega)).mono ?_
 rintro e w1 ⟨rfl, b1⟩
 have X1 := qz0 X0 b1 hz0
 have K1 := K0.trans (b1.mono (by omega))
 have I1 := I.below (K1.mono hB)
 have hz1 := Nat.lt_of_lt_of_le hz0 b1.size
 clear X0 K0 I b1 hz0 x0 x1 x2 x3 x4
 obtain ⟨x0, x1, x2, x3, x4⟩ := row5 X1
 cases hq : inB v 0 ((A.vers.length : Int) - 1)
 ·have hv : qz2x A v = false := by simp [qz2x, hq]
  go_wp2
  go_ret
  exact ⟨by first | rfl | (rw [hv]; rfl), K1⟩
 ·have hq' := (qz1b _ _ _).1 hq
  obtain ⟨n, rfl⟩ : ∃ n : Nat, v = n := ⟨v.toNat, by omega⟩
  have hn : n < A.vers.length := by omega
  have hn' : (n : Int) < (A.vers.length : Int) := by omega
  have hn0 : (0 : Int) <= (n : Int) := by omega
  have hv : qz2x A n = (A.vers[n].stamp != -1) := by simp [qz2x, hq, qz32 A n hn]
  obtain ⟨bb, off, rfl, hbb, R⟩ := qz14.at I1.r (by omega)
  have hc : w1.cell? ⟨bb, off + n * 5 + 2, none⟩ = some (.int .i64 A.vers[n].stamp) := (qzu (sz := 5) (fun _ => rfl) R n hn) 2 _ rfl
  clear R hq'
  go_wp2
  go_ret
  exact ⟨by first | rfl | (rw [hv]; rfl), K1⟩
end
section
attribute [local go_sem ↓] Go.wp_at_zero Go.wp_at_succ
theorem qz6a {P : Program} (w : World) (base : Nat) (t ty e : TypeId) (i : TypeInfo) (z : Value) (size bytes : Nat) (ht : P.underlying t = some (.slice e)) (hi : P.info? e = some i) (hz : i.zero = some z)
  (hsize : i.size = size) (hby : i.bytes = bytes) (hzs : z.cells.size = size) (hsz : 0 < size) (g : Nat) (hown : w.ownsRow base e size (.slice (some ⟨g, 0, none⟩) 0 0) 0 [])
  (B : Nat) (x : Value) (len : Nat) (cs : List Value) (S : qz14 B w x len cs) (hl : cs.length = len * size) (h1 : ∀ u ∈ cs, u.oneCell' = true) (h63 : len <= maxLen) (hbytes : len * bytes <= 140737488355328) (hbase : base <= w.heap.size) :
  ∃ v' w', (Builtin.append_ #[t, t] ty #[.slice (some ⟨g, 0, none⟩) 0 0, x]).run P w = .ok v' w' /\ w'.ownsRow base e size v' len cs /\ w.grownBy w' (some g) /\ (v'.ownBlock = some g ∨ v'.ownBlock = some w.heap.size) := by
 obtain ⟨a, cap, rfl, hS⟩ := S
 cases a with
 | none =>
  have h0 : len = 0 := by
   rcases hS with h | ⟨bb, off, h, _⟩
   ·exact h
   ·cases h
  subst h0
  have hc : cs = [] := List.eq_nil_of_length_eq_zero (by simpa using hl)
  subst hc
  have hr := run_append_room_src (P := P) w t t ty e i ht hi g 0 0 0 (.slice none 0 cap) 0 [] (Src.ofNil w ht cap) (by omega) (by simp) (by simp)
  refine ⟨_, _, hr, hown, ⟨rfl, rfl, rfl, Nat.le_refl _, fun _ _ _ => rfl⟩, Or.inl rfl⟩
 | some ad =>
  have hnews : ∀ j u, cs[j]? = some u -> w.cell? (ad.add j) = some u := by
   intro j u hj
   rcases hS with h | ⟨bb, off, h, _, R⟩
   ·subst h
    have hc : cs = [] := List.eq_nil_of_length_eq_zero (by simpa using hl)
    subst hc
    cases hj
   ·cases h
    have := R j u hj
    simpa [Addr.add_lit] using this
  obtain ⟨v', w', hr, h2, h3, _, h5⟩ := run_append_own_at (P := P) w base t ty e i z size bytes ht hi hz hsize hby hzs hsz _ 0 [] hown ad len cap cs hl hnews h1 (by simpa using h63) (by simpa using hbytes) hbase
  exact ⟨v', w', hr, by simpa using h2, h3, h5⟩
theorem qz52 {P : Program} (w : World) (base : Nat) (t ty e : TypeId) (i : TypeInfo) (z : Value) (size bytes : Nat) (ht : P.underlying t = some (.slice e)) (hi : P.info? e = some i) (hz : i.zero = some z)
  (hsize : i.size = size) (hby : i.bytes = bytes) (hzs : z.cells.size = size) (hsz : 0 < size) (g : Nat)
  (B : Nat) (x : Value) (len : Nat) (cs : List Value) (S : qz14 B w x len cs) (hp : 0 < len) (hl : cs.length = len * size) (h1 : ∀ u ∈ cs, u.oneCell' = true) (h63 : len <= maxLen) (hbytes : len * bytes <= 140737488355328) (hbase : base <= w.heap.size) :
  ∃ cap w', (Builtin.append_ #[t, t] ty #[.slice (some ⟨g, 0, none⟩) 0 0, x]).run P w = .ok (.slice (some ⟨w.heap.size, 0, none⟩) len cap) w' /\ w'.ownsRow base e size (.slice (some ⟨w.heap.size, 0, none⟩) len cap) len cs /\ Below w.heap.size w w' /\ w.heap.size < w'.heap.size := by
 subst hsize
 subst hby
 obtain ⟨a, c, rfl, hS⟩ := S
 obtain ⟨bb, off, rfl, _, R⟩ : ∃ bb off, a = some ⟨bb, off, none⟩ /\ bb < B /\ w.rangeAt bb off cs := by
  rcases hS with h | h
  ·omega
  ·exact h
 have hnews : ∀ j u, cs[j]? = some u -> w.cell? ((⟨bb, off, none⟩ : Addr).add j) = some u := fun j u hj => by
  have := R j u hj
  simpa [Addr.add_lit] using this
 have hsmall : len <= 9223372036854775807 := by simp only [maxLen] at h63; omega
 have hr := run_append_grow (P := P) w t ty e i z ht hi hz ⟨g, 0, none⟩ 0 0 [] (by simp) (fun j u h => by cases h) ⟨bb, off, none⟩ len c cs hl hnews (by omega) (by omega) (growslice_fits (by omega) (by simpa using hbytes))
 simp only [Nat.zero_add] at hr
 have hge := grownCap_ge w len 0 e
 have hcm : grownCap w len 0 e <= maxLen := grownCap_le_maxLen w len 0 e h63
 refine ⟨_, _, hr, ⟨hl, .inr ⟨w.heap.size, _, _, rfl, hbase, heap_alloc_new w.drew _, hge, hcm, ?_, ?_⟩⟩, ⟨rfl, rfl, rfl, by simp, fun k hk => Below.heap_alloc w.drew _ k hk⟩, by simp⟩
 ·simp only [Array.size_append, List.size_toArray, size_zeroCells, hzs, hl, <- Nat.add_mul, List.length_nil, Nat.zero_add]
  congr 1
  omega
 ·simp only [Array.toList_append, List.append_assoc]
  rw [<- hl]
  simp
theorem qz5d {P : Program} {ops : Array Oper} {rest : List Oper} {o : Oper} {a : Act} {w : World} {Q : Exit -> Act -> World -> Prop} (hgd : o.guard = none) (s x : Operand) (t : TypeId)
  (ho : o.op = .call { callee := .builtin .append, args := #[s, x], argTypes := #[t, t] }) (base : Nat) (e : TypeId) (i : TypeInfo) (z : Value) (size bytes : Nat) (ht : P.underlying t = some (.slice e)) (hi : P.info? e = some i) (hz : i.zero = some z)
  (hsize : i.size = size) (hby : i.bytes = bytes) (hzs : z.cells.size = size) (hsz : 0 < size) (g : Nat) (hs : a.eval s = .slice (some ⟨g, 0, none⟩) 0 0) (hown : w.ownsRow base e size (.slice (some ⟨g, 0, none⟩) 0 0) 0 [])
  (B : Nat) (X : Value) (hx : a.eval x = X) (len : Nat) (cs : List Value) (S : qz14 B w X len cs) (hl : cs.length = len * size) (h1 : ∀ u ∈ cs, u.oneCell' = true) (h63 : len <= maxLen) (hbytes : len * bytes <= 140737488355328) (hbase : base <= w.heap.size)
  (h : ∀ v' w', w'.ownsRow base e size v' len cs -> w.grownBy w' (some g) -> (v'.ownBlock = some g ∨ v'.ownBlock = some w.heap.size) -> wpList P ops Q rest (a.put o.dst v') w') : wpList P ops Q (o :: rest) a w := by
 refine wpList_plain hgd fun K hK => ?_
 obtain ⟨v', w', hr, h2, h3, h5⟩ := qz6a (P := P) w base t o.type e i z size bytes ht hi hz hsize hby hzs hsz g hown B X len cs S hl h1 h63 hbytes hbase
 unfold Oper.wp
 simp [execOp, ho, resolve, invoke, builtin, hs, hx, hr, Result.andThen, Oper.upon]
 exact hK _ _ (h v' w' h2 h3 h5)
theorem qz3l {α : Type} {f : α -> List Value} (hf : ∀ x, ∀ u ∈ f x, u.oneCell' = true) (l : List α) : ∀ u ∈ qzq f l, u.oneCell' = true := by
 intro u hu
 unfold qzq at hu
 obtain ⟨x, _, hx⟩ := List.mem_flatMap.1 hu
 exact hf x u hx
theorem qzah : ∀ (x : Int), ∀ u ∈ intC x, u.oneCell' = true := by
 intro x u hu
 simp [intC] at hu
 subst hu
 rfl
theorem qzc4 : ∀ (x : Nd), ∀ u ∈ ndC x, u.oneCell' = true := by
 intro x u hu
 simp [ndC] at hu
 rcases hu with rfl | rfl | rfl <;> rfl
theorem qzb5 : ∀ (x : Vr), ∀ u ∈ vrC x, u.oneCell' = true := by
 intro x u hu
 simp [vrC] at hu
 rcases hu with rfl | rfl | rfl | rfl | rfl <;> rfl
theorem qz65 (B : Nat) (v : Value) (l : List Int) (w : World) (hB : B <= w.heap.size) (hl : l.length <= 1048576) (S : qz14 B w v l.length (qzq intC l)) :
  Calls Try.prog 107 #[v] w fun e w' => ∃ v', e = .returned v' /\ w'.ownsRow w.heap.size 2 1 v' l.length (qzq intC l) /\ Below w.heap.size w w' := by
 obtain ⟨i0, hi, hzr, hsz, hby⟩ := info_parts qza4
 have O0 := World.ownsRow_lit (base := w.heap.size) (e := 2) (size := 1) w #[] 0 (by simp) (by decide) (by simp)
 have al := (Below.refl w.heap.size w).alloc (Nat.le_refl _) (.cells #[] 2)
 have S1 := S.below (al.mono hB)
 obtain ⟨a, cap, rfl, hS⟩ := id S
 go_enter Try.func107, Try.ntmps107
 go_wp2_with (at_builtin; refine qz5d rfl _ _ 34 rfl w.heap.size 2 i0 (.int .i64 0) 1 8 Try.underlying34 hi hzr hsz hby rfl (by decide) w.heap.size rfl O0 B (.slice a l.length cap) rfl l.length (qzq intC l) S1 (by rw [qz2h (sz := 1) (fun _ => rfl)]) (qz3l qzah l) (by unfold maxLen; omega) (by omega) (by simp) ?_)
 intro v' w1 hown hgrow _
 have K1 := al.grown hgrow (by simp) (fun j e => by cases e; exact Nat.le_refl _)
 obtain ⟨va, vc, rfl⟩ := qzk hown
 go_wp2
 go_ret
 exact ⟨_, rfl, hown, K1⟩
end
section
attribute [local go_sem ↓] Go.wp_at_zero Go.wp_at_succ
theorem qz26 {w : World} {base base' : Nat} {e : TypeId} {sz : Nat} {v : Value} {n : Nat} {xs : List Value} (h : w.ownsRow base e sz v n xs) (hb : base' <= base) : w.ownsRow base' e sz v n xs := by
 refine ⟨h.1, ?_⟩
 rcases h.2 with h0 | ⟨g, cap, cur, rfl, hg, rest⟩
 ·exact Or.inl h0
 ·exact Or.inr ⟨g, cap, cur, rfl, Nat.le_trans hb hg, rest⟩
theorem qz1v {w w' : World} {base : Nat} {e : TypeId} {sz : Nat} {v : Value} {n : Nat} {xs : List Value} (h : w.ownsRow base e sz v n xs) (hb : Below w.heap.size w w') : w'.ownsRow base e sz v n xs := qzbj h hb (fun j e => qz2m h e)
theorem qz10 {w w' : World} {base b : Nat} {e : TypeId} {sz : Nat} {v : Value} {n : Nat} {xs : List Value} (h : w.ownsRow base e sz v n xs) (hb : Only b w w') (hv : ∀ j, v.ownBlock = some j -> j ≠ b) : w'.ownsRow base e sz v n xs := by
 have hlt := fun j e => qz2m h (j := j) e
 refine ⟨h.1, ?_⟩
 rcases h.2 with h0 | ⟨g, cap, cur, rfl, hg, hh, rest⟩
 ·exact Or.inl h0
 ·exact Or.inr ⟨g, cap, cur, rfl, hg, (hb.block g (hlt g rfl) (hv g rfl)).trans hh, rest⟩
theorem qz3w {w : World} {base : Nat} {e : TypeId} {sz : Nat} {v : Value} {n : Nat} {xs : List Value} (h : w.ownsRow base e sz v n xs) : qz5c v = v.ownBlock := by
 obtain ⟨a, c, rfl⟩ := qzk h
 cases a <;> rfl
theorem qz2t {w : World} {base : Nat} {e : TypeId} {sz : Nat} {v : Value} {n : Nat} {xs : List Value} (h : w.ownsRow base e sz v n xs) : qz14 w.heap.size w v n xs := by
 obtain ⟨b, a, cap, o, rfl, hN⟩ := qzd4 h
 refine ⟨a, cap, rfl, ?_⟩
 rcases hN with h0 | ⟨rfl, _, hlt, R, _⟩
 ·exact Or.inl h0
 ·exact Or.inr ⟨b, o, rfl, hlt, R⟩
structure qz38 (base : Nat) (w : World) (s g n r : Value) (A : Ar) : Prop where
 rs : w.ownsRow base 2 1 s A.slots.length (qzq intC A.slots)
 rg : w.ownsRow base 2 1 g A.guides.length (qzq intC A.guides)
 rn : w.ownsRow base 96 3 n A.nodes.length (qzq ndC A.nodes)
 rr : w.ownsRow base 62 5 r A.vers.length (qzq vrC A.vers)
 ne : ∀ b, s.ownBlock = some b -> g.ownBlock ≠ some b
theorem qz38.is {base : Nat} {w : World} {s g n r : Value} {A : Ar} (O : qz38 base w s g n r A) : qz25 w.heap.size w s g n r A := ⟨qz2t O.rs, qz2t O.rg, qz2t O.rn, qz2t O.rr⟩
theorem qz38.below {base : Nat} {w w' : World} {s g n r : Value} {A : Ar} (O : qz38 base w s g n r A) (hb : Below w.heap.size w w') : qz38 base w' s g n r A := ⟨qz1v O.rs hb, qz1v O.rg hb, qz1v O.rn hb, qz1v O.rr hb, O.ne⟩
theorem qz38.only {base b : Nat} {w w' : World} {s g n r : Value} {A : Ar} (O : qz38 base w s g n r A) (hb : Only b w w') (hl : b < base) : qz38 base w' s g n r A :=
 ⟨qz10 O.rs hb (fun j e => by have := qz1l O.rs e; omega), qz10 O.rg hb (fun j e => by have := qz1l O.rg e; omega), qz10 O.rn hb (fun j e => by have := qz1l O.rn e; omega), qz10 O.rr hb (fun j e => by have := qz1l O.rr e; omega), O.ne⟩
theorem qz38.lo {base base' : Nat} {w : World} {s g n r : Value} {A : Ar} (O : qz38 base w s g n r A) (hb : base' <= base) : qz38 base' w s g n r A := ⟨qz26 O.rs hb, qz26 O.rg hb, qz26 O.rn hb, qz26 O.rr hb, O.ne⟩
def qzdd (b bs : Nat) (A : Ar) (a0 a1 a2 a3 : Option Addr) (c0 c1 c2 c3 : Nat) : Nat -> Value -> World -> Prop
 | 0, v, _ => v = .pointer (some ⟨b, 0, none⟩)
 | 1, v, _ => v = .int .i64 A.camera
 | 2, v, _ => v = .pointer (some ⟨b, 1, none⟩)
 | 3, v, _ => v = .slice a0 A.slots.length c0
 | 4, v, w => w.ownsRow bs 2 1 v A.slots.length (qzq intC A.slots)
 | 5, v, _ => v = .pointer (some ⟨b, 2, none⟩)
 | 6, v, _ => v = .slice a1 A.guides.length c1
 | 7, v, w => w.ownsRow bs 2 1 v A.guides.length (qzq intC A.guides)
 | 8, v, _ => ∃ g, v = .slice (some ⟨g, 0, none⟩) 0 0
 | 9, v, _ => v = .pointer (some ⟨b, 3, none⟩)
 | 10, v, _ => v = .slice a2 A.nodes.length c2
 | 11, v, w => w.ownsRow bs 96 3 v A.nodes.length (qzq ndC A.nodes)
 | 12, v, _ => ∃ g, v = .slice (some ⟨g, 0, none⟩) 0 0
 | 13, v, _ => v = .pointer (some ⟨b, 4, none⟩)
 | 14, v, _ => v = .slice a3 A.vers.length c3
 | 15, v, w => w.ownsRow bs 62 5 v A.vers.length (qzq vrC A.vers)
 | _, _, _ => True
def qz72 : Nat -> Bool
 | 4 => true
 | 7 => true
 | _ => false
theorem qzae {b bs : Nat} {A : Ar} {a0 a1 a2 a3 : Option Addr} {c0 c1 c2 c3 : Nat} (i : Nat) (v : Value) (w w' : World) (h : qzdd b bs A a0 a1 a2 a3 c0 c1 c2 c3 i v w) (hb : Below w.heap.size w w') : qzdd b bs A a0 a1 a2 a3 c0 c1 c2 c3 i v w' := by
 match i, h with
 | 0, h => exact h
 | 1, h => exact h
 | 2, h => exact h
 | 3, h => exact h
 | 4, h => exact qz1v h hb
 | 5, h => exact h
 | 6, h => exact h
 | 7, h => exact qz1v h hb
 | 8, h => exact h
 | 9, h => exact h
 | 10, h => exact h
 | 11, h => exact qz1v h hb
 | 12, h => exact h
 | 13, h => exact h
 | 14, h => exact h
 | 15, h => exact qz1v h hb
 | i + 16, h => exact trivial
theorem qzbs {b bs : Nat} {A : Ar} {a0 a1 a2 a3 : Option Addr} {c0 c1 c2 c3 : Nat} (i : Nat) (v : Value) (w : World) (q : Nat) (hf : qz72 i = true) (h : qzdd b bs A a0 a1 a2 a3 c0 c1 c2 c3 i v w) (hq : qz5c v = some q) : q < w.heap.size := by
 unfold qz72 at hf
 split at hf
 ·rw [qz3w h] at hq; exact qz2m h hq
 ·rw [qz3w h] at hq; exact qz2m h hq
 ·cases hf
theorem qz7k (B : Nat) (A : Ar) (a0 a1 a2 a3 : Option Addr) (c0 c1 c2 c3 : Nat) (w : World) (hB : B <= w.heap.size) (hA : A.size <= 1048576) (I : qz25 B w (.slice a0 A.slots.length c0) (.slice a1 A.guides.length c1) (.slice a2 A.nodes.length c2) (.slice a3 A.vers.length c3) A) (hs : 0 < A.slots.length) (hg : 0 < A.guides.length) (hn : 0 < A.nodes.length) (hr : 0 < A.vers.length) :
  Calls Try.prog 106 #[.agg #[.int .i64 A.camera, .slice a0 A.slots.length c0, .slice a1 A.guides.length c1, .slice a2 A.nodes.length c2, .slice a3 A.vers.length c3]] w fun e w' => ∃ s g n r, e = .returned (.agg #[.int .i64 A.camera, s, g, n, r]) /\ qz38 w.heap.size w' s g n r A /\ Below w.heap.size w w' := by
 unfold Ar.size at hA
 have X0 := World.rangeAt_alloc (qzd w [.int .i64 A.camera, .slice a0 A.slots.length c0, .slice a1 A.guides.length c1, .slice a2 A.nodes.length c2, .slice a3 A.vers.length c3] 38) (.cells #[.int .i64 0, .slice none 0 0, .slice none 0 0, .slice none 0 0, .slice none 0 0] 38)
 have F0 := qzh (w.alloc (.cells #[.int .i64 A.camera, .slice a0 A.slots.length c0, .slice a1 A.guides.length c1, .slice a2 A.nodes.length c2, .slice a3 A.vers.length c3] 38)) #[.int .i64 0, .slice none 0 0, .slice none 0 0, .slice none 0 0, .slice none 0 0] 38 5 (by decide)
 have K0 := ((Below.refl w.heap.size w).alloc (Nat.le_refl _) (.cells #[.int .i64 A.camera, .slice a0 A.slots.length c0, .slice a1 A.guides.length c1, .slice a2 A.nodes.length c2, .slice a3 A.vers.length c3] 38)).alloc (by simp) (.cells #[.int .i64 0, .slice none 0 0, .slice none 0 0, .slice none 0 0, .slice none 0 0] 38)
 have hz0 : w.heap.size + 1 < ((w.alloc (.cells #[.int .i64 A.camera, .slice a0 A.slots.length c0, .slice a1 A.guides.length c1, .slice a2 A.nodes.length c2, .slice a3 A.vers.length c3] 38)).alloc (.cells #[.int .i64 0, .slice none 0 0, .slice none 0 0, .slice none 0 0, .slice none 0 0] 38)).heap.size := by simp
 simp only [World.size_alloc] at F0
 have I0 := I.below (K0.mono hB)
 go_enter Try.func106, Try.ntmps106
 go_wp2_with fail
 generalize hw0 : (w.alloc (.cells #[.int .i64 A.camera, .slice a0 A.slots.length c0, .slice a1 A.guides.length c1, .slice a2 A.nodes.length c2, .slice a3 A.vers.length c3] 38)).alloc (.cells #[.int .i64 0, .slice none 0 0, .slice none 0 0, .slice none 0 0, .slice none 0 0] 38) = w0 at *
 clear hw0 I
 refine qz2k 16 (by kernel_rfl) (qzdd w.heap.size (w.heap.size + 2) A a0 a1 a2 a3 c0 c1 c2 c3) qz72 (by kernel_rfl) (by kernel_rfl) (by kernel_rfl) (by kernel_rfl) (by rfl) (fun i v w w' _ h hb => qzae i v w w' h hb) (fun i v w q hf h hq => qzbs i v w q hf h hq) ?step ?final
 case step =>
  intro i o hik ho a W hb hnn hd K hK
  obtain ⟨x0, x1, x2, x3, x4⟩ := row5 (qz0 X0 hb (by omega))
  have IW := I0.below (hb.mono (by omega))
  have hzW := hb.size
  match i, ho with
  | 0, ho =>
   obtain rfl := Option.some.inj ho
   have e1 : a.eval (.tmp 1) = .pointer (some ⟨w.heap.size, 0, none⟩) := hnn 1 rfl
   refine qz2 (v := .pointer (some ⟨w.heap.size, 0, none⟩)) (w' := W) ?_ (hK _ _ rfl (Below.refl _ _) (fun h => by cases h))
   generalize a.eval = ev at *
   go_simp
  | 1, ho =>
   obtain rfl := Option.some.inj ho
   have e1 : a.eval (.tmp 3) = .pointer (some ⟨w.heap.size, 0, none⟩) := hd ⟨0, .data⟩ (by simp) rfl 3 rfl
   refine qz2 (v := .int .i64 A.camera) (w' := W) ?_ (hK _ _ rfl (Below.refl _ _) (fun h => by cases h))
   generalize a.eval = ev at *
   go_simp
  | 2, ho =>
   obtain rfl := Option.some.inj ho
   have e1 : a.eval (.tmp 1) = .pointer (some ⟨w.heap.size, 0, none⟩) := hnn 1 rfl
   refine qz2 (v := .pointer (some ⟨w.heap.size, 1, none⟩)) (w' := W) ?_ (hK _ _ rfl (Below.refl _ _) (fun h => by cases h))
   generalize a.eval = ev at *
   go_simp
  | 3, ho =>
   obtain rfl := Option.some.inj ho
   have e1 : a.eval (.tmp 5) = .pointer (some ⟨w.heap.size, 1, none⟩) := hd ⟨2, .data⟩ (by simp) rfl 5 rfl
   refine qz2 (v := .slice a0 A.slots.length c0) (w' := W) ?_ (hK _ _ rfl (Below.refl _ _) (fun h => by cases h))
   generalize a.eval = ev at *
   go_simp
  | 4, ho =>
   obtain rfl := Option.some.inj ho
   have e1 : a.eval (.tmp 6) = .slice a0 A.slots.length c0 := hd ⟨3, .data⟩ (by simp) rfl 6 rfl
   have ef : a.eval (.func 107) = .func (.func 107) #[] #[] := rfl
   refine qz2i (f := 107) (args := #[.slice a0 A.slots.length c0]) (R := fun v w' => w'.ownsRow W.heap.size 2 1 v A.slots.length (qzq intC A.slots) /\ Below W.heap.size W w') ?_ ((qz65 B _ A.slots W (by omega) (by omega) IW.s).mono (fun e w' h => h)) (fun v w' h => hK v w' (qz26 h.1 (by omega)) h.2 (fun _ q hq => by rw [qz3w h.1] at hq; exact qz1l h.1 hq))
   generalize a.eval = ev at *
   go_simp
  | 5, ho =>
   obtain rfl := Option.some.inj ho
   have e1 : a.eval (.tmp 1) = .pointer (some ⟨w.heap.size, 0, none⟩) := hnn 1 rfl
   refine qz2 (v := .pointer (some ⟨w.heap.size, 2, none⟩)) (w' := W) ?_ (hK _ _ rfl (Below.refl _ _) (fun h => by cases h))
   generalize a.eval = ev at *
   go_simp
  | 6, ho =>
   obtain rfl := Option.some.inj ho
   have e1 : a.eval (.tmp 8) = .pointer (some ⟨w.heap.size, 2, none⟩) := hd ⟨5, .data⟩ (by simp) rfl 8 rfl
   refine qz2 (v := .slice a1 A.guides.length c1) (w' := W) ?_ (hK _ _ rfl (Below.refl _ _) (fun h => by cases h))
   generalize a.eval = ev at *
   go_simp
  | 7, ho =>
   obtain rfl := Option.some.inj ho
   have e1 : a.eval (.tmp 9) = .slice a1 A.guides.length c1 := hd ⟨6, .data⟩ (by simp) rfl 9 rfl
   have ef : a.eval (.func 107) = .func (.func 107) #[] #[] := rfl
   refine qz2i (f := 107) (args := #[.slice a1 A.guides.length c1]) (R := fun v w' => w'.ownsRow W.heap.size 2 1 v A.guides.length (qzq intC A.guides) /\ Below W.heap.size W w') ?_ ((qz65 B _ A.guides W (by omega) (by omega) IW.g).mono (fun e w' h => h)) (fun v w' h => hK v w' (qz26 h.1 (by omega)) h.2 (fun _ q hq => by rw [qz3w h.1] at hq; exact qz1l h.1 hq))
   generalize a.eval = ev at *
   go_simp
  | 8, ho =>
   obtain rfl := Option.some.inj ho
   refine qz2 (v := .slice (some ⟨W.heap.size, 0, none⟩) 0 0) (w' := W.alloc (.cells #[] 96)) ?_ (hK _ _ ⟨_, rfl⟩ ((Below.refl _ _).alloc (Nat.le_refl _) _) (fun h => by cases h))
   generalize a.eval = ev at *
   go_simp
  | 9, ho =>
   obtain rfl := Option.some.inj ho
   have e1 : a.eval (.tmp 1) = .pointer (some ⟨w.heap.size, 0, none⟩) := hnn 1 rfl
   refine qz2 (v := .pointer (some ⟨w.heap.size, 3, none⟩)) (w' := W) ?_ (hK _ _ rfl (Below.refl _ _) (fun h => by cases h))
   generalize a.eval = ev at *
   go_simp
  | 10, ho =>
   obtain rfl := Option.some.inj ho
   have e1 : a.eval (.tmp 12) = .pointer (some ⟨w.heap.size, 3, none⟩) := hd ⟨9, .data⟩ (by simp) rfl 12 rfl
   refine qz2 (v := .slice a2 A.nodes.length c2) (w' := W) ?_ (hK _ _ rfl (Below.refl _ _) (fun h => by cases h))
   generalize a.eval = ev at *
   go_simp
  | 11, ho =>
   obtain rfl := Option.some.inj ho
   obtain ⟨g, e1⟩ := (show ∃ g, a.eval (.tmp 11) = .slice (some ⟨g, 0, none⟩) 0 0 from hd ⟨8, .data⟩ (by simp) rfl 11 rfl)
   have e2 : a.eval (.tmp 13) = .slice a2 A.nodes.length c2 := hd ⟨10, .data⟩ (by simp) rfl 13 rfl
   obtain ⟨i0, hi, hzr, hsz, hby⟩ := info_parts qzb6
   obtain ⟨cap, w', hrun, how, hbl, hlt⟩ := qz52 (P := Try.prog) W (w.heap.size + 2) 35 35 96 i0 _ 3 24 Try.underlying35 hi hzr hsz hby rfl (by decide) g B _ A.nodes.length (qzq ndC A.nodes) IW.n hn (by rw [qz2h (sz := 3) (fun _ => rfl)]) (qz3l qzc4 A.nodes) (by unfold maxLen; omega) (by omega) (by omega)
   refine qz2 (v := .slice (some ⟨W.heap.size, 0, none⟩) A.nodes.length cap) (w' := w') ?_ (hK _ _ how hbl (fun h => by cases h))
   generalize a.eval = ev at *
   simp [execOp, resolve, invoke, builtin, e1, e2, hrun, Result.andThen]
  | 12, ho =>
   obtain rfl := Option.some.inj ho
   refine qz2 (v := .slice (some ⟨W.heap.size, 0, none⟩) 0 0) (w' := W.alloc (.cells #[] 62)) ?_ (hK _ _ ⟨_, rfl⟩ ((Below.refl _ _).alloc (Nat.le_refl _) _) (fun h => by cases h))
   generalize a.eval = ev at *
   go_simp
  | 13, ho =>
   obtain rfl := Option.some.inj ho
   have e1 : a.eval (.tmp 1) = .pointer (some ⟨w.heap.size, 0, none⟩) := hnn 1 rfl
   refine qz2 (v := .pointer (some ⟨w.heap.size, 4, none⟩)) (w' := W) ?_ (hK _ _ rfl (Below.refl _ _) (fun h => by cases h))
   generalize a.eval = ev at *
   go_simp
  | 14, ho =>
   obtain rfl := Option.some.inj ho
   have e1 : a.eval (.tmp 16) = .pointer (some ⟨w.heap.size, 4, none⟩) := hd ⟨13, .data⟩ (by simp) rfl 16 rfl
   refine qz2 (v := .slice a3 A.vers.length c3) (w' := W) ?_ (hK _ _ rfl (Below.refl _ _) (fun h => by cases h))
   generalize a.eval = ev at *
   go_simp
  | 15, ho =>
   obtain rfl := Option.some.inj ho
   obtain ⟨g, e1⟩ := (show ∃ g, a.eval (.tmp 15) = .slice (some ⟨g, 0, none⟩) 0 0 from hd ⟨12, .data⟩ (by simp) rfl 15 rfl)
   have e2 : a.eval (.tmp 17) = .slice a3 A.vers.length c3 := hd ⟨14, .data⟩ (by simp) rfl 17 rfl
   obtain ⟨i0, hi, hzr, hsz, hby⟩ := info_parts qza8
   obtain ⟨cap, w', hrun, how, hbl, hlt⟩ := qz52 (P := Try.prog) W (w.heap.size + 2) 36 36 62 i0 _ 5 40 Try.underlying36 hi hzr hsz hby rfl (by decide) g B _ A.vers.length (qzq vrC A.vers) IW.r hr (by rw [qz2h (sz := 5) (fun _ => rfl)]) (qz3l qzb5 A.vers) (by unfold maxLen; omega) (by omega) (by omega)
   refine qz2 (v := .slice (some ⟨W.heap.size, 0, none⟩) A.vers.length cap) (w' := w') ?_ (hK _ _ how hbl (fun h => by cases h))
   generalize a.eval = ev at *
   simp [execOp, resolve, invoke, builtin, e1, e2, hrun, Result.andThen]
  | n + 16, ho => omega
 case final =>
  intro vs W hb hG hD
  have g1 : vs 1 = .int .i64 A.camera := hG 1 (by decide)
  have g4 : W.ownsRow (w.heap.size + 2) 2 1 (vs 4) A.slots.length (qzq intC A.slots) := hG 4 (by decide)
  have g7 : W.ownsRow (w.heap.size + 2) 2 1 (vs 7) A.guides.length (qzq intC A.guides) := hG 7 (by decide)
  have g11 : W.ownsRow (w.heap.size + 2) 96 3 (vs 11) A.nodes.length (qzq ndC A.nodes) := hG 11 (by decide)
  have g15 : W.ownsRow (w.heap.size + 2) 62 5 (vs 15) A.vers.length (qzq vrC A.vers) := hG 15 (by decide)
  have hne : ∀ b, (vs 4).ownBlock = some b -> (vs 7).ownBlock ≠ some b := fun b h => by
   have := hD 4 7 b (by decide) (by decide) (by decide) rfl rfl (by rw [qz3w g4]; exact h)
   rw [qz3w g7] at this
   exact this
  have OW : qz38 (w.heap.size + 2) W (vs 4) (vs 7) (vs 11) (vs 15) A := ⟨g4, g7, g11, g15, hne⟩
  have FW := qz6 F0 hb (by omega)
  have KW := K0.trans (hb.mono (by omega))
  generalize hl : laid _ vs _ _ _ = A'
  have hA' : A' = { tmps := #[.agg #[.int .i64 A.camera, .slice a0 A.slots.length c0, .slice a1 A.guides.length c1, .slice a2 A.nodes.length c2, .slice a3 A.vers.length c3], .pointer (some ⟨w.heap.size, 0, none⟩), .pointer (some ⟨w.heap.size + 1, 0, none⟩), vs 0, vs 1, vs 2, vs 3, vs 4, vs 5, vs 6, vs 7, vs 8, vs 9, vs 10, vs 11, vs 12, vs 13, vs 14, vs 15, undef], defers := [] } := by
   rw [<- hl]
   kernel_rfl
  subst hA'
  rw [g1]
  obtain ⟨sa, sc, es⟩ := qzk g4
  obtain ⟨ga, gc, eg⟩ := qzk g7
  obtain ⟨na, nc, en⟩ := qzk g11
  obtain ⟨ra, rc, er⟩ := qzk g15
  rw [es, eg, en, er] at OW ⊢
  clear hl hG hD g1 g4 g7 g11 g15 hne es eg en er X0 F0 I0 K0
  have OF : qz38 w.heap.size (W.setCells (w.heap.size + 1) 0 [.int .i64 A.camera, .slice sa A.slots.length sc, .slice ga A.guides.length gc, .slice na A.nodes.length nc, .slice ra A.vers.length rc]) (.slice sa A.slots.length sc) (.slice ga A.guides.length gc) (.slice na A.nodes.length nc) (.slice ra A.vers.length rc) A := (OW.only (qz8 (w.heap.size + 1) _ 0 W) (by omega)).lo (by omega)
  have KF := Below.setCells (B := w.heap.size) (b := w.heap.size + 1) (by omega) [.int .i64 A.camera, .slice sa A.slots.length sc, .slice ga A.guides.length gc, .slice na A.nodes.length nc, .slice ra A.vers.length rc] 0 _ KW
  go_wp2_with (refine wpList_store_mid rfl 38 (.tmp 2) (.tmp 19) rfl (w.heap.size + 1) 0 #[.int .i64 A.camera, .slice sa A.slots.length sc, .slice ga A.guides.length gc, .slice na A.nodes.length nc, .slice ra A.vers.length rc] ?hx ?hy ?ht ?hi ?h1 ?_)
  case hx => rfl
  case hy => rfl
  case ht => exact FW
  case hi => exact qz2q
  case h1 => simp [Value.oneCell']
  refine bodyPost_ret (v := .agg #[.int .i64 A.camera, .slice sa A.slots.length sc, .slice ga A.guides.length gc, .slice na A.nodes.length nc, .slice ra A.vers.length rc]) ?_ rfl ⟨_, _, _, _, rfl, OF, KF⟩
  exact qz5 Try.results106 _ _ (w.heap.size + 1) 0 rfl [.int .i64 A.camera, .slice sa A.slots.length sc, .slice ga A.guides.length gc, .slice na A.nodes.length nc, .slice ra A.vers.length rc] _ (World.rangeAt_setCells_same _ _ _ _ FW) Try.underlying38 rfl qz2q
end
section
attribute [local go_sem ↓] Go.wp_at_zero Go.wp_at_succ
theorem qz80 {w : World} {base : Nat} {e : TypeId} {sz : Nat} {g n cap : Nat} {xs : List Value} (h : w.ownsRow base e sz (.slice (some ⟨g, 0, none⟩) n cap) n xs) (k : Nat) (hk : k < n * sz) (u : Value) : (w.setCell ⟨g, k, none⟩ u).ownsRow base e sz (.slice (some ⟨g, 0, none⟩) n cap) n (xs.set k u) := by
 refine ⟨by rw [List.length_set]; exact h.1, ?_⟩
 rcases h.2 with ⟨h0, _⟩ | ⟨g', cap', cur, e1, hg, hh, hnc, hcm, hs, ht⟩
 ·cases h0
 ·cases e1
  obtain ⟨hlt, hk'⟩ := Array.getElem?_eq_some_iff.1 hh
  refine Or.inr ⟨g, cap, cur.setIfInBounds k u, rfl, hg, ?_, hnc, hcm, by simpa using hs, ?_⟩
  ·show (w.heap.modify g _)[g]? = _
   rw [Array.getElem?_eq_getElem (by rw [Array.size_modify]; exact hlt), Array.getElem_modify_self, hk']
   rfl
  ·rw [Array.toList_setIfInBounds, <- ht, List.take_set]
theorem qz33 {w : World} {base : Nat} {e : TypeId} {sz : Nat} {g n cap : Nat} {xs : List Value} (h : w.ownsRow base e sz (.slice (some ⟨g, 0, none⟩) n cap) n xs) (k : Nat) (u : Value) (hu : xs[k]? = some u) : w.cell? ⟨g, k, none⟩ = some u /\ w.frozen? ⟨g, k, none⟩ = false := by
 rcases h.2 with ⟨h0, _⟩ | ⟨g', cap', cur, e1, hg, hh, hnc, hcm, hs, ht⟩
 ·cases h0
 ·cases e1
  have hk : k < xs.length := by
   rcases Nat.lt_or_ge k xs.length with h' | h'
   ·exact h'
   ·rw [List.getElem?_eq_none h'] at hu; cases hu
  have h1 : cur.toList[k]? = some u := by
   rw [<- ht] at hu
   rw [List.getElem?_take] at hu
   split at hu
   ·exact hu
   ·cases hu
  constructor
  ·simp only [World.cell?, hh]
   simpa using h1
  ·simp [World.frozen?, hh]
theorem qz46 {α : Type} {f : α -> List Value} {sz : Nat} (hf : ∀ x, (f x).length = sz) : ∀ (l : List α) (i : Nat) (hi : i < l.length) (j : Nat) (hj : j < sz) (y : α) (u : Value), f y = (f l[i]).set j u -> qzq f (l.set i y) = (qzq f l).set (i * sz + j) u
 | x :: l, 0, _, j, hj, y, u, h => by
  simp only [List.set_cons_zero, qzq, List.flatMap_cons, Nat.zero_mul, Nat.zero_add]
  rw [List.set_append_left _ _ (by rw [hf]; exact hj)]
  simp only [List.getElem_cons_zero] at h
  rw [h]
 | x :: l, i + 1, hi, j, hj, y, u, h => by
  have ih := qz46 hf l i (by simpa using hi) j hj y u (by simpa using h)
  simp only [List.set_cons_succ, qzq, List.flatMap_cons] at ih ⊢
  rw [ih, List.set_append_right _ _ (by rw [hf, Nat.add_mul]; omega), hf]
  congr 2
  rw [Nat.add_mul]
  omega
def OwnB (s g n r : Value) (q : Nat) : Prop := s.ownBlock = some q ∨ g.ownBlock = some q ∨ n.ownBlock = some q ∨ r.ownBlock = some q
theorem qz2w {w : World} {base base' : Nat} {e e' : TypeId} {sz sz' : Nat} {v v' : Value} {n n' : Nat} {xs xs' : List Value} (h : w.ownsRow base e sz v n xs) (h' : w.ownsRow base' e' sz' v' n' xs') (hne : e ≠ e') (b : Nat) (hb : v.ownBlock = some b) : v'.ownBlock ≠ some b := by
 intro hb'
 rcases h.2 with ⟨rfl, _⟩ | ⟨g, cap, cur, rfl, _, hh, _⟩
 ·cases hb
 ·rcases h'.2 with ⟨rfl, _⟩ | ⟨g', cap', cur', rfl, _, hh', _⟩
  ·cases hb'
  ·simp [Value.ownBlock] at hb hb'
   subst hb
   subst hb'
   rw [hh] at hh'
   simp at hh'
   exact hne hh'.2
theorem qz1z {w w' : World} {S : Nat -> Prop} {base : Nat} {e : TypeId} {sz : Nat} {v : Value} {n : Nat} {xs : List Value} (h : w.ownsRow base e sz v n xs) (hb : But S w w') (hv : ∀ j, v.ownBlock = some j -> ¬ S j) : w'.ownsRow base e sz v n xs := by
 have hlt := fun j e => qz2m h (j := j) e
 refine ⟨h.1, ?_⟩
 rcases h.2 with h0 | ⟨g, cap, cur, rfl, hg, hh, rest⟩
 ·exact Or.inl h0
 ·exact Or.inr ⟨g, cap, cur, rfl, hg, (hb.block g (hlt g rfl) (hv g rfl)).trans hh, rest⟩
theorem qz38.lt {base : Nat} {w : World} {s g n r : Value} {A : Ar} (O : qz38 base w s g n r A) (q : Nat) (h : OwnB s g n r q) : q < w.heap.size := by
 rcases h with h | h | h | h
 ·exact qz2m O.rs h
 ·exact qz2m O.rg h
 ·exact qz2m O.rn h
 ·exact qz2m O.rr h
theorem qz38.kept {base : Nat} {w w' : World} {S : Nat -> Prop} {s g n r : Value} {A : Ar} (O : qz38 base w s g n r A) (hb : But S w w') (hv : ∀ q, OwnB s g n r q -> ¬ S q) : qz38 base w' s g n r A :=
 ⟨qz1z O.rs hb (fun j e => hv j (Or.inl e)), qz1z O.rg hb (fun j e => hv j (Or.inr (Or.inl e))), qz1z O.rn hb (fun j e => hv j (Or.inr (Or.inr (Or.inl e)))), qz1z O.rr hb (fun j e => hv j (Or.inr (Or.inr (Or.inr e)))), O.ne⟩
def qz1d (z : Int) (A : Ar) (node v next : Int) (gone : Bool) (kind : Int) : Ar × Int :=
 if z <= (A.vers.length : Int) then (A, -2)
 else if (ndOf A node).head ≠ v then (A, -1)
 else ({ A with vers := A.vers ++ [⟨next, gone, -1, v, kind⟩], nodes := A.nodes.set node.toNat { ndOf A node with head := (A.vers.length : Int) } }, (A.vers.length : Int))
structure qz2b (base : Nat) (w w' : World) (s g n r s' g' n' r' : Value) (A : Ar) : Prop where
 own : qz38 base w' s' g' n' r' A
 but : But (OwnB s g n r) w w'
 blk : ∀ q, OwnB s' g' n' r' q -> OwnB s g n r q ∨ w.heap.size <= q
theorem qz61 (base : Nat) (A : Ar) (x y z u : Int) (node v next : Int) (gone : Bool) (kind : Int) (s g n r : Value) (w : World) (hbase : base <= w.heap.size) (hA : A.size <= 1048576) (O : qz38 base w s g n r A) (hn0 : 0 <= node) (hn1 : node < (A.nodes.length : Int)) :
  Calls Try.prog 118 #[.agg #[.int .i64 x, .int .i64 y, .int .i64 z, .int .i64 u], .agg #[.int .i64 A.camera, s, g, n, r], .int .i64 node, .int .i64 v, .int .i64 next, .bool gone, .int .i64 kind] w fun e w' => ∃ s' g' n' r', e = .returned (.tuple #[.agg #[.int .i64 A.camera, s', g', n', r'], .int .i64 (qz1d z A node v next gone kind).2]) /\ qz2b base w w' s g n r s' g' n' r' (qz1d z A node v next gone kind).1 := by
 unfold Ar.size at hA
 have P0 := ((qz1t w x y z u 25).below ((Below.refl _ _).alloc (Nat.le_refl _) (.cells #[.int .i64 A.camera, s, g, n, r] 38)) (by simp)).below ((Below.refl _ _).alloc (Nat.le_refl _) (.cells #[.int .i64 0, .slice none 0 0, .slice none 0 0, .slice none 0 0, .slice none 0 0] 38)) (by simp; omega)
 have X0 := World.rangeAt_alloc (qzd (w.alloc (.cells #[.int .i64 x, .int .i64 y, .int .i64 z, .int .i64 u] 25)) [.int .i64 A.camera, s, g, n, r] 38) (.cells #[.int .i64 0, .slice none 0 0, .slice none 0 0, .slice none 0 0, .slice none 0 0] 38)
 have G0 := World.there_alloc (qzh (w.alloc (.cells #[.int .i64 x, .int .i64 y, .int .i64 z, .int .i64 u] 25)) #[.int .i64 A.camera, s, g, n, r] 38 5 (by simp)) (.cells #[.int .i64 0, .slice none 0 0, .slice none 0 0, .slice none 0 0, .slice none 0 0] 38)
 have F0 := qzh ((w.alloc (.cells #[.int .i64 x, .int .i64 y, .int .i64 z, .int .i64 u] 25)).alloc (.cells #[.int .i64 A.camera, s, g, n, r] 38)) #[.int .i64 0, .slice none 0 0, .slice none 0 0, .slice none 0 0, .slice none 0 0] 38 5 (by decide)
 have K0 := (((Below.refl w.heap.size w).alloc (Nat.le_refl _) (.cells #[.int .i64 x, .int .i64 y, .int .i64 z, .int .i64 u] 25)).alloc (by simp) (.cells #[.int .i64 A.camera, s, g, n, r] 38)).alloc (by simp; omega) (.cells #[.int .i64 0, .slice none 0 0, .slice none 0 0, .slice none 0 0, .slice none 0 0] 38)
 have hz0 : w.heap.size + 1 + 1 < (((w.alloc (.cells #[.int .i64 x, .int .i64 y, .int .i64 z, .int .i64 u] 25)).alloc (.cells #[.int .i64 A.camera, s, g, n, r] 38)).alloc (.cells #[.int .i64 0, .slice none 0 0, .slice none 0 0, .slice none 0 0, .slice none 0 0] 38)).heap.size := by simp
 simp only [World.size_alloc] at X0 G0 F0
 obtain ⟨sa, sc, rfl⟩ := qzk O.rs
 obtain ⟨ga, gc, rfl⟩ := qzk O.rg
 have hnp : 0 < A.nodes.length := by omega
 obtain ⟨nb, nc, rfl⟩ := qz19 O.rn hnp
 obtain ⟨ra, rc, rfl⟩ := qzk O.rr
 have O0 := O.below K0
 obtain ⟨k, rfl⟩ : ∃ k : Nat, node = k := ⟨node.toNat, by omega⟩
 have hk : k < A.nodes.length := by omega
 have hk' : (k : Int) < (A.nodes.length : Int) := by omega
 have hk0 : (0 : Int) <= (k : Int) := by omega
 have hnd : ndOf A (k : Int) = A.nodes[k] := qz24 A k hk
 have hnb := qz1l O.rn (j := nb) rfl
 have hnl := qz2m O.rn (j := nb) rfl
 have c2 := qz33 O0.rn (k * 3 + 2) (.int .i64 A.nodes[k].head) (by rw [qz1q (sz := 3) (fun _ => rfl) A.nodes k hk 2 (by omega)]; rfl)
 go_enter Try.func118, Try.ntmps118
 have tok : True := trivial
 go_wp2_with (clear tok; refine qz2e (((w.alloc (.cells #[.int .i64 x, .int .i64 y, .int .i64 z, .int .i64 u] 25)).alloc (.cells #[.int .i64 A.camera, .slice sa A.slots.length sc, .slice ga A.guides.length gc, .slice (some ⟨nb, 0, none⟩) A.nodes.length nc, .slice ra A.vers.length rc] 38)).alloc (.cells #[.int .i64 0, .slice none 0 0, .slice none 0 0, .slice none 0 0, .slice none 0 0] 38)) ?_)
 generalize hw0 : ((w.alloc (.cells #[.int .i64 x, .int .i64 y, .int .i64 z, .int .i64 u] 25)).alloc (.cells #[.int .i64 A.camera, .slice sa A.slots.length sc, .slice ga A.guides.length gc, .slice (some ⟨nb, 0, none⟩) A.nodes.length nc, .slice ra A.vers.length rc] 38)).alloc (.cells #[.int .i64 0, .slice none 0 0, .slice none 0 0, .slice none 0 0, .slice none 0 0] 38) = w0 at *
 show wpList _ _ _ _ _ w0
 clear hw0
 obtain ⟨p0, p1, p2, p3⟩ := P0
 obtain ⟨x0, x1, x2, x3, x4⟩ := row5 X0
 obtain ⟨c2, c2f⟩ := c2
 by_cases hfull : z <= (A.vers.length : Int)
 case pos =>
  have hv : Hid (qz1d z A (k : Int) v next gone kind = (A, -2)) := by show _ = _; simp [qz1d, hfull]
  have OF := O0.kept (S := fun q => q = w.heap.size + 1 + 1) (But.of_only (qz8 (w.heap.size + 1 + 1) [.int .i64 A.camera, .slice sa A.slots.length sc, .slice ga A.guides.length gc, .slice (some ⟨nb, 0, none⟩) A.nodes.length nc, .slice ra A.vers.length rc] 0 w0) rfl) (fun q hq => by have := O.lt q hq; omega)
  have KF := Below.setCells (B := w.heap.size) (b := w.heap.size + 1 + 1) (by omega) [.int .i64 A.camera, .slice sa A.slots.length sc, .slice ga A.guides.length gc, .slice (some ⟨nb, 0, none⟩) A.nodes.length nc, .slice ra A.vers.length rc] 0 _ K0
  go_wp2_with (refine wpList_store_mid rfl 38 (.tmp 14) _ rfl (w.heap.size + 1 + 1) 0 #[.int .i64 A.camera, .slice sa A.slots.length sc, .slice ga A.guides.length gc, .slice (some ⟨nb, 0, none⟩) A.nodes.length nc, .slice ra A.vers.length rc] ?hx ?hy ?ht (by exact qz2q) (by simp [Value.oneCell']) ?_)
  case hx => rfl
  case hy => rfl
  case ht => exact F0
  refine bodyPost_ret (v := .tuple #[.agg #[.int .i64 A.camera, .slice sa A.slots.length sc, .slice ga A.guides.length gc, .slice (some ⟨nb, 0, none⟩) A.nodes.length nc, .slice ra A.vers.length rc], .int .i64 (-2)]) ?_ rfl ⟨_, _, _, _, by rw [hv.out], by rw [hv.out]; exact ⟨OF, But.of_below KF, fun q h => Or.inl h⟩⟩
  exact qzi Try.results118 _ _ (w.heap.size + 1 + 1) 0 rfl [.int .i64 A.camera, .slice sa A.slots.length sc, .slice ga A.guides.length gc, .slice (some ⟨nb, 0, none⟩) A.nodes.length nc, .slice ra A.vers.length rc] _ (World.rangeAt_setCells_same _ _ _ _ F0) Try.underlying38 rfl qz2q
 by_cases hh : A.nodes[k].head = v
 case neg =>
  have bh : (A.nodes[k].head == v) = false := by simp [hh]
  have bh' : (A.nodes[k].head != v) = true := by simp [hh]
  have hv : Hid (qz1d z A (k : Int) v next gone kind = (A, -1)) := by show _ = _; simp [qz1d, hfull, hnd, hh]
  have OF := O0.kept (S := fun q => q = w.heap.size + 1 + 1) (But.of_only (qz8 (w.heap.size + 1 + 1) [.int .i64 A.camera, .slice sa A.slots.length sc, .slice ga A.guides.length gc, .slice (some ⟨nb, 0, none⟩) A.nodes.length nc, .slice ra A.vers.length rc] 0 w0) rfl) (fun q hq => by have := O.lt q hq; omega)
  have KF := Below.setCells (B := w.heap.size) (b := w.heap.size + 1 + 1) (by omega) [.int .i64 A.camera, .slice sa A.slots.length sc, .slice ga A.guides.length gc, .slice (some ⟨nb, 0, none⟩) A.nodes.length nc, .slice ra A.vers.length rc] 0 _ K0
  go_wp2_with (refine wpList_store_mid rfl 38 (.tmp 14) _ rfl (w.heap.size + 1 + 1) 0 #[.int .i64 A.camera, .slice sa A.slots.length sc, .slice ga A.guides.length gc, .slice (some ⟨nb, 0, none⟩) A.nodes.length nc, .slice ra A.vers.length rc] ?hx2 ?hy2 ?ht2 (by exact qz2q) (by simp [Value.oneCell']) ?_)
  try (case hx2 => rfl)
  try (case hy2 => rfl)
  try (case ht2 => exact F0)
  refine bodyPost_ret (v := .tuple #[.agg #[.int .i64 A.camera, .slice sa A.slots.length sc, .slice ga A.guides.length gc, .slice (some ⟨nb, 0, none⟩) A.nodes.length nc, .slice ra A.vers.length rc], .int .i64 (-1)]) ?_ rfl ⟨_, _, _, _, by rw [hv.out], by rw [hv.out]; exact ⟨OF, But.of_below KF, fun q h => Or.inl h⟩⟩
  exact qzi Try.results118 _ _ (w.heap.size + 1 + 1) 0 rfl [.int .i64 A.camera, .slice sa A.slots.length sc, .slice ga A.guides.length gc, .slice (some ⟨nb, 0, none⟩) A.nodes.length nc, .slice ra A.vers.length rc] _ (World.rangeAt_setCells_same _ _ _ _ F0) Try.underlying38 rfl qz2q
 subst hh
 have hv : Hid (qz1d z A (k : Int) A.nodes[k].head next gone kind = ({ A with vers := A.vers ++ [⟨next, gone, -1, A.nodes[k].head, kind⟩], nodes := A.nodes.set k { A.nodes[k] with head := (A.vers.length : Int) } }, (A.vers.length : Int))) := by show _ = _; simp [qz1d, hfull, hnd]
 obtain ⟨i0, hi, hzr, hsz, hby⟩ := info_parts qza8
 have f4 : w0.frozen? ⟨w.heap.size + 1, 4, none⟩ = false := by simpa using (G0 4 (by decide)).2
 have hrb : ∀ j, Value.ownBlock (.slice ra A.vers.length rc) = some j -> j < w.heap.size := fun j e => qz2m O.rr e
 have hnr : Value.ownBlock (.slice ra A.vers.length rc) ≠ some nb := qz2w O.rn O.rr (by decide) nb rfl
 have OR := O0.rr.alloc (.cells #[.int .i64 next, .bool gone, .int .i64 (-1), .int .i64 A.nodes[k].head, .int .i64 kind] 62)
 have news := qzd w0 (vrC ⟨next, gone, -1, A.nodes[k].head, kind⟩) 62
 go_upto_region 6 with fail
 go_wp2_with (at_builtin; refine wpList_append_own_at _ rfl _ _ 36 rfl base 62 i0 _ 5 40 Try.underlying36 hi hzr hsz hby rfl (by decide) _ _ _ rfl OR ⟨w0.heap.size, 0, none⟩ 1 1 (vrC ⟨next, gone, -1, A.nodes[k].head, kind⟩) rfl rfl ?n1 ?n2 ?n3 ?n4 ?n5 ?_)
 case n1 => exact fun j q hq => hq
 case n2 => exact qzb5 _
 case n3 => unfold maxLen; omega
 case n4 => omega
 case n5 => omega
 intro r2 w1 hown hgrow _ hat
 obtain ⟨ra2, rc2, rfl⟩ := qzk hown
 have hsA : (w0.alloc (.cells #[.int .i64 next, .bool gone, .int .i64 (-1), .int .i64 A.nodes[k].head, .int .i64 kind] 62)).heap.size = w0.heap.size + 1 := by simp
 have B01 : But (fun q => Value.ownBlock (.slice ra A.vers.length rc) = some q) w0 w1 := ⟨hgrow.os, hgrow.tape, hgrow.output, Nat.le_trans (by omega) hgrow.size, fun q hq hn => (hgrow.block q (by omega) (fun e => hn e.symm)).trans (Below.heap_alloc _ _ _ hq)⟩
 have far : ∀ b o, b < w0.heap.size -> Value.ownBlock (.slice ra A.vers.length rc) ≠ some b -> w1.cell? ⟨b, o, none⟩ = w0.cell? ⟨b, o, none⟩ := fun b o h1 h2 => B01.cell (p := ⟨b, o, none⟩) h1 h2
 have farf : ∀ b o, b < w0.heap.size -> Value.ownBlock (.slice ra A.vers.length rc) ≠ some b -> w1.frozen? ⟨b, o, none⟩ = w0.frozen? ⟨b, o, none⟩ := fun b o h1 h2 => B01.frozen (p := ⟨b, o, none⟩) h1 h2
 have hr1 : Value.ownBlock (.slice ra A.vers.length rc) ≠ some (w.heap.size + 1) := fun e => by have := hrb _ e; omega
 have hr2 : Value.ownBlock (.slice ra A.vers.length rc) ≠ some (w.heap.size + 1 + 1) := fun e => by have := hrb _ e; omega
 have y0 := (far (w.heap.size + 1) 0 (by omega) hr1).trans x0
 have y1 := (far (w.heap.size + 1) 1 (by omega) hr1).trans x1
 have y2 := (far (w.heap.size + 1) 2 (by omega) hr1).trans x2
 have y3 := (far (w.heap.size + 1) 3 (by omega) hr1).trans x3
 have y4 := (far (w.heap.size + 1) 4 (by omega) hr1).trans x4
 have z4 := (farf (w.heap.size + 1) 4 (by omega) hr1).trans f4
 have m2 := (far nb (k * 3 + 2) (by omega) hnr).trans c2
 have m2f := (farf nb (k * 3 + 2) (by omega) hnr).trans c2f
 have F1 : w1.there (w.heap.size + 1 + 1) 0 5 := B01.there F0 (by omega) hr2
 have e1 : ¬ (nb = w.heap.size + 1) := by omega
 have e2 : ¬ (w.heap.size + 1 = nb) := by omega
 have F3 : ((w1.setCell ⟨w.heap.size + 1, 4, none⟩ (.slice ra2 (A.vers.length + 1) rc2)).setCell ⟨nb, k * 3 + 2, none⟩ (.int .i64 (A.vers.length : Int))).there (w.heap.size + 1 + 1) 0 5 := qz4 (qz4 F1 _ _) _ _
 have B13 : But (fun q => q = w.heap.size + 1 ∨ q = nb ∨ q = w.heap.size + 1 + 1) w1 (((w1.setCell ⟨w.heap.size + 1, 4, none⟩ (.slice ra2 (A.vers.length + 1) rc2)).setCell ⟨nb, k * 3 + 2, none⟩ (.int .i64 (A.vers.length : Int))).setCells (w.heap.size + 1 + 1) 0 [.int .i64 A.camera, .slice sa A.slots.length sc, .slice ga A.guides.length gc, .slice (some ⟨nb, 0, none⟩) A.nodes.length nc, .slice ra2 (A.vers.length + 1) rc2]) :=
  (But.of_only ((Only.refl (w.heap.size + 1) w1).setCell (p := ⟨w.heap.size + 1, 4, none⟩) (Or.inl rfl) _) (Or.inl rfl)).trans ((But.of_only ((Only.refl nb _).setCell (p := ⟨nb, k * 3 + 2, none⟩) (Or.inl rfl) _) (Or.inr (Or.inl rfl))).trans (But.of_only (qz8 (w.heap.size + 1 + 1) _ 0 _) (Or.inr (Or.inr rfl))))
 have B03 : But (fun q => Value.ownBlock (.slice ra A.vers.length rc) = some q ∨ q = w.heap.size + 1 ∨ q = nb ∨ q = w.heap.size + 1 + 1) w0 (((w1.setCell ⟨w.heap.size + 1, 4, none⟩ (.slice ra2 (A.vers.length + 1) rc2)).setCell ⟨nb, k * 3 + 2, none⟩ (.int .i64 (A.vers.length : Int))).setCells (w.heap.size + 1 + 1) 0 [.int .i64 A.camera, .slice sa A.slots.length sc, .slice ga A.guides.length gc, .slice (some ⟨nb, 0, none⟩) A.nodes.length nc, .slice ra2 (A.vers.length + 1) rc2]) := (B01.mono (fun _ h => Or.inl h)).trans (B13.mono (fun _ h => Or.inr h))
 have hn1 := qz1z O0.rn B01 (fun j e => by simp [Value.ownBlock] at e; subst e; exact hnr)
 have hn2 := qz1z hn1 (But.of_only (S := fun q => q = w.heap.size + 1) ((Only.refl (w.heap.size + 1) w1).setCell (p := ⟨w.heap.size + 1, 4, none⟩) (Or.inl rfl) (.slice ra2 (A.vers.length + 1) rc2)) rfl) (fun j e => by simp [Value.ownBlock] at e; subst e; exact e1)
 have hn3 := qz80 hn2 (k * 3 + 2) (by omega) (.int .i64 (A.vers.length : Int))
 rw [<- qz46 (f := ndC) (sz := 3) (fun _ => rfl) A.nodes k hk 2 (by omega) { A.nodes[k] with head := (A.vers.length : Int) } (.int .i64 (A.vers.length : Int)) rfl] at hn3
 have hn4 := qz1z hn3 (But.of_only (S := fun q => q = w.heap.size + 1 + 1) (qz8 (w.heap.size + 1 + 1) [.int .i64 A.camera, .slice sa A.slots.length sc, .slice ga A.guides.length gc, .slice (some ⟨nb, 0, none⟩) A.nodes.length nc, .slice ra2 (A.vers.length + 1) rc2] 0 _) rfl) (fun j e => by simp [Value.ownBlock] at e; omega)
 have hr4 := qz1z hown B13 (fun j e => by
  rcases hat with h | h
  ·rw [h] at e
   have := hrb j e
   rintro (h1 | h1 | h1)
   ·omega
   ·subst h1; exact hnr e
   ·omega
  ·rw [h] at e
   simp only [Option.some.injEq] at e
   rintro (h1 | h1 | h1) <;> omega)
 have OF : qz38 base (((w1.setCell ⟨w.heap.size + 1, 4, none⟩ (.slice ra2 (A.vers.length + 1) rc2)).setCell ⟨nb, k * 3 + 2, none⟩ (.int .i64 (A.vers.length : Int))).setCells (w.heap.size + 1 + 1) 0 [.int .i64 A.camera, .slice sa A.slots.length sc, .slice ga A.guides.length gc, .slice (some ⟨nb, 0, none⟩) A.nodes.length nc, .slice ra2 (A.vers.length + 1) rc2]) (.slice sa A.slots.length sc) (.slice ga A.guides.length gc) (.slice (some ⟨nb, 0, none⟩) A.nodes.length nc) (.slice ra2 (A.vers.length + 1) rc2) { A with vers := A.vers ++ [⟨next, gone, -1, A.nodes[k].head, kind⟩], nodes := A.nodes.set k { A.nodes[k] with head := (A.vers.length : Int) } } := by
  refine ⟨qz1z O0.rs B03 ?_, qz1z O0.rg B03 ?_, by simpa using hn4, by simpa [qz2s] using hr4, O.ne⟩
  ·intro j e
   have h1 := qz2m O.rs e
   rintro (h2 | h2 | h2 | h2)
   ·exact qz2w O.rs O.rr (by decide) j e h2
   ·omega
   ·subst h2; exact qz2w O.rs O.rn (by decide) _ e rfl
   ·omega
  ·intro j e
   have h1 := qz2m O.rg e
   rintro (h2 | h2 | h2 | h2)
   ·exact qz2w O.rg O.rr (by decide) j e h2
   ·omega
   ·subst h2; exact qz2w O.rg O.rn (by decide) _ e rfl
   ·omega
 have BF : But (OwnB (.slice sa A.slots.length sc) (.slice ga A.guides.length gc) (.slice (some ⟨nb, 0, none⟩) A.nodes.length nc) (.slice ra A.vers.length rc)) w (((w1.setCell ⟨w.heap.size + 1, 4, none⟩ (.slice ra2 (A.vers.length + 1) rc2)).setCell ⟨nb, k * 3 + 2, none⟩ (.int .i64 (A.vers.length : Int))).setCells (w.heap.size + 1 + 1) 0 [.int .i64 A.camera, .slice sa A.slots.length sc, .slice ga A.guides.length gc, .slice (some ⟨nb, 0, none⟩) A.nodes.length nc, .slice ra2 (A.vers.length + 1) rc2]) :=
  ⟨B03.os.trans K0.os, B03.tape.trans K0.tape, B03.output.trans K0.output, Nat.le_trans K0.size B03.size, fun q hq hn => (B03.block q (by omega) (by
   rintro (h2 | h2 | h2 | h2)
   ·exact hn (Or.inr (Or.inr (Or.inr h2)))
   ·omega
   ·subst h2; exact hn (Or.inr (Or.inr (Or.inl rfl)))
   ·omega)).trans (K0.block q hq)⟩
 have LF : ∀ q, OwnB (.slice sa A.slots.length sc) (.slice ga A.guides.length gc) (.slice (some ⟨nb, 0, none⟩) A.nodes.length nc) (.slice ra2 (A.vers.length + 1) rc2) q -> OwnB (.slice sa A.slots.length sc) (.slice ga A.guides.length gc) (.slice (some ⟨nb, 0, none⟩) A.nodes.length nc) (.slice ra A.vers.length rc) q ∨ w.heap.size <= q := by
  rintro q (h | h | h | h)
  ·exact Or.inl (Or.inl h)
  ·exact Or.inl (Or.inr (Or.inl h))
  ·exact Or.inl (Or.inr (Or.inr (Or.inl h)))
  ·rcases hat with h' | h'
   ·rw [h'] at h; exact Or.inl (Or.inr (Or.inr (Or.inr h)))
   ·rw [h'] at h
    simp only [Option.some.injEq] at h
    exact Or.inr (by omega)
 clear x0 x1 x2 x3 x4 f4 c2 c2f far farf hown hgrow hat OR news B01 B03 B13 hn1 hn2 hn3 hn4 hr4 p0 p1 p2 p3
 go_wp2_with (refine wpList_store_mid rfl 38 (.tmp 14) _ rfl (w.heap.size + 1 + 1) 0 #[.int .i64 A.camera, .slice sa A.slots.length sc, .slice ga A.guides.length gc, .slice (some ⟨nb, 0, none⟩) A.nodes.length nc, .slice ra2 (A.vers.length + 1) rc2] ?hx3 ?hy3 ?ht3 (by exact qz2q) (by simp [Value.oneCell']) ?_)
 try (case hx3 => rfl)
 try (case hy3 => rfl)
 try (case ht3 => exact F3)
 refine bodyPost_ret (v := .tuple #[.agg #[.int .i64 A.camera, .slice sa A.slots.length sc, .slice ga A.guides.length gc, .slice (some ⟨nb, 0, none⟩) A.nodes.length nc, .slice ra2 (A.vers.length + 1) rc2], .int .i64 (A.vers.length : Int)]) ?_ rfl ⟨_, _, _, _, by rw [hv.out], by rw [hv.out]; exact ⟨OF, BF, LF⟩⟩
 exact qzi Try.results118 _ _ (w.heap.size + 1 + 1) 0 rfl [.int .i64 A.camera, .slice sa A.slots.length sc, .slice ga A.guides.length gc, .slice (some ⟨nb, 0, none⟩) A.nodes.length nc, .slice ra2 (A.vers.length + 1) rc2] _ (World.rangeAt_setCells_same _ _ _ _ F3) Try.underlying38 rfl qz2q
end
section
attribute [local go_sem ↓] Go.wp_at_zero Go.wp_at_succ
structure Hd where
 at_ : Int
 then_ : Int
 code : Int
 key : Int
 value : Int
 begin : Int
 reply : Int
 out : Int
 sum : Int
 held : Int
 x_ : Int
 ver : Int
 cam : Int
 camAt : Int
 pred : Int
 predVer : Int
 curr : Int
 currVer : Int
 new_ : Int
 least : Int
 index : Int
 round : Int
def hdC (h : Hd) : List Value := [.int .i64 h.at_, .int .i64 h.then_, .int .i64 h.code, .int .i64 h.key, .int .i64 h.value, .int .i64 h.begin, .int .i64 h.reply, .int .i64 h.out, .int .i64 h.sum, .int .i64 h.held, .int .i64 h.x_, .int .i64 h.ver, .int .i64 h.cam, .int .i64 h.camAt, .int .i64 h.pred, .int .i64 h.predVer, .int .i64 h.curr, .int .i64 h.currVer, .int .i64 h.new_, .int .i64 h.least, .int .i64 h.index, .int .i64 h.round]
theorem qz18 {P : Program} {ops : Array Oper} {rest : List Oper} {op : Oper} {a : Act} {w : World} {Q : Exit -> Act -> World -> Prop} (hw : Region.wanted op (yielded ops a.tmps) = true) (ty : TypeId) (x : Operand) (ho : op.op = .load ty x)
  (b o : Nat) (hx : a.eval x = .pointer (some ⟨b, o, none⟩)) (cs : List Value) (d : TypeDesc) (hc : w.rangeAt b o cs)
  (hu : P.underlying ty = some d) (hd : d.isRow = true) (hi : (P.info? ty).map (·.size) = some cs.length)
  (h : wpList P ops Q rest (a.put op.dst (.agg cs.toArray)) w) : wpList P ops Q (op :: rest) a w :=
 wpList_step fun K hK => by rw [if_pos hw]; exact wp_load_mid ty x ho b o hx cs d hc hu hd hi (hK _ _ h)
theorem qza (h : Hd) : (Try.prog.info? 27).map (fun i => i.size) = some (hdC h).toArray.size := by
 show _ = some 22
 kernel_rfl
theorem qz1 (h : Hd) : (Try.prog.info? 27).map (fun i => i.size) = some (hdC h).length := by
 show _ = some 22
 kernel_rfl
theorem qzf (h : Hd) : (hdC h).toArray.all (·.oneCell') = true := by simp [hdC, Value.oneCell']
def qz41 (y z : Int) (h : Hd) : Bool := inB h.x_ 0 (y - 1) && inB h.pred 0 (y - 1) && inB h.curr (-1) (y - 1) && inB h.new_ (-1) (y - 1) && inB h.ver 0 (z - 1) && inB h.predVer 0 (z - 1) && inB h.currVer 0 (z - 1)
def qz3s (h : Hd) : Bool := inB h.at_ 0 23 && inB h.then_ 0 7 && inB h.code 0 8 && inB h.reply 0 7 && inB h.key (-1) 63 && inB h.value 0 9999 && inB h.begin 0 20000 && inB h.camAt 0 20000 && inB h.round 0 20000 && inB h.out 0 1000000 && inB h.sum 0 1000000 && inB h.held (-1) 100 && inB h.cam 0 100 && inB h.least 0 100 && inB h.index 0 60
def qz3c (x y z u : Int) (h : Hd) : Bool := qz3o x y z u && qz41 y z h && qz3s h
theorem qz1g (n : Int) (w : World) : Calls Try.prog 102 #[.int .i64 n] w fun e w' => e = .returned (.bool (inB n 0 20000)) /\ w' = w := by
 go_enter Try.func102, Try.ntmps102
 go_wp2_with (go_at_call 43; refine (qzg _ _ _ _).mono ?_; rintro e w' ⟨rfl, hw⟩; obtain rfl := hw.symm)
 go_ret
 exact ⟨rfl, rfl⟩
theorem qz9j (x y z u : Int) (h : Hd) (w : World) (hy : 1 <= y /\ y <= 60) (hz : 1 <= z /\ z <= 400) :
  Calls Try.prog 101 #[.agg #[.int .i64 x, .int .i64 y, .int .i64 z, .int .i64 u], .agg (hdC h).toArray] w fun e w' => e = .returned (.bool (qz41 y z h)) /\ Below w.heap.size w w' := by
 show Calls Try.prog 101 #[.agg #[.int .i64 x, .int .i64 y, .int .i64 z, .int .i64 u], .agg #[.int .i64 h.at_, .int .i64 h.then_, .int .i64 h.code, .int .i64 h.key, .int .i64 h.value, .int .i64 h.begin, .int .i64 h.reply, .int .i64 h.out, .int .i64 h.sum, .int .i64 h.held, .int .i64 h.x_, .int .i64 h.ver, .int .i64 h.cam, .int .i64 h.camAt, .int .i64 h.pred, .int .i64 h.predVer, .int .i64 h.curr, .int .i64 h.currVer, .int .i64 h.new_, .int .i64 h.least, .int .i64 h.index, .int .i64 h.round]] w fun e w' => e = .returned (.bool (qz41 y z h)) /\ Below w.heap.size w w'
 have KK := ((Below.refl w.heap.size w).alloc (Nat.le_refl _) (.cells #[.int .i64 x, .int .i64 y, .int .i64 z, .int .i64 u] 25)).alloc (by simp) (.cells #[.int .i64 h.at_, .int .i64 h.then_, .int .i64 h.code, .int .i64 h.key, .int .i64 h.value, .int .i64 h.begin, .int .i64 h.reply, .int .i64 h.out, .int .i64 h.sum, .int .i64 h.held, .int .i64 h.x_, .int .i64 h.ver, .int .i64 h.cam, .int .i64 h.camAt, .int .i64 h.pred, .int .i64 h.predVer, .int .i64 h.curr, .int .i64 h.currVer, .int .i64 h.new_, .int .i64 h.least, .int .i64 h.index, .int .i64 h.round] 27)
 cases e0 : inB h.x_ 0 (y - 1)
 ·have hv : qz41 y z h = false := by simp only [qz41, e0, Bool.false_and]
  go_enter Try.func101, Try.ntmps101
  go_wp2_with (go_at_call 43; refine (qzg _ _ _ _).mono ?_; rintro e w' ⟨rfl, hw⟩; obtain rfl := hw.symm)
  go_ret
  exact ⟨by rw [hv]; rfl, KK⟩
 cases e1 : inB h.pred 0 (y - 1)
 ·have hv : qz41 y z h = false := by simp only [qz41, e1, Bool.false_and, Bool.and_false]
  go_enter Try.func101, Try.ntmps101
  go_wp2_with (go_at_call 43; refine (qzg _ _ _ _).mono ?_; rintro e w' ⟨rfl, hw⟩; obtain rfl := hw.symm)
  go_ret
  exact ⟨by rw [hv]; rfl, KK⟩
 cases e2 : inB h.curr (-1) (y - 1)
 ·have hv : qz41 y z h = false := by simp only [qz41, e2, Bool.false_and, Bool.and_false]
  go_enter Try.func101, Try.ntmps101
  go_wp2_with (go_at_call 43; refine (qzg _ _ _ _).mono ?_; rintro e w' ⟨rfl, hw⟩; obtain rfl := hw.symm)
  go_ret
  exact ⟨by rw [hv]; rfl, KK⟩
 cases e3 : inB h.new_ (-1) (y - 1)
 ·have hv : qz41 y z h = false := by simp only [qz41, e3, Bool.false_and, Bool.and_false]
  go_enter Try.func101, Try.ntmps101
  go_wp2_with (go_at_call 43; refine (qzg _ _ _ _).mono ?_; rintro e w' ⟨rfl, hw⟩; obtain rfl := hw.symm)
  go_ret
  exact ⟨by rw [hv]; rfl, KK⟩
 cases e4 : inB h.ver 0 (z - 1)
 ·have hv : qz41 y z h = false := by simp only [qz41, e4, Bool.false_and, Bool.and_false]
  go_enter Try.func101, Try.ntmps101
  go_wp2_with (go_at_call 43; refine (qzg _ _ _ _).mono ?_; rintro e w' ⟨rfl, hw⟩; obtain rfl := hw.symm)
  go_ret
  exact ⟨by rw [hv]; rfl, KK⟩
 cases e5 : inB h.predVer 0 (z - 1)
 ·have hv : qz41 y z h = false := by simp only [qz41, e5, Bool.false_and, Bool.and_false]
  go_enter Try.func101, Try.ntmps101
  go_wp2_with (go_at_call 43; refine (qzg _ _ _ _).mono ?_; rintro e w' ⟨rfl, hw⟩; obtain rfl := hw.symm)
  go_ret
  exact ⟨by rw [hv]; rfl, KK⟩
 have hv : qz41 y z h = inB h.currVer 0 (z - 1) := by simp only [qz41, e0, e1, e2, e3, e4, e5, Bool.true_and]
 go_enter Try.func101, Try.ntmps101
 go_wp2_with (go_at_call 43; refine (qzg _ _ _ _).mono ?_; rintro e w' ⟨rfl, hw⟩; obtain rfl := hw.symm)
 go_ret
 exact ⟨by rw [hv]; rfl, KK⟩
theorem qzcv {w : World} {b : Nat} {h : Hd} (R : w.rangeAt b 0 (hdC h)) : w.cell? ⟨b, 0, none⟩ = some (.int .i64 h.at_) /\ w.cell? ⟨b, 1, none⟩ = some (.int .i64 h.then_) /\ w.cell? ⟨b, 2, none⟩ = some (.int .i64 h.code) /\ w.cell? ⟨b, 3, none⟩ = some (.int .i64 h.key) /\ w.cell? ⟨b, 4, none⟩ = some (.int .i64 h.value) /\ w.cell? ⟨b, 5, none⟩ = some (.int .i64 h.begin) /\ w.cell? ⟨b, 6, none⟩ = some (.int .i64 h.reply) /\ w.cell? ⟨b, 7, none⟩ = some (.int .i64 h.out) /\ w.cell? ⟨b, 8, none⟩ = some (.int .i64 h.sum) /\ w.cell? ⟨b, 9, none⟩ = some (.int .i64 h.held) /\ w.cell? ⟨b, 10, none⟩ = some (.int .i64 h.x_) /\ w.cell? ⟨b, 11, none⟩ = some (.int .i64 h.ver) /\ w.cell? ⟨b, 12, none⟩ = some (.int .i64 h.cam) /\ w.cell? ⟨b, 13, none⟩ = some (.int .i64 h.camAt) /\ w.cell? ⟨b, 14, none⟩ = some (.int .i64 h.pred) /\ w.cell? ⟨b, 15, none⟩ = some (.int .i64 h.predVer) /\ w.cell? ⟨b, 16, none⟩ = some (.int .i64 h.curr) /\ w.cell? ⟨b, 17, none⟩ = some (.int .i64 h.currVer) /\ w.cell? ⟨b, 18, none⟩ = some (.int .i64 h.new_) /\ w.cell? ⟨b, 19, none⟩ = some (.int .i64 h.least) /\ w.cell? ⟨b, 20, none⟩ = some (.int .i64 h.index) /\ w.cell? ⟨b, 21, none⟩ = some (.int .i64 h.round) := by
 refine ⟨?_, ?_, ?_, ?_, ?_, ?_, ?_, ?_, ?_, ?_, ?_, ?_, ?_, ?_, ?_, ?_, ?_, ?_, ?_, ?_, ?_, ?_⟩
 ·simpa using R 0 (.int .i64 h.at_) rfl
 ·simpa using R 1 (.int .i64 h.then_) rfl
 ·simpa using R 2 (.int .i64 h.code) rfl
 ·simpa using R 3 (.int .i64 h.key) rfl
 ·simpa using R 4 (.int .i64 h.value) rfl
 ·simpa using R 5 (.int .i64 h.begin) rfl
 ·simpa using R 6 (.int .i64 h.reply) rfl
 ·simpa using R 7 (.int .i64 h.out) rfl
 ·simpa using R 8 (.int .i64 h.sum) rfl
 ·simpa using R 9 (.int .i64 h.held) rfl
 ·simpa using R 10 (.int .i64 h.x_) rfl
 ·simpa using R 11 (.int .i64 h.ver) rfl
 ·simpa using R 12 (.int .i64 h.cam) rfl
 ·simpa using R 13 (.int .i64 h.camAt) rfl
 ·simpa using R 14 (.int .i64 h.pred) rfl
 ·simpa using R 15 (.int .i64 h.predVer) rfl
 ·simpa using R 16 (.int .i64 h.curr) rfl
 ·simpa using R 17 (.int .i64 h.currVer) rfl
 ·simpa using R 18 (.int .i64 h.new_) rfl
 ·simpa using R 19 (.int .i64 h.least) rfl
 ·simpa using R 20 (.int .i64 h.index) rfl
 ·simpa using R 21 (.int .i64 h.round) rfl
theorem qz5b (x y z u : Int) (h : Hd) (w : World) :
  Calls Try.prog 79 #[.agg #[.int .i64 x, .int .i64 y, .int .i64 z, .int .i64 u], .agg (hdC h).toArray] w fun e w' => e = .returned (.bool (qz3c x y z u h)) /\ Below w.heap.size w w' := by
 show Calls Try.prog 79 #[.agg #[.int .i64 x, .int .i64 y, .int .i64 z, .int .i64 u], .agg #[.int .i64 h.at_, .int .i64 h.then_, .int .i64 h.code, .int .i64 h.key, .int .i64 h.value, .int .i64 h.begin, .int .i64 h.reply, .int .i64 h.out, .int .i64 h.sum, .int .i64 h.held, .int .i64 h.x_, .int .i64 h.ver, .int .i64 h.cam, .int .i64 h.camAt, .int .i64 h.pred, .int .i64 h.predVer, .int .i64 h.curr, .int .i64 h.currVer, .int .i64 h.new_, .int .i64 h.least, .int .i64 h.index, .int .i64 h.round]] w fun e w' => e = .returned (.bool (qz3c x y z u h)) /\ Below w.heap.size w w'
 have P0 := (qz1t w x y z u 25).below ((Below.refl _ _).alloc (Nat.le_refl _) (.cells (hdC h).toArray 27)) (by simp)
 have X0 := qzd (w.alloc (.cells #[.int .i64 x, .int .i64 y, .int .i64 z, .int .i64 u] 25)) (hdC h) 27
 have K0 := ((Below.refl w.heap.size w).alloc (Nat.le_refl _) (.cells #[.int .i64 x, .int .i64 y, .int .i64 z, .int .i64 u] 25)).alloc (by simp) (.cells (hdC h).toArray 27)
 have hz0 : w.heap.size + 1 < ((w.alloc (.cells #[.int .i64 x, .int .i64 y, .int .i64 z, .int .i64 u] 25)).alloc (.cells (hdC h).toArray 27)).heap.size := by simp
 simp only [World.size_alloc] at X0
 go_enter Try.func79, Try.ntmps79
 go_wp2_with fail
 change Calls Try.prog _ _ ((w.alloc (.cells #[.int .i64 x, .int .i64 y, .int .i64 z, .int .i64 u] 25)).alloc (.cells (hdC h).toArray 27)) _
 generalize hw0 : (w.alloc (.cells #[.int .i64 x, .int .i64 y, .int .i64 z, .int .i64 u] 25)).alloc (.cells (hdC h).toArray 27) = w0 at *
 clear hw0
 refine (qz1w _ _ _ _ _).mono ?_
 rintro e w1 ⟨rfl, b1⟩
 have P1 := P0.below b1 (by omega)
 have X1 := qz0 X0 b1 hz0
 have K1 := K0.trans (b1.mono (by omega))
 have hz1 := Nat.lt_of_lt_of_le hz0 b1.size
 clear P0 X0 K0 b1 hz0
 cases h1 : qz3o x y z u
 ·have hv : qz3c x y z u h = false := by simp only [qz3c, h1, Bool.false_and]
  go_wp2_with fail
  go_ret
  exact ⟨by rw [hv]; rfl, K1⟩
 have hpl := (qz28 x y z u).1 h1
 obtain ⟨p0, p1, p2, p3⟩ := id P1
 go_wp2_with (refine qz18 ?hw 27 (.tmp 3) rfl (w.heap.size + 1) 0 rfl (hdC h) _ ?hc Try.underlying27 rfl (qz1 h) ?_)
 try (case hw => rfl)
 case hc => exact X1
 refine (qz9j x y z u h _ hpl.2.1 hpl.2.2.1).mono ?_
 rintro e w2 ⟨rfl, b2⟩
 have X2 := qz0 X1 b2 hz1
 have K2 := K1.trans (b2.mono (by omega))
 clear P1 X1 K1 b2 p0 p1 p2 p3
 obtain ⟨x0, x1, x2, x3, x4, x5, x6, x7, x8, x9, x10, x11, x12, x13, x14, x15, x16, x17, x18, x19, x20, x21⟩ := qzcv X2
 clear X2 hpl
 cases h2 : qz41 y z h
 ·have hv : qz3c x y z u h = false := by simp only [qz3c, h2, Bool.false_and, Bool.and_false]
  go_wp2_with fail
  go_ret
  exact ⟨by rw [hv]; rfl, K2⟩
 cases e0 : inB h.at_ 0 23
 ·have hv : qz3c x y z u h = false := by simp only [qz3c, qz3s, e0, Bool.false_and, Bool.and_false]
  go_wp2_with (first | (go_at_call 43; refine (qzg _ _ _ _).mono ?_; rintro e w' ⟨rfl, hw⟩; obtain rfl := hw.symm) | (go_at_call 62; refine (qz16 _ _).mono ?_; rintro e w' ⟨rfl, hw⟩; obtain rfl := hw.symm) | (go_at_call 102; refine (qz1g _ _).mono ?_; rintro e w' ⟨rfl, hw⟩; obtain rfl := hw.symm))
  go_ret
  exact ⟨by rw [hv]; rfl, K2⟩
 cases e1 : inB h.then_ 0 7
 ·have hv : qz3c x y z u h = false := by simp only [qz3c, qz3s, e1, Bool.false_and, Bool.and_false]
  go_wp2_with (first | (go_at_call 43; refine (qzg _ _ _ _).mono ?_; rintro e w' ⟨rfl, hw⟩; obtain rfl := hw.symm) | (go_at_call 62; refine (qz16 _ _).mono ?_; rintro e w' ⟨rfl, hw⟩; obtain rfl := hw.symm) | (go_at_call 102; refine (qz1g _ _).mono ?_; rintro e w' ⟨rfl, hw⟩; obtain rfl := hw.symm))
  go_ret
  exact ⟨by rw [hv]; rfl, K2⟩
 cases e2 : inB h.code 0 8
 ·have hv : qz3c x y z u h = false := by simp only [qz3c, qz3s, e2, Bool.false_and, Bool.and_false]
  go_wp2_with (first | (go_at_call 43; refine (qzg _ _ _ _).mono ?_; rintro e w' ⟨rfl, hw⟩; obtain rfl := hw.symm) | (go_at_call 62; refine (qz16 _ _).mono ?_; rintro e w' ⟨rfl, hw⟩; obtain rfl := hw.symm) | (go_at_call 102; refine (qz1g _ _).mono ?_; rintro e w' ⟨rfl, hw⟩; obtain rfl := hw.symm))
  go_ret
  exact ⟨by rw [hv]; rfl, K2⟩
 cases e3 : inB h.reply 0 7
 ·have hv : qz3c x y z u h = false := by simp only [qz3c, qz3s, e3, Bool.false_and, Bool.and_false]
  go_wp2_with (first | (go_at_call 43; refine (qzg _ _ _ _).mono ?_; rintro e w' ⟨rfl, hw⟩; obtain rfl := hw.symm) | (go_at_call 62; refine (qz16 _ _).mono ?_; rintro e w' ⟨rfl, hw⟩; obtain rfl := hw.symm) | (go_at_call 102; refine (qz1g _ _).mono ?_; rintro e w' ⟨rfl, hw⟩; obtain rfl := hw.symm))
  go_ret
  exact ⟨by rw [hv]; rfl, K2⟩
 cases e4 : inB h.key (-1) 63
 ·have hv : qz3c x y z u h = false := by simp only [qz3c, qz3s, e4, Bool.false_and, Bool.and_false]
  go_wp2_with (first | (go_at_call 43; refine (qzg _ _ _ _).mono ?_; rintro e w' ⟨rfl, hw⟩; obtain rfl := hw.symm) | (go_at_call 62; refine (qz16 _ _).mono ?_; rintro e w' ⟨rfl, hw⟩; obtain rfl := hw.symm) | (go_at_call 102; refine (qz1g _ _).mono ?_; rintro e w' ⟨rfl, hw⟩; obtain rfl := hw.symm))
  go_ret
  exact ⟨by rw [hv]; rfl, K2⟩
 cases e5 : inB h.value 0 9999
 ·have hv : qz3c x y z u h = false := by simp only [qz3c, qz3s, e5, Bool.false_and, Bool.and_false]
  go_wp2_with (first | (go_at_call 43; refine (qzg _ _ _ _).mono ?_; rintro e w' ⟨rfl, hw⟩; obtain rfl := hw.symm) | (go_at_call 62; refine (qz16 _ _).mono ?_; rintro e w' ⟨rfl, hw⟩; obtain rfl := hw.symm) | (go_at_call 102; refine (qz1g _ _).mono ?_; rintro e w' ⟨rfl, hw⟩; obtain rfl := hw.symm))
  go_ret
  exact ⟨by rw [hv]; rfl, K2⟩
 cases e6 : inB h.begin 0 20000
 ·have hv : qz3c x y z u h = false := by simp only [qz3c, qz3s, e6, Bool.false_and, Bool.and_false]
  go_wp2_with (first | (go_at_call 43; refine (qzg _ _ _ _).mono ?_; rintro e w' ⟨rfl, hw⟩; obtain rfl := hw.symm) | (go_at_call 62; refine (qz16 _ _).mono ?_; rintro e w' ⟨rfl, hw⟩; obtain rfl := hw.symm) | (go_at_call 102; refine (qz1g _ _).mono ?_; rintro e w' ⟨rfl, hw⟩; obtain rfl := hw.symm))
  go_ret
  exact ⟨by rw [hv]; rfl, K2⟩
 cases e7 : inB h.camAt 0 20000
 ·have hv : qz3c x y z u h = false := by simp only [qz3c, qz3s, e7, Bool.false_and, Bool.and_false]
  go_wp2_with (first | (go_at_call 43; refine (qzg _ _ _ _).mono ?_; rintro e w' ⟨rfl, hw⟩; obtain rfl := hw.symm) | (go_at_call 62; refine (qz16 _ _).mono ?_; rintro e w' ⟨rfl, hw⟩; obtain rfl := hw.symm) | (go_at_call 102; refine (qz1g _ _).mono ?_; rintro e w' ⟨rfl, hw⟩; obtain rfl := hw.symm))
  go_ret
  exact ⟨by rw [hv]; rfl, K2⟩
 cases e8 : inB h.round 0 20000
 ·have hv : qz3c x y z u h = false := by simp only [qz3c, qz3s, e8, Bool.false_and, Bool.and_false]
  go_wp2_with (first | (go_at_call 43; refine (qzg _ _ _ _).mono ?_; rintro e w' ⟨rfl, hw⟩; obtain rfl := hw.symm) | (go_at_call 62; refine (qz16 _ _).mono ?_; rintro e w' ⟨rfl, hw⟩; obtain rfl := hw.symm) | (go_at_call 102; refine (qz1g _ _).mono ?_; rintro e w' ⟨rfl, hw⟩; obtain rfl := hw.symm))
  go_ret
  exact ⟨by rw [hv]; rfl, K2⟩
 cases e9 : inB h.out 0 1000000
 ·have hv : qz3c x y z u h = false := by simp only [qz3c, qz3s, e9, Bool.false_and, Bool.and_false]
  go_wp2_with (first | (go_at_call 43; refine (qzg _ _ _ _).mono ?_; rintro e w' ⟨rfl, hw⟩; obtain rfl := hw.symm) | (go_at_call 62; refine (qz16 _ _).mono ?_; rintro e w' ⟨rfl, hw⟩; obtain rfl := hw.symm) | (go_at_call 102; refine (qz1g _ _).mono ?_; rintro e w' ⟨rfl, hw⟩; obtain rfl := hw.symm))
  go_ret
  exact ⟨by rw [hv]; rfl, K2⟩
 cases e10 : inB h.sum 0 1000000
 ·have hv : qz3c x y z u h = false := by simp only [qz3c, qz3s, e10, Bool.false_and, Bool.and_false]
  go_wp2_with (first | (go_at_call 43; refine (qzg _ _ _ _).mono ?_; rintro e w' ⟨rfl, hw⟩; obtain rfl := hw.symm) | (go_at_call 62; refine (qz16 _ _).mono ?_; rintro e w' ⟨rfl, hw⟩; obtain rfl := hw.symm) | (go_at_call 102; refine (qz1g _ _).mono ?_; rintro e w' ⟨rfl, hw⟩; obtain rfl := hw.symm))
  go_ret
  exact ⟨by rw [hv]; rfl, K2⟩
 cases e11 : inB h.held (-1) 100
 ·have hv : qz3c x y z u h = false := by simp only [qz3c, qz3s, e11, Bool.false_and, Bool.and_false]
  go_wp2_with (first | (go_at_call 43; refine (qzg _ _ _ _).mono ?_; rintro e w' ⟨rfl, hw⟩; obtain rfl := hw.symm) | (go_at_call 62; refine (qz16 _ _).mono ?_; rintro e w' ⟨rfl, hw⟩; obtain rfl := hw.symm) | (go_at_call 102; refine (qz1g _ _).mono ?_; rintro e w' ⟨rfl, hw⟩; obtain rfl := hw.symm))
  go_ret
  exact ⟨by rw [hv]; rfl, K2⟩
 cases e12 : inB h.cam 0 100
 ·have hv : qz3c x y z u h = false := by simp only [qz3c, qz3s, e12, Bool.false_and, Bool.and_false]
  go_wp2_with (first | (go_at_call 43; refine (qzg _ _ _ _).mono ?_; rintro e w' ⟨rfl, hw⟩; obtain rfl := hw.symm) | (go_at_call 62; refine (qz16 _ _).mono ?_; rintro e w' ⟨rfl, hw⟩; obtain rfl := hw.symm) | (go_at_call 102; refine (qz1g _ _).mono ?_; rintro e w' ⟨rfl, hw⟩; obtain rfl := hw.symm))
  go_ret
  exact ⟨by rw [hv]; rfl, K2⟩
 cases e13 : inB h.least 0 100
 ·have hv : qz3c x y z u h = false := by simp only [qz3c, qz3s, e13, Bool.false_and, Bool.and_false]
  go_wp2_with (first | (go_at_call 43; refine (qzg _ _ _ _).mono ?_; rintro e w' ⟨rfl, hw⟩; obtain rfl := hw.symm) | (go_at_call 62; refine (qz16 _ _).mono ?_; rintro e w' ⟨rfl, hw⟩; obtain rfl := hw.symm) | (go_at_call 102; refine (qz1g _ _).mono ?_; rintro e w' ⟨rfl, hw⟩; obtain rfl := hw.symm))
  go_ret
  exact ⟨by rw [hv]; rfl, K2⟩
 have hv : qz3c x y z u h = inB h.index 0 60 := by simp only [qz3c, qz3s, h1, h2, e0, e1, e2, e3, e4, e5, e6, e7, e8, e9, e10, e11, e12, e13, Bool.true_and]
 go_wp2_with (first | (go_at_call 43; refine (qzg _ _ _ _).mono ?_; rintro e w' ⟨rfl, hw⟩; obtain rfl := hw.symm) | (go_at_call 62; refine (qz16 _ _).mono ?_; rintro e w' ⟨rfl, hw⟩; obtain rfl := hw.symm) | (go_at_call 102; refine (qz1g _ _).mono ?_; rintro e w' ⟨rfl, hw⟩; obtain rfl := hw.symm))
 go_ret
 exact ⟨by rw [hv]; rfl, K2⟩
end
end Go.Proofs.Ytclkglkhhnapiaa
