/-
  What the model says of versions (chapter 3), as contracts, told by plain functions. For every plan and every arena of at most 1048576 elements.
-/
import Derived.Test.YtcgjkodpmloccaaSpecArena
namespace Go.Proofs.Ytcgjkodpmloccaa
open Go.ChangeShapes Go.WideShapes Go.ChangeAt Go.RowKit
set_option linter.unusedVariables false
attribute [local go_sem ↓] Go.wp_at_zero Go.wp_at_succ

/-- A version by its number. -/
def vrOf (A : Ar) (v : Int) : Vr := A.vers.getD v.toNat ⟨-1, false, -1, -1, 0⟩
/-- A node by its number. -/
def ndOf (A : Ar) (n : Int) : Nd := A.nodes.getD n.toNat ⟨-1, 0, 0⟩
theorem vrOf_nat (A : Ar) (n : Nat) (h : n < A.vers.length) : vrOf A n = A.vers[n] := by simp [vrOf, h]
theorem ndOf_nat (A : Ar) (n : Nat) (h : n < A.nodes.length) : ndOf A n = A.nodes[n] := by simp [ndOf, h]
/-- Is a version there, and stamped? -/
def stampedB (A : Ar) (v : Int) : Bool := inB v 0 ((A.vers.length : Int) - 1) && ((vrOf A v).stamp != -1)
/-- Is the arena right, and the node there? -/
def hasB (x y z u : Int) (A : Ar) (n : Int) : Bool := arenaB x y z u A && inB n 0 ((A.nodes.length : Int) - 1)
def nowOf (x y z u : Int) (A : Ar) (n : Int) : Int := if hasB x y z u A n then (ndOf A n).head else -1

/-- Versions from one on, by their Prev, at most so many. -/
def chainF (A : Ar) : Nat → Int → List Int
  | 0, _ => []
  | f + 1, v => if v < 0 then [] else v :: chainF A f (vrOf A v).prev
def chain (A : Ar) (v : Int) : List Int := chainF A (v.toNat + 1) v
/-- Each Prev is below its own number. -/
def Falls (A : Ar) : Prop := ∀ i (h : i < A.vers.length), -1 ≤ A.vers[i].prev ∧ A.vers[i].prev < (i : Int)

theorem chainF_fuel {A : Ar} (F : Falls A) : ∀ (f : Nat) (v : Int), v < (f : Int) → v < (A.vers.length : Int) → chainF A f v = chain A v := by
  have key : ∀ (f g : Nat) (v : Int), v < (f : Int) → v < (g : Int) → v < (A.vers.length : Int) → chainF A f v = chainF A g v := by
    intro f
    induction f with
    | zero =>
      intro g v h1 h2 h3
      cases g with
      | zero => rfl
      | succ g => simp only [chainF]; rw [if_pos (by omega)]
    | succ f ih =>
      intro g v h1 h2 h3
      by_cases hv : v < 0
      · cases g with
        | zero => simp only [chainF]; rw [if_pos hv]
        | succ g => simp only [chainF]; rw [if_pos hv, if_pos hv]
      · obtain ⟨n, rfl⟩ : ∃ n : Nat, v = n := ⟨v.toNat, by omega⟩
        cases g with
        | zero => omega
        | succ g =>
          have hn : n < A.vers.length := by omega
          have := F n hn
          simp only [chainF]
          rw [if_neg hv, if_neg hv, vrOf_nat A n hn, ih g _ (by omega) (by omega) (by omega)]
  intro f v h1 h2
  exact key _ _ _ h1 (by omega) h2
theorem chain_neg (A : Ar) {v : Int} (h : v < 0) : chain A v = [] := by
  simp only [chain, chainF]
  rw [if_pos h]
theorem chain_nat {A : Ar} (F : Falls A) (n : Nat) (h : n < A.vers.length) : chain A n = (n : Int) :: chain A A.vers[n].prev := by
  have := F n h
  rw [chain, chainF, if_neg (by omega), vrOf_nat A n h, chainF_fuel F _ _ (by omega) (by omega)]

/-- The first version from v on that is stamped with at most st. -/
def seek (A : Ar) (st : Int) (v : Int) : Int := ((chain A v).find? fun k => !(decide ((vrOf A k).stamp < 0) || decide (st < (vrOf A k).stamp))).getD (-1)
theorem seek_neg (A : Ar) (st : Int) {v : Int} (h : v < 0) : seek A st v = -1 := by simp [seek, chain_neg A h]
theorem seek_hit {A : Ar} (F : Falls A) (st : Int) (n : Nat) (h : n < A.vers.length) (hs : (decide (A.vers[n].stamp < 0) || decide (st < A.vers[n].stamp)) = false) : seek A st n = n := by
  simp only [seek, chain_nat F n h]
  rw [List.find?_cons_of_pos (by rw [vrOf_nat A n h, hs]; rfl)]
  rfl
theorem seek_miss {A : Ar} (F : Falls A) (st : Int) (n : Nat) (h : n < A.vers.length) (hs : (decide (A.vers[n].stamp < 0) || decide (st < A.vers[n].stamp)) = true) : seek A st n = seek A st A.vers[n].prev := by
  simp only [seek, chain_nat F n h]
  rw [List.find?_cons_of_neg (by rw [vrOf_nat A n h, hs]; decide)]

def atOf (x y z u : Int) (A : Ar) (n st : Int) : Int := if hasB x y z u A n then seek A st (ndOf A n).head else -1
def versOf (x y z u : Int) (A : Ar) (n : Int) : List Int := if hasB x y z u A n then chain A (ndOf A n).head else []
def depthOf (x y z u : Int) (A : Ar) (n : Int) : Int := if hasB x y z u A n then ((chain A (ndOf A n).head).length : Int) else -1

theorem arenaB_parts {x y z u : Int} {A : Ar} (h : arenaB x y z u A = true) : headB x y z u A = true ∧ allIdx (fun _ v => inB v (-1) 100) A.slots = true ∧ allIdx (fun _ v => inB v 0 ((A.nodes.length : Int) - 1)) A.guides = true ∧ allIdx (nodeB A.vers.length) A.nodes = true ∧ allIdx (verB A.nodes.length A.camera) A.vers = true := by
  simp only [arenaB, Bool.and_eq_true] at h
  exact ⟨h.1.1.1.1, h.1.1.1.2, h.1.1.2, h.1.2, h.2⟩
theorem arenaB_falls {x y z u : Int} {A : Ar} (h : arenaB x y z u A = true) : Falls A := by
  intro i hi
  have := (allIdx_iff _ _).1 (arenaB_parts h).2.2.2.2 i hi
  simp only [verB, Bool.and_eq_true, inB_iff] at this
  omega
theorem arenaB_head {x y z u : Int} {A : Ar} (h : arenaB x y z u A = true) (n : Nat) (hn : n < A.nodes.length) : 0 ≤ A.nodes[n].head ∧ A.nodes[n].head < (A.vers.length : Int) := by
  have := (allIdx_iff _ _).1 (arenaB_parts h).2.2.2.1 n hn
  unfold nodeB at this
  split at this <;> (simp only [Bool.and_eq_true, inB_iff] at this; omega)

set_option maxRecDepth 100000 in
set_option maxHeartbeats 1000000 in
theorem specStamped_any (B : Nat) (A : Ar) (v : Int) (a0 a1 a2 a3 : Option Addr) (c0 c1 c2 c3 : Nat) (w : World) (hB : B ≤ w.heap.size) (hA : A.size ≤ 1048576) (I : ArenaIs B w (.slice a0 A.slots.length c0) (.slice a1 A.guides.length c1) (.slice a2 A.nodes.length c2) (.slice a3 A.vers.length c3) A) :
    Calls Try.prog 66 #[.agg #[.int .i64 A.camera, .slice a0 A.slots.length c0, .slice a1 A.guides.length c1, .slice a2 A.nodes.length c2, .slice a3 A.vers.length c3], .int .i64 v] w fun e w' => e = .returned (.bool (stampedB A v)) ∧ Below w.heap.size w w' := by
  unfold Ar.size at hA
  have X0 := rangeAt_new w [.int .i64 A.camera, .slice a0 A.slots.length c0, .slice a1 A.guides.length c1, .slice a2 A.nodes.length c2, .slice a3 A.vers.length c3] 28
  have K0 := (Below.refl w.heap.size w).alloc (Nat.le_refl _) (.cells #[.int .i64 A.camera, .slice a0 A.slots.length c0, .slice a1 A.guides.length c1, .slice a2 A.nodes.length c2, .slice a3 A.vers.length c3] 28)
  have hz0 : w.heap.size < (w.alloc (.cells #[.int .i64 A.camera, .slice a0 A.slots.length c0, .slice a1 A.guides.length c1, .slice a2 A.nodes.length c2, .slice a3 A.vers.length c3] 28)).heap.size := by simp
  obtain ⟨x0, x1, x2, x3, x4⟩ := row5 X0
  go_enter Try.func66, Try.ntmps66
  go_wp2_with fail
  refine (l2Ver_any _ _ _ _ _ _ _ _ _ (by omega)).mono ?_
  rintro e w1 ⟨rfl, b1⟩
  have X1 := rangeAt_below X0 b1 hz0
  have K1 := K0.trans (b1.mono (by omega))
  have I1 := I.below (K1.mono hB)
  have hz1 := Nat.lt_of_lt_of_le hz0 b1.size
  clear X0 K0 I b1 hz0 x0 x1 x2 x3 x4
  obtain ⟨x0, x1, x2, x3, x4⟩ := row5 X1
  cases hq : inB v 0 ((A.vers.length : Int) - 1)
  · have hv : stampedB A v = false := by simp [stampedB, hq]
    go_wp2
    go_ret
    exact ⟨by first | rfl | (rw [hv]; rfl), K1⟩
  · have hq' := (inB_iff _ _ _).1 hq
    obtain ⟨n, rfl⟩ : ∃ n : Nat, v = n := ⟨v.toNat, by omega⟩
    have hn : n < A.vers.length := by omega
    have hn' : (n : Int) < (A.vers.length : Int) := by omega
    have hn0 : (0 : Int) ≤ (n : Int) := by omega
    have hv : stampedB A n = (A.vers[n].stamp != -1) := by simp [stampedB, hq, vrOf_nat A n hn]
    obtain ⟨bb, off, rfl, hbb, R⟩ := SliceAt.at I1.r (by omega)
    have hc : w1.cell? ⟨bb, off + n * 5 + 2, none⟩ = some (.int .i64 A.vers[n].stamp) := (rangeAt_elem (sz := 5) (fun _ => rfl) R n hn) 2 _ rfl
    clear R hq'
    go_wp2
    go_ret
    exact ⟨by first | rfl | (rw [hv]; rfl), K1⟩

end Go.Proofs.Ytcgjkodpmloccaa
