/-
  Arenas as plain data, and how they lie in memory; the laws' own copies, sizes and comparisons of them, as contracts. For every arena of at most 1048576 elements.
-/
import Derived.Test.YtananefdghclfaaCore
import Derived.Test.YtananefdghclfaaRows2
import Derived.Deep.QuietTactic
import Derived.BigQuiet
import Derived.RegionTactic
import Derived.BigRegion
import Derived.Deep.RegionHeld3
import Derived.Deep.DrawnRows
import Derived.Deep.OwnRows
namespace Go.Proofs.Ytananefdghclfaa
open Go.ChangeShapes Go.WideShapes Go.ChangeAt Go.RowKit
set_option linter.unusedVariables false
attribute [local go_sem ↓] Go.wp_at_zero Go.wp_at_succ

structure Nd where
  key : Int
  value : Int
  head : Int
structure Vr where
  next : Int
  gone : Bool
  stamp : Int
  prev : Int
  kind : Int
structure Pr where
  key : Int
  value : Int
structure Ar where
  camera : Int
  slots : List Int
  guides : List Int
  nodes : List Nd
  vers : List Vr

def intC (n : Int) : List Value := [.int .i64 n]
def ndC (x : Nd) : List Value := [.int .i64 x.key, .int .i64 x.value, .int .i64 x.head]
def vrC (x : Vr) : List Value := [.int .i64 x.next, .bool x.gone, .int .i64 x.stamp, .int .i64 x.prev, .int .i64 x.kind]
def prC (x : Pr) : List Value := [.int .i64 x.key, .int .i64 x.value]

/-- A list of elements, as cells. -/
def cellsOf {α : Type} (f : α → List Value) (l : List α) : List Value := l.flatMap f

theorem cellsOf_length {α : Type} {f : α → List Value} {sz : Nat} (hf : ∀ x, (f x).length = sz) (l : List α) : (cellsOf f l).length = l.length * sz := by
  induction l with
  | nil => simp [cellsOf]
  | cons x l ih => simp only [cellsOf, List.flatMap_cons, List.length_append, List.length_cons] at ih ⊢; rw [ih, hf, Nat.add_mul]; omega

theorem cellsOf_snoc {α : Type} (f : α → List Value) (l : List α) (x : α) : cellsOf f (l ++ [x]) = cellsOf f l ++ f x := by simp [cellsOf]

/-- The cells of one element among the others'. -/
theorem cellsOf_at {α : Type} {f : α → List Value} {sz : Nat} (hf : ∀ x, (f x).length = sz) : ∀ (l : List α) (i : Nat) (hi : i < l.length) (j : Nat), j < sz → (cellsOf f l)[i * sz + j]? = (f l[i])[j]?
  | x :: l, 0, _, j, hj => by
    simp only [cellsOf, List.flatMap_cons, Nat.zero_mul, Nat.zero_add, List.getElem_cons_zero]
    rw [List.getElem?_append_left (by rw [hf]; exact hj)]
  | x :: l, i + 1, hi, j, hj => by
    have ih := cellsOf_at hf l i (by simpa using hi) j hj
    simp only [cellsOf, List.flatMap_cons, List.getElem_cons_succ] at ih ⊢
    rw [List.getElem?_append_right (by rw [hf, Nat.add_mul]; omega), hf, ← ih]
    congr 1
    rw [Nat.add_mul]
    omega

/-- A slice of len elements whose cells are cs; what it leads to lies below block B. -/
def SliceAt (B : Nat) (w : World) (v : Value) (len : Nat) (cs : List Value) : Prop :=
  ∃ a cap, v = .slice a len cap ∧ (len = 0 ∨ ∃ bb off, a = some ⟨bb, off, none⟩ ∧ bb < B ∧ w.rangeAt bb off cs)

theorem SliceAt.below {B : Nat} {w w' : World} {v : Value} {len : Nat} {cs : List Value} (h : SliceAt B w v len cs) (hb : Below B w w') : SliceAt B w' v len cs := by
  obtain ⟨a, cap, rfl, h⟩ := h
  refine ⟨a, cap, rfl, ?_⟩
  rcases h with h | ⟨bb, off, rfl, h1, h2⟩
  · exact Or.inl h
  · exact Or.inr ⟨bb, off, rfl, h1, rangeAt_below h2 hb h1⟩

theorem SliceAt.weaken {B B' : Nat} {w : World} {v : Value} {len : Nat} {cs : List Value} (h : SliceAt B w v len cs) (hB : B ≤ B') : SliceAt B' w v len cs := by
  obtain ⟨a, cap, rfl, h⟩ := h
  refine ⟨a, cap, rfl, ?_⟩
  rcases h with h | ⟨bb, off, rfl, h1, h2⟩
  · exact Or.inl h
  · exact Or.inr ⟨bb, off, rfl, by omega, h2⟩

/-- A row that grows by what is written behind it. -/
theorem rangeAt_snoc {w : World} {b o : Nat} {cs : List Value} (R : w.rangeAt b o cs) (h : (w.cell? ⟨b, o + cs.length, none⟩).isSome = true) (v : Value) : (w.setCell ⟨b, o + cs.length, none⟩ v).rangeAt b o (cs ++ [v]) := by
  intro j u hj
  by_cases e : j = cs.length
  · subst e
    simp at hj
    subst hj
    obtain ⟨x, hx⟩ := Option.isSome_iff_exists.1 h
    exact World.cell?_setCell_same _ _ _ hx
  · have hlt : j < cs.length := by
      rcases Nat.lt_or_ge j (cs ++ [v]).length with hl | hl
      · simp at hl; omega
      · rw [List.getElem?_eq_none hl] at hj; cases hj
    have hne : (⟨b, o + cs.length, none⟩ : Addr) ≠ ⟨b, o + j, none⟩ := by
      intro h'
      have := congrArg Addr.off h'
      simp at this
      omega
    refine (World.cell?_setCell_other _ _ _ _ hne).trans (R j u ?_)
    rw [List.getElem?_append_left hlt] at hj
    exact hj

theorem rangeAt_elem {α : Type} {f : α → List Value} {sz : Nat} (hf : ∀ x, (f x).length = sz) {w : World} {b o : Nat} {l : List α} (R : w.rangeAt b o (cellsOf f l)) (i : Nat) (hi : i < l.length) : w.rangeAt b (o + i * sz) (f l[i]) := by
  intro j v hj
  have hlt : j < sz := by
    rcases Nat.lt_or_ge j (f l[i]).length with h | h
    · rw [hf] at h; exact h
    · rw [List.getElem?_eq_none h] at hj; cases hj
  have := R (i * sz + j) v (by rw [cellsOf_at hf l i hi j hlt]; exact hj)
  rw [Nat.add_assoc]
  exact this

theorem rangeAt_grow {w : World} {b o : Nat} {cs vs : List Value} (R : w.rangeAt b o cs) (T : w.there b (o + cs.length) vs.length) : (w.setCells b (o + cs.length) vs).rangeAt b o (cs ++ vs) := by
  have h1 := World.rangeAt_setCells_apart R b (o + cs.length) vs (Or.inr (Or.inl (Nat.le_refl _)))
  have h2 := World.rangeAt_setCells_same w b (o + cs.length) vs T
  intro j v hj
  rcases Nat.lt_or_ge j cs.length with h | h
  · rw [List.getElem?_append_left h] at hj
    exact h1 j v hj
  · rw [List.getElem?_append_right h] at hj
    have := h2 (j - cs.length) v hj
    rw [show o + cs.length + (j - cs.length) = o + j by omega] at this
    exact this

theorem there_part {w : World} {b o n : Nat} (T : w.there b o n) (k m : Nat) (h : k + m ≤ n) : w.there b (o + k) m := by
  intro j hj
  have := T (k + j) (by omega)
  rw [← Nat.add_assoc] at this
  exact this

theorem infoI : (Try.prog.info? 2).map (fun i => (i.zero, i.size, i.bytes)) = some (some (.int .i64 0), 1, 8) := by kernel_rfl

theorem infoNode : (Try.prog.info? 88).map (fun i => (i.zero, i.size, i.bytes)) = some (some (.agg #[.int .i64 0, .int .i64 0, .int .i64 0]), 3, 24) := by kernel_rfl
theorem sizeNode (x : Nd) : (Try.prog.info? 88).map (fun i => i.size) = some (ndC x).toArray.size := by
  show _ = some 3
  kernel_rfl
theorem sizeNodeL (x : Nd) : (Try.prog.info? 88).map (fun i => i.size) = some (ndC x).length := by
  show _ = some 3
  kernel_rfl
theorem infoVer : (Try.prog.info? 54).map (fun i => (i.zero, i.size, i.bytes)) = some (some (.agg #[.int .i64 0, .bool false, .int .i64 0, .int .i64 0, .int .i64 0]), 5, 40) := by kernel_rfl
theorem sizeVer (x : Vr) : (Try.prog.info? 54).map (fun i => i.size) = some (vrC x).toArray.size := by
  show _ = some 5
  kernel_rfl
theorem sizeVerL (x : Vr) : (Try.prog.info? 54).map (fun i => i.size) = some (vrC x).length := by
  show _ = some 5
  kernel_rfl
/-- What is told of an arena's four lists, as they lie in memory. -/
structure ArenaIs (B : Nat) (w : World) (s g n r : Value) (A : Ar) : Prop where
  s : SliceAt B w s A.slots.length (cellsOf intC A.slots)
  g : SliceAt B w g A.guides.length (cellsOf intC A.guides)
  n : SliceAt B w n A.nodes.length (cellsOf ndC A.nodes)
  r : SliceAt B w r A.vers.length (cellsOf vrC A.vers)

def Ar.size (A : Ar) : Nat := A.slots.length + A.guides.length + A.nodes.length + A.vers.length

theorem ArenaIs.below {B : Nat} {w w' : World} {s g n r : Value} {A : Ar} (I : ArenaIs B w s g n r A) (hb : Below B w w') : ArenaIs B w' s g n r A :=
  ⟨I.s.below hb, I.g.below hb, I.n.below hb, I.r.below hb⟩
theorem ArenaIs.weaken {B B' : Nat} {w : World} {s g n r : Value} {A : Ar} (I : ArenaIs B w s g n r A) (hB : B ≤ B') : ArenaIs B' w s g n r A :=
  ⟨I.s.weaken hB, I.g.weaken hB, I.n.weaken hB, I.r.weaken hB⟩

theorem SliceAt.mk {w : World} {b len : Nat} {cs : List Value} (h : b < w.heap.size) (R : w.rangeAt b 0 cs) : SliceAt w.heap.size w (.slice (some ⟨b, 0, none⟩) len len) len cs :=
  ⟨_, _, rfl, Or.inr ⟨b, 0, rfl, h, R⟩⟩

/-- One cell of a row of five is written. -/
theorem rangeAt_set {w : World} {b : Nat} {cs : List Value} (R : w.rangeAt b 0 cs) (k : Nat) (hk : k < cs.length) (v : Value) : (w.setCell ⟨b, k, none⟩ v).rangeAt b 0 (cs.set k v) := by
  intro j u hj
  rw [Nat.zero_add]
  by_cases e : k = j
  · subst e
    rw [List.getElem?_set_self hk] at hj
    cases hj
    have := R k cs[k] (List.getElem?_eq_getElem hk)
    rw [Nat.zero_add] at this
    exact World.cell?_setCell_same _ _ _ this
  · rw [List.getElem?_set_ne e] at hj
    have := R j u hj
    rw [Nat.zero_add] at this
    exact (World.cell?_setCell_other _ _ _ _ (by simp)).trans this

theorem rangeAt_setCell_ne {w : World} {b o : Nat} {cs : List Value} (R : w.rangeAt b o cs) {a : Addr} (h : a.block ≠ b) (v : Value) : (w.setCell a v).rangeAt b o cs := by
  intro j u hj
  refine (World.cell?_setCell_other _ _ _ _ ?_).trans (R j u hj)
  intro e
  exact h (by rw [e])

theorem row5 {w : World} {b : Nat} {v0 v1 v2 v3 v4 : Value} (R : w.rangeAt b 0 [v0, v1, v2, v3, v4]) : w.cell? ⟨b, 0, none⟩ = some v0 ∧ w.cell? ⟨b, 1, none⟩ = some v1 ∧ w.cell? ⟨b, 2, none⟩ = some v2 ∧ w.cell? ⟨b, 3, none⟩ = some v3 ∧ w.cell? ⟨b, 4, none⟩ = some v4 := by
  refine ⟨?_, ?_, ?_, ?_, ?_⟩
  · simpa using R 0 v0 rfl
  · simpa using R 1 v1 rfl
  · simpa using R 2 v2 rfl
  · simpa using R 3 v3 rfl
  · simpa using R 4 v4 rfl

theorem PlanAt.lower {W w1 : World} {B b : Nat} {x y z u : Int} (h : PlanAt W b x y z u) (hb : Below B W w1) (hlt : b < B) : PlanAt w1 b x y z u := by
  obtain ⟨h0, h1, h2, h3⟩ := h
  exact ⟨(hb.cell (p := ⟨b, 0, none⟩) hlt).trans h0, (hb.cell (p := ⟨b, 1, none⟩) hlt).trans h1, (hb.cell (p := ⟨b, 2, none⟩) hlt).trans h2, (hb.cell (p := ⟨b, 3, none⟩) hlt).trans h3⟩

/-- A row in a block, which may be written. -/
structure RowAt (w : World) (b : Nat) (cs : List Value) (n : Nat) : Prop where
  row : w.rangeAt b 0 cs
  may : w.there b 0 n
theorem RowAt.below {w w' : World} {B b n : Nat} {cs : List Value} (h : RowAt w b cs n) (hb : Below B w w') (hB : b < B) : RowAt w' b cs n := ⟨rangeAt_below h.row hb hB, there_below h.may hb hB⟩
theorem RowAt.setCell_ne {w : World} {b n : Nat} {cs : List Value} (h : RowAt w b cs n) {a : Addr} (hne : a.block ≠ b) (v : Value) : RowAt (w.setCell a v) b cs n := ⟨rangeAt_setCell_ne h.row hne v, there_setCell h.may a v⟩
theorem RowAt.setCells_ne {w : World} {b n c o : Nat} {cs vs : List Value} (h : RowAt w b cs n) (hne : b ≠ c) : RowAt (w.setCells c o vs) b cs n := ⟨World.rangeAt_setCells_apart h.row _ _ _ (Or.inl hne), World.there_setCells h.may c o vs⟩

theorem infoAr : (Try.prog.info? 30).map (fun i => i.size) = some 5 := by kernel_rfl

end Go.Proofs.Ytananefdghclfaa
