/-
  Arenas that came in, opened: whatever an argument reads as, it is an arena as plain data. For every argument.
-/
import Derived.Test.YtknncnaikeinbaaArena
import Derived.Deep.Slices
namespace Go.Proofs.Ytknncnaikeinbaa
open Go.ChangeShapes Go.WideShapes Go.ChangeAt Go.RowKit Go.Deep
set_option linter.unusedVariables false

theorem cellsInt : Try.prog.cellsOf 2 = 1 := by kernel_rfl
theorem cellsBool : Try.prog.cellsOf 4 = 1 := by kernel_rfl

theorem rangeAt_of_elems {α : Type} {f : α → List Value} {sz : Nat} (hf : ∀ x, (f x).length = sz) {w : World} {b o : Nat} : ∀ (l : List α) (k : Nat), (∀ i (h : i < l.length), w.rangeAt b (o + (k + i) * sz) (f l[i])) → w.rangeAt b (o + k * sz) (cellsOf f l)
  | [], _, _ => by intro j v hj; simp [cellsOf] at hj
  | x :: l, k, h => by
    intro j v hj
    simp only [cellsOf, List.flatMap_cons] at hj
    rcases Nat.lt_or_ge j sz with hlt | hge
    · rw [List.getElem?_append_left (by rw [hf]; exact hlt)] at hj
      exact h 0 (by simp) j v (by simpa using hj)
    · rw [List.getElem?_append_right (by rw [hf]; exact hge), hf] at hj
      have ih := rangeAt_of_elems hf l (k + 1) (fun i hi => by have := h (i + 1) (by simpa using hi); rw [show k + (i + 1) = k + 1 + i by omega] at this; simpa using this) (j - sz) v hj
      rw [show o + (k + 1) * sz + (j - sz) = o + k * sz + j by rw [Nat.add_mul]; omega] at ih
      exact ih

/-- A list that came in: each element's cells are those of a plain datum. -/
theorem open_list {α : Type} [Inhabited α] {f : α → List Value} {sz : Nat} (hf : ∀ x, (f x).length = sz) (hsz : 0 < sz) {t e : TypeId} (ht : Try.prog.underlying t = some (.slice e)) (hc : Try.prog.cellsOf e = sz)
    {H : Type} {enc : TypeId × Value → H} {W : World} {base fuel : Nat} {spare : Nat → Bool} {held : Bool} {v : Value} {x : DataW H × List MemPlace}
    (dec : ∀ (n : Nat) (cs : List Value) (y : DataW H × List MemPlace), DataW.trod enc Try.prog W base spare held n e cs = some y → ∃ a, cs = f a) (h : DataW.trod enc Try.prog W base spare held fuel t [v] = some x) :
    ∃ (l : List α) (a : Option Addr) (cap : Nat), v = .slice a l.length cap ∧ l.length ≤ maxLen ∧ SliceAt W.heap.size W v l.length (cellsOf f l) := by
  rcases open_slice ht h with ⟨h0, _⟩ | ⟨a, len, cap, m, n, D, Pl, hv, hb, hl, hm, hmm, _, hx⟩
  · obtain rfl : v = .slice none 0 0 := by simpa using h0
    exact ⟨[], none, 0, rfl, by simp, none, 0, rfl, Or.inl rfl⟩
  · obtain rfl : v = .slice (some a) len cap := by simpa using hv
    have hlm : len ≤ m := by rw [hmm]; split <;> omega
    obtain ⟨A, hA⟩ := choose_lt (α := α) (n := len) (p := fun i z => W.cells? base (a.add (i * sz)) sz = some (f z)) (fun i hi => by
      obtain ⟨cs', h1, h2⟩ := hx i (by omega)
      obtain ⟨z, rfl⟩ := dec n cs' _ h2
      rw [hc] at h1
      exact ⟨z, h1⟩)
    have hlen : ((List.range len).map A).length = len := by simp
    refine ⟨(List.range len).map A, some a, cap, by rw [hlen], by rw [hlen]; omega, ?_⟩
    rw [hlen]
    refine ⟨some a, cap, rfl, ?_⟩
    rcases Nat.eq_zero_or_pos len with h0 | hpos
    · exact Or.inl h0
    · right
      obtain ⟨bb, off, spot⟩ := a
      obtain ⟨_, _, c0⟩ := World.cells?_some (hA 0 hpos)
      have c00 := c0 0 hsz
      rw [List.getElem?_eq_getElem (by rw [hf]; exact hsz)] at c00
      have hspot : spot = none := by simpa [Addr.add] using World.cell?_spot c00
      subst hspot
      refine ⟨bb, off, rfl, ?_, ?_⟩
      · have := World.block_lt_of_cell? W _ c00
        simpa [Addr.add_mid] using this
      · have R := rangeAt_of_elems hf (w := W) (b := bb) (o := off) ((List.range len).map A) 0 (fun i hi => by
          rw [hlen] at hi
          obtain ⟨_, _, ci⟩ := World.cells?_some (hA i hi)
          intro j u hj
          have hj2 : j < sz := by
            rcases Nat.lt_or_ge j (f (A i)).length with hl | hl
            · rw [hf] at hl; exact hl
            · simp only [List.getElem_map, List.getElem_range] at hj
              rw [List.getElem?_eq_none hl] at hj; cases hj
          have cj := ci j hj2
          simp only [List.getElem_map, List.getElem_range] at hj
          rw [hj] at cj
          rw [Addr.add_mid, Addr.add_mid] at cj
          simpa using cj)
        simpa using R

theorem list2 {α : Type} {l : List α} (h : l.length = 2) : ∃ c0 c1, l = [c0, c1] := by
  match l, h with
  | [c0, c1], _ => exact ⟨c0, c1, rfl⟩
theorem list3 {α : Type} {l : List α} (h : l.length = 3) : ∃ c0 c1 c2, l = [c0, c1, c2] := by
  match l, h with
  | [c0, c1, c2], _ => exact ⟨c0, c1, c2, rfl⟩
theorem list5 {α : Type} {l : List α} (h : l.length = 5) : ∃ c0 c1 c2 c3 c4, l = [c0, c1, c2, c3, c4] := by
  match l, h with
  | [c0, c1, c2, c3, c4], _ => exact ⟨c0, c1, c2, c3, c4, rfl⟩

set_option maxRecDepth 100000 in
theorem decNode {H : Type} {enc : TypeId × Value → H} {W : World} {base fuel : Nat} {spare : Nat → Bool} {held : Bool} {cs : List Value} {x : DataW H × List MemPlace} (h : DataW.trod enc Try.prog W base spare held fuel 59 cs = some x) : ∃ a : Nd, cs = ndC a := by
  obtain ⟨xs, m, _, _, hl, hlen, hf⟩ := DataW.trod_struct Try.underlying59 h
  obtain ⟨c0, c1, c2, rfl⟩ := list3 (hl.trans (show Try.prog.cellsOf 59 = 3 by kernel_rfl))
  have hx : xs.length = 3 := hlen
  have g0 := hf 0 _ rfl
  rw [List.getElem?_eq_getElem (by omega)] at g0
  have k0 : DataW.trod enc Try.prog W base spare held m 2 [c0] = some xs[0] := g0
  obtain ⟨v0, d0, _⟩ := DataW.trod_int Try.underlying2 k0
  obtain rfl : c0 = .int .i64 v0 := by simpa using d0
  have g1 := hf 1 _ rfl
  rw [List.getElem?_eq_getElem (by omega)] at g1
  have k1 : DataW.trod enc Try.prog W base spare held m 2 [c1] = some xs[1] := g1
  obtain ⟨v1, d1, _⟩ := DataW.trod_int Try.underlying2 k1
  obtain rfl : c1 = .int .i64 v1 := by simpa using d1
  have g2 := hf 2 _ rfl
  rw [List.getElem?_eq_getElem (by omega)] at g2
  have k2 : DataW.trod enc Try.prog W base spare held m 2 [c2] = some xs[2] := g2
  obtain ⟨v2, d2, _⟩ := DataW.trod_int Try.underlying2 k2
  obtain rfl : c2 = .int .i64 v2 := by simpa using d2
  exact ⟨⟨v0, v1, v2⟩, rfl⟩

set_option maxRecDepth 100000 in
theorem decVer {H : Type} {enc : TypeId × Value → H} {W : World} {base fuel : Nat} {spare : Nat → Bool} {held : Bool} {cs : List Value} {x : DataW H × List MemPlace} (h : DataW.trod enc Try.prog W base spare held fuel 63 cs = some x) : ∃ a : Vr, cs = vrC a := by
  obtain ⟨xs, m, _, _, hl, hlen, hf⟩ := DataW.trod_struct Try.underlying63 h
  obtain ⟨c0, c1, c2, c3, c4, rfl⟩ := list5 (hl.trans (show Try.prog.cellsOf 63 = 5 by kernel_rfl))
  have hx : xs.length = 5 := hlen
  have g0 := hf 0 _ rfl
  rw [List.getElem?_eq_getElem (by omega)] at g0
  have k0 : DataW.trod enc Try.prog W base spare held m 2 [c0] = some xs[0] := g0
  obtain ⟨v0, d0, _⟩ := DataW.trod_int Try.underlying2 k0
  obtain rfl : c0 = .int .i64 v0 := by simpa using d0
  have g1 := hf 1 _ rfl
  rw [List.getElem?_eq_getElem (by omega)] at g1
  have k1 : DataW.trod enc Try.prog W base spare held m 4 [c1] = some xs[1] := g1
  obtain ⟨v1, d1, _⟩ := DataW.trod_bool Try.underlying4 k1
  obtain rfl : c1 = .bool v1 := by simpa using d1
  have g2 := hf 2 _ rfl
  rw [List.getElem?_eq_getElem (by omega)] at g2
  have k2 : DataW.trod enc Try.prog W base spare held m 2 [c2] = some xs[2] := g2
  obtain ⟨v2, d2, _⟩ := DataW.trod_int Try.underlying2 k2
  obtain rfl : c2 = .int .i64 v2 := by simpa using d2
  have g3 := hf 3 _ rfl
  rw [List.getElem?_eq_getElem (by omega)] at g3
  have k3 : DataW.trod enc Try.prog W base spare held m 2 [c3] = some xs[3] := g3
  obtain ⟨v3, d3, _⟩ := DataW.trod_int Try.underlying2 k3
  obtain rfl : c3 = .int .i64 v3 := by simpa using d3
  have g4 := hf 4 _ rfl
  rw [List.getElem?_eq_getElem (by omega)] at g4
  have k4 : DataW.trod enc Try.prog W base spare held m 2 [c4] = some xs[4] := g4
  obtain ⟨v4, d4, _⟩ := DataW.trod_int Try.underlying2 k4
  obtain rfl : c4 = .int .i64 v4 := by simpa using d4
  exact ⟨⟨v0, v1, v2, v3, v4⟩, rfl⟩

instance : Inhabited Nd := ⟨⟨0, 0, 0⟩⟩
instance : Inhabited Vr := ⟨⟨0, false, 0, 0, 0⟩⟩

theorem decInt {H : Type} {enc : TypeId × Value → H} {W : World} {base fuel : Nat} {spare : Nat → Bool} {held : Bool} {cs : List Value} {x : DataW H × List MemPlace} (h : DataW.trod enc Try.prog W base spare held fuel 2 cs = some x) : ∃ a : Int, cs = intC a := by
  obtain ⟨v, rfl, _⟩ := DataW.trod_int Try.underlying2 h
  exact ⟨v, rfl⟩

set_option maxRecDepth 100000 in
/-- An Arena that came in. -/
theorem open_arena {H : Type} {enc : TypeId × Value → H} {W : World} {r : Reach} {b0 base : Nat} {spare : Nat → Bool} {held : Bool} {v : Value} {d : DataW H} {p : List MemPlace} (hv : Value.okWide Try.prog W r b0 28 v) (h : DataW.Trod enc Try.prog W base spare held 28 v d p) :
    ∃ (A : Ar) (a0 a1 a2 a3 : Option Addr) (c0 c1 c2 c3 : Nat), v = .agg #[.int .i64 A.camera, .slice a0 A.slots.length c0, .slice a1 A.guides.length c1, .slice a2 A.nodes.length c2, .slice a3 A.vers.length c3] ∧
      ArenaIs W.heap.size W (.slice a0 A.slots.length c0) (.slice a1 A.guides.length c1) (.slice a2 A.nodes.length c2) (.slice a3 A.vers.length c3) A ∧ A.slots.length ≤ maxLen ∧ A.guides.length ≤ maxLen ∧ A.nodes.length ≤ maxLen ∧ A.vers.length ≤ maxLen := by
  obtain ⟨cs, rfl, hsz⟩ := okWide_struct Try.underlying28 hv
  obtain ⟨fuel, hf⟩ := h
  have hcs : (Value.agg cs).cells.toList = cs.toList := rfl
  rw [hcs] at hf
  obtain ⟨xs, m, _, _, hl, hlen, hg⟩ := DataW.trod_struct Try.underlying28 hf
  obtain ⟨v0, v1, v2, v3, v4, hc⟩ := list5 (hl.trans (show Try.prog.cellsOf 28 = 5 by kernel_rfl))
  have hx : xs.length = 5 := hlen
  rw [hc] at hg
  have g0 := hg 0 _ rfl
  have g1 := hg 1 _ rfl
  have g2 := hg 2 _ rfl
  have g3 := hg 3 _ rfl
  have g4 := hg 4 _ rfl
  rw [List.getElem?_eq_getElem (by omega)] at g0 g1 g2 g3 g4
  have k0 : DataW.trod enc Try.prog W base spare held m 2 [v0] = some xs[0] := g0
  have k1 : DataW.trod enc Try.prog W base spare held m 24 [v1] = some xs[1] := g1
  have k2 : DataW.trod enc Try.prog W base spare held m 24 [v2] = some xs[2] := g2
  have k3 : DataW.trod enc Try.prog W base spare held m 25 [v3] = some xs[3] := g3
  have k4 : DataW.trod enc Try.prog W base spare held m 26 [v4] = some xs[4] := g4
  obtain ⟨cam, e0, _⟩ := DataW.trod_int Try.underlying2 k0
  obtain ⟨l1, a0, c0, rfl, m1, S1⟩ := open_list (f := intC) (sz := 1) (fun _ => rfl) (by omega) Try.underlying24 cellsInt (fun _ _ _ h => decInt h) k1
  obtain ⟨l2, a1, c1, rfl, m2, S2⟩ := open_list (f := intC) (sz := 1) (fun _ => rfl) (by omega) Try.underlying24 cellsInt (fun _ _ _ h => decInt h) k2
  obtain ⟨l3, a2, c2, rfl, m3, S3⟩ := open_list (f := ndC) (sz := 3) (fun _ => rfl) (by omega) Try.underlying25 (by kernel_rfl) (fun _ _ _ h => decNode h) k3
  obtain ⟨l4, a3, c3, rfl, m4, S4⟩ := open_list (f := vrC) (sz := 5) (fun _ => rfl) (by omega) Try.underlying26 (by kernel_rfl) (fun _ _ _ h => decVer h) k4
  obtain rfl : v0 = .int .i64 cam := by simpa using e0
  refine ⟨⟨cam, l1, l2, l3, l4⟩, a0, a1, a2, a3, c0, c1, c2, c3, ?_, ⟨S1, S2, S3, S4⟩, m1, m2, m3, m4⟩
  congr 1
  apply Array.toList_inj.1
  rw [hc]

end Go.Proofs.Ytknncnaikeinbaa
