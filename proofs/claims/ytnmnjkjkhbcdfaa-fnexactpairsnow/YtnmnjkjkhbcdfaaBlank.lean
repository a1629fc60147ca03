/-
  Blank arenas as the model makes them, as contracts: what each of their lists holds. For every plan.
-/
import Derived.Test.YtnmnjkjkhbcdfaaArena
import Derived.Test.YtnmnjkjkhbcdfaaRows2
import Derived.Deep.OwnRows
namespace Go.Proofs.Ytnmnjkjkhbcdfaa
open Go.ChangeShapes Go.WideShapes Go.ChangeAt Go.RowKit
set_option linter.unusedVariables false

/-- A blank arena of so many processes and guides. -/
def blankA (xN uN : Nat) : Ar := ⟨0, List.replicate xN (-1), List.replicate uN 0, [⟨-1, 0, 0⟩], [⟨-1, false, 0, -1, 0⟩]⟩

theorem SliceAt.of {B : Nat} {w : World} {b len n cap : Nat} {cs : List Value} (hl : n = len) (hb : b < B) (R : w.rangeAt b 0 cs) : SliceAt B w (.slice (some ⟨b, 0, none⟩) n cap) len cs := by
  subst hl
  exact ⟨_, _, rfl, Or.inr ⟨b, 0, rfl, hb, R⟩⟩

theorem cellsOf_ints (n : Nat) (v : Int) : cellsOf intC (List.replicate n v) = List.replicate n (.int .i64 v) := by
  induction n with
  | zero => rfl
  | succ n ih => simp only [List.replicate_succ, cellsOf, List.flatMap_cons] at ih ⊢; rw [ih]; rfl

theorem own_range {w : World} {base : Nat} {e : TypeId} {g n cap : Nat} {xs : List Value} (h : w.ownsRow base e 1 (.slice (some ⟨g, 0, none⟩) n cap) n xs) (hn : 0 < n) : g < w.heap.size ∧ w.rangeAt g 0 xs := by
  rcases h.2 with ⟨h0, _⟩ | ⟨g', cap', cur, hv, hg, hh, hnc, _, hs, ht⟩
  · cases h0
  · injection hv with hv _ _
    injection hv with hv
    injection hv with hv _ _
    subst hv
    have hlt : g < w.heap.size := by
      rcases Nat.lt_or_ge g w.heap.size with hl | hl
      · exact hl
      · rw [Array.getElem?_eq_none hl] at hh; cases hh
    refine ⟨hlt, ?_⟩
    have R := World.rangeAt_of_block hh 0 n
    have e1 : (cur.extract 0 (0 + n)).toList = xs := by rw [← ht]; simp
    rw [e1] at R
    exact R

theorem infoInt : (Try.prog.info? 2).map (fun i => (i.zero, i.size, i.bytes)) = some (some (.int .i64 0), 1, 8) := by kernel_rfl

theorem infoArena : (Try.prog.info? 36).map (fun i => i.size) = some 5 := by kernel_rfl

theorem own_ge {w : World} {base : Nat} {e : TypeId} {size : Nat} {v : Value} {n : Nat} {xs : List Value} (h : w.ownsRow base e size v n xs) {j : Nat} (hj : v.ownBlock = some j) : base ≤ j := by
  rcases h.2 with ⟨rfl, _⟩ | ⟨g, cap, cur, rfl, hg, _⟩
  · simp [Value.ownBlock] at hj
  · simp [Value.ownBlock] at hj
    omega

theorem own_slice {w : World} {base : Nat} {e : TypeId} {size : Nat} {v : Value} {n : Nat} {xs : List Value} (h : w.ownsRow base e size v n xs) (hn : 0 < n) : ∃ g cap, v = .slice (some ⟨g, 0, none⟩) n cap := by
  rcases h.2 with ⟨rfl, h0⟩ | ⟨g, cap, cur, rfl, _⟩
  · omega
  · exact ⟨g, cap, rfl⟩

/-- The world in which a blank arena has its guides, its head and the head's link, and no slots yet. -/
def blank0 (w1 : World) (uN : Nat) : World :=
  (((w1.alloc (Obj.cells (madeCells #[Value.int IntKind.i64 0] uN) 2)).alloc (Obj.cells #[Value.int IntKind.i64 (-1), Value.int IntKind.i64 0, Value.int IntKind.i64 0] 84)).alloc
    (Obj.cells #[Value.int IntKind.i64 (-1), Value.bool false, Value.int IntKind.i64 0, Value.int IntKind.i64 (-1), Value.int IntKind.i64 0] 82)).alloc
      (Obj.cells #[Value.int IntKind.i64 0, Value.slice none 0 0, Value.slice (some ⟨w1.heap.size, 0, none⟩) uN uN, Value.slice (some ⟨w1.heap.size + 1, 0, none⟩) 1 1, Value.slice (some ⟨w1.heap.size + 1 + 1, 0, none⟩) 1 1] 36)

theorem blank0_size (w1 : World) (uN : Nat) : (blank0 w1 uN).heap.size = w1.heap.size + 4 := by simp [blank0]

theorem blank0_rows (w1 : World) (uN : Nat) : (blank0 w1 uN).rangeAt w1.heap.size 0 (cellsOf intC (List.replicate uN 0)) ∧ (blank0 w1 uN).rangeAt (w1.heap.size + 1) 0 (ndC ⟨-1, 0, 0⟩) ∧ (blank0 w1 uN).rangeAt (w1.heap.size + 1 + 1) 0 (vrC ⟨-1, false, 0, -1, 0⟩) := by
  have e : madeCells #[Value.int IntKind.i64 0] uN = (cellsOf intC (List.replicate uN 0)).toArray := by
    apply Array.toList_inj.1
    rw [toList_madeCells_one, cellsOf_ints]
  unfold blank0
  rw [e]
  refine ⟨?_, ?_, ?_⟩
  · exact World.rangeAt_alloc (World.rangeAt_alloc (World.rangeAt_alloc (rangeAt_new w1 _ _) _) _) _
  · have h := rangeAt_new (w1.alloc (Obj.cells (cellsOf intC (List.replicate uN 0)).toArray 2)) (ndC ⟨-1, 0, 0⟩) 84
    simp only [World.size_alloc] at h
    exact World.rangeAt_alloc (World.rangeAt_alloc h _) _
  · have h := rangeAt_new ((w1.alloc (Obj.cells (cellsOf intC (List.replicate uN 0)).toArray 2)).alloc (Obj.cells (ndC ⟨-1, 0, 0⟩).toArray 84)) (vrC ⟨-1, false, 0, -1, 0⟩) 82
    simp only [World.size_alloc] at h
    exact World.rangeAt_alloc h _

/-- The arena of k slots, in the making. -/
structure BlankAt (w1 : World) (uN : Nat) (wr : World) (k : Nat) (s : Value) : Prop where
  a0 : wr.cell? ⟨w1.heap.size + 1 + 1 + 1, 0, none⟩ = some (.int .i64 0)
  a1 : wr.cell? ⟨w1.heap.size + 1 + 1 + 1, 1, none⟩ = some s
  a2 : wr.cell? ⟨w1.heap.size + 1 + 1 + 1, 2, none⟩ = some (.slice (some ⟨w1.heap.size, 0, none⟩) uN uN)
  a3 : wr.cell? ⟨w1.heap.size + 1 + 1 + 1, 3, none⟩ = some (.slice (some ⟨w1.heap.size + 1, 0, none⟩) 1 1)
  a4 : wr.cell? ⟨w1.heap.size + 1 + 1 + 1, 4, none⟩ = some (.slice (some ⟨w1.heap.size + 1 + 1, 0, none⟩) 1 1)
  f1 : wr.frozen? ⟨w1.heap.size + 1 + 1 + 1, 1, none⟩ = false
  own : wr.ownsRow (w1.heap.size + 4) 2 1 s k (List.replicate k (.int .i64 (-1)))
  bel : Below (w1.heap.size + 3) (blank0 w1 uN) wr

theorem BlankAt.blk {w1 : World} {uN : Nat} {wr : World} {k : Nat} {s : Value} (D : BlankAt w1 uN wr k s) : w1.heap.size + 4 ≤ wr.heap.size := by
  have := D.bel.size
  rw [blank0_size] at this
  exact this

theorem blankAt_start (w1 : World) (uN : Nat) : BlankAt w1 uN (blank0 w1 uN) 0 (.slice none 0 0) := by
  have h := (there_new (((w1.alloc (Obj.cells (madeCells #[Value.int IntKind.i64 0] uN) 2)).alloc (Obj.cells #[Value.int IntKind.i64 (-1), Value.int IntKind.i64 0, Value.int IntKind.i64 0] 84)).alloc
    (Obj.cells #[Value.int IntKind.i64 (-1), Value.bool false, Value.int IntKind.i64 0, Value.int IntKind.i64 (-1), Value.int IntKind.i64 0] 82))
      #[Value.int IntKind.i64 0, Value.slice none 0 0, Value.slice (some ⟨w1.heap.size, 0, none⟩) uN uN, Value.slice (some ⟨w1.heap.size + 1, 0, none⟩) 1 1, Value.slice (some ⟨w1.heap.size + 1 + 1, 0, none⟩) 1 1] 36 5 (by simp) 1 (by omega)).2
  simp only [World.size_alloc, Nat.zero_add] at h
  refine ⟨?_, ?_, ?_, ?_, ?_, h, World.ownsRow_nil _ _ _ _, Below.refl _ _⟩ <;> simp [blank0, World.cell?_alloc_at]

theorem BlankAt.step {w1 : World} {uN : Nat} {wr : World} {k : Nat} {s : Value} (D : BlankAt w1 uN wr k s) {o : Obj} {w2 : World} {v' : Value}
    (ho : w2.ownsRow (w1.heap.size + 4) 2 1 v' (k + 1) (List.replicate k (.int .i64 (-1)) ++ [.int .i64 (-1)])) (hg : (wr.alloc o).grownBy w2 s.ownBlock) :
    BlankAt w1 uN (w2.setCell ⟨w1.heap.size + 1 + 1 + 1, 1, none⟩ v') (k + 1) v' := by
  have hz := D.blk
  have b2 : Below (w1.heap.size + 4) wr w2 := ((Below.refl _ wr).alloc hz o).grown hg (by simp; omega) (fun j e => own_ge D.own e)
  have hc : ∀ j, w2.cell? ⟨w1.heap.size + 1 + 1 + 1, j, none⟩ = wr.cell? ⟨w1.heap.size + 1 + 1 + 1, j, none⟩ := fun j => b2.cell (p := ⟨w1.heap.size + 1 + 1 + 1, j, none⟩) (by simp)
  have hf := b2.frozen (p := ⟨w1.heap.size + 1 + 1 + 1, 1, none⟩) (by simp)
  refine ⟨?_, World.cell?_setCell_same _ _ _ ((hc 1).trans D.a1), ?_, ?_, ?_, (World.frozen?_setCell _ _ _ _).trans (hf.trans D.f1), ?_, ?_⟩
  · exact (World.cell?_setCell_other _ _ _ _ (by simp)).trans ((hc 0).trans D.a0)
  · exact (World.cell?_setCell_other _ _ _ _ (by simp)).trans ((hc 2).trans D.a2)
  · exact (World.cell?_setCell_other _ _ _ _ (by simp)).trans ((hc 3).trans D.a3)
  · exact (World.cell?_setCell_other _ _ _ _ (by simp)).trans ((hc 4).trans D.a4)
  · rw [List.replicate_succ']
    exact ownsRow_setCell_below ho (by simp) _
  · exact (D.bel.trans (b2.mono (by omega))).setCell (by simp) _

end Go.Proofs.Ytnmnjkjkhbcdfaa
