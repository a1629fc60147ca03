/-
  The program's own cells of an arena, as contracts: lists of pointers, what they lead to, and the copies that are handed out. For every list of at most 1048576 elements.
-/
import Derived.Test.YtcgjkodpmloccaaMark
import Derived.Test.YtcgjkodpmloccaaBlank
import Derived.Laws.CopyOwn
namespace Go.Proofs.Ytcgjkodpmloccaa
open Go.ChangeShapes Go.WideShapes Go.ChangeAt Go.RowKit
set_option linter.unusedVariables false
attribute [local go_sem ↓] Go.wp_at_zero Go.wp_at_succ

/-- Pointers to elements: the i-th one leads to the cells of the i-th element; all that it leads to lies below block B. -/
structure Ptrs {α : Type} (B : Nat) (w : World) (f : α → List Value) (ps : List Addr) (l : List α) : Prop where
  len : ps.length = l.length
  at' : ∀ i (h : i < l.length), ∃ b o, ps[i]? = some ⟨b, o, none⟩ ∧ b < B ∧ w.rangeAt b o (f l[i])

def ptrC (p : Addr) : List Value := [.pointer (some p)]

/-- A slice of pointers to elements. -/
def PtrsAt {α : Type} (B : Nat) (w : World) (v : Value) (f : α → List Value) (l : List α) : Prop :=
  ∃ ps, SliceAt B w v l.length (cellsOf ptrC ps) ∧ Ptrs B w f ps l

theorem Ptrs.below {α : Type} {B : Nat} {w w' : World} {f : α → List Value} {ps : List Addr} {l : List α} (h : Ptrs B w f ps l) (hb : Below B w w') : Ptrs B w' f ps l :=
  ⟨h.len, fun i hi => by obtain ⟨b, o, h1, h2, h3⟩ := h.at' i hi; exact ⟨b, o, h1, h2, rangeAt_below h3 hb h2⟩⟩
theorem Ptrs.weaken {α : Type} {B B' : Nat} {w : World} {f : α → List Value} {ps : List Addr} {l : List α} (h : Ptrs B w f ps l) (hB : B ≤ B') : Ptrs B' w f ps l :=
  ⟨h.len, fun i hi => by obtain ⟨b, o, h1, h2, h3⟩ := h.at' i hi; exact ⟨b, o, h1, by omega, h3⟩⟩
theorem PtrsAt.below {α : Type} {B : Nat} {w w' : World} {v : Value} {f : α → List Value} {l : List α} (h : PtrsAt B w v f l) (hb : Below B w w') : PtrsAt B w' v f l := by
  obtain ⟨ps, h1, h2⟩ := h
  exact ⟨ps, h1.below hb, h2.below hb⟩
theorem PtrsAt.weaken {α : Type} {B B' : Nat} {w : World} {v : Value} {f : α → List Value} {l : List α} (h : PtrsAt B w v f l) (hB : B ≤ B') : PtrsAt B' w v f l := by
  obtain ⟨ps, h1, h2⟩ := h
  exact ⟨ps, h1.weaken hB, h2.weaken hB⟩

theorem cellsOf_one (l : List Int) : cellsOf intC l = l.map (fun n => .int .i64 n) := by
  induction l with
  | nil => rfl
  | cons x l ih => simp only [cellsOf, List.flatMap_cons, List.map_cons] at ih ⊢; rw [ih]; rfl

theorem new_of_block {w : World} {g : Nat} {cs : List Value} {t : TypeId} (h : w.heap[g]? = some (.cells cs.toArray t (0, 0))) : g < w.heap.size ∧ w.rangeAt g 0 cs ∧ w.there g 0 cs.length := by
  have hlt : g < w.heap.size := by
    rcases Nat.lt_or_ge g w.heap.size with hl | hl
    · exact hl
    · rw [Array.getElem?_eq_none hl] at h; cases h
  refine ⟨hlt, ?_, ?_⟩
  · intro j v hj
    rw [Nat.zero_add, cell_of_row w g j cs.toArray t (0, 0) h]
    simpa using hj
  · intro j hj
    rw [Nat.zero_add, cell_of_row w g j cs.toArray t (0, 0) h]
    refine ⟨by simp [hj], ?_⟩
    simp [World.frozen?, h]

theorem sizeI : (Try.prog.info? 2).map (·.size) = some 1 := by kernel_rfl

set_option maxHeartbeats 1000000 in
theorem copied_any (B : Nat) (v : Value) (l : List Int) (w : World) (hB : B ≤ w.heap.size) (hl : l.length ≤ 1048576) (S : SliceAt B w v l.length (cellsOf intC l)) :
    Calls Try.prog 75 #[v] w fun e w' => e = .returned (.slice (some ⟨w.heap.size, 0, none⟩) l.length l.length) ∧ w'.rangeAt w.heap.size 0 (cellsOf intC l) ∧ w'.there w.heap.size 0 l.length ∧ w.heap.size < w'.heap.size ∧ Below w.heap.size w w' := by
  obtain ⟨a, cap, rfl, hS⟩ := S
  have hmk := fun w => run_make_row' (P := Try.prog) 24 2 (.int .i64 0) 8 Try.underlying24 infoI rfl .i64 .i64 l.length (by omega) (by omega) w
  go_enter Try.func75, Try.ntmps75
  have hcur : Hid (madeCells #[Value.int IntKind.i64 0] l.length = (List.replicate l.length (Value.int IntKind.i64 0)).toArray) := by
    show _ = _
    apply Array.toList_inj.1
    rw [toList_madeCells_one]
  obtain ⟨cs, hcs⟩ : ∃ cs, cs = cellsOf intC l := ⟨_, rfl⟩
  have hlen : cs.length = l.length := by rw [hcs, cellsOf_length (sz := 1) (fun _ => rfl)]; omega
  have hone : ∀ v ∈ cs, v.oneCell' = true := by
    intro v hv
    rw [hcs, cellsOf_one] at hv
    obtain ⟨n, _, rfl⟩ := List.mem_map.1 hv
    rfl
  rw [← hcs] at hS ⊢
  clear hcs
  go_wp2_with (refine wpList_copy_splice rfl (.tmp 7) (.tmp 8) 24 24 rfl 2 Try.underlying24 sizeI _ _ _ _ _ _ rfl rfl w.heap.size 0 (List.replicate l.length (Value.int IntKind.i64 0)) 2 ?hg cs ?hn ?hpos ?hfit hone w.heap.size w ?hb (Nat.le_refl _) ?_)
  case hg => rw [hcur.out]; show (w.heap.push _)[w.heap.size]? = some _; simp
  case hn => rw [hlen]; exact (Nat.min_self _).symm
  case hpos =>
    intro hp
    rcases hS with h0 | ⟨bb, off, rfl, hbb, R0⟩
    · omega
    · refine ⟨_, rfl, fun j v hj => ?_⟩
      have := (rangeAt_below R0 (((Below.refl w.heap.size w).alloc (Nat.le_refl _) (Obj.cells (madeCells #[Value.int IntKind.i64 0] l.length) 2)).mono hB) hbb) j v hj
      have ea : (⟨bb, off, none⟩ : Addr).add j = ⟨bb, off + j, none⟩ := by unfold Addr.add; split <;> simp_all
      rw [ea]
      exact this
  case hfit => rw [hlen, List.length_replicate]; omega
  case hb => exact (Below.refl _ _).alloc (Nat.le_refl _) _
  intro w2 HG hB2
  go_wp2
  go_ret
  have e1 : splice (List.replicate l.length (Value.int IntKind.i64 0)) 0 cs = cs := by
    simp only [splice, List.take_zero, List.nil_append, Nat.zero_add]
    rw [List.drop_eq_nil_of_le (by rw [List.length_replicate]; omega), List.append_nil]
  have HG' := HG.out
  rw [e1] at HG'
  obtain ⟨n1, n2, n3⟩ := new_of_block HG'
  rw [hlen] at n3
  exact ⟨rfl, n2, n3, n1, hB2⟩

set_option maxHeartbeats 1000000 in
theorem valuesOfNode_any (B : Nat) (v : Value) (l : List Nd) (w : World) (hB : B ≤ w.heap.size) (hl : l.length ≤ 1048576) (S : PtrsAt B w v ndC l) :
    Calls Try.prog 76 #[v] w fun e w' => e = .returned (.slice (some ⟨w.heap.size, 0, none⟩) l.length l.length) ∧ w'.rangeAt w.heap.size 0 (cellsOf ndC l) ∧ w'.there w.heap.size 0 (l.length * 3) ∧ w.heap.size < w'.heap.size ∧ Below w.heap.size w w' := by
  obtain ⟨ps, ⟨a, cap, rfl, hS⟩, Q⟩ := S
  obtain ⟨i0, hi, hz0, hz1, hz2⟩ := info_parts infoNode
  have hmk : ∀ w : World, (Instr.makeSlice 25 (.int .i64 (l.length : Int)) (.int .i64 (l.length : Int))).run Try.prog w = .ok (.slice (some ⟨w.heap.size, 0, none⟩) l.length l.length) (w.alloc (.cells (madeCells (.agg #[.int .i64 0, .int .i64 0, .int .i64 0] : Value).cells (l.length * 3)) 60)) := by
    intro w
    have h := run_make (P := Try.prog) w 25 60 i0 _ Try.underlying25 hi hz0 .i64 .i64 l.length l.length (by omega) (by omega) (by rw [hz2]; omega) (by omega)
    simpa [hz1] using h
  clear hi hz0 hz1 hz2
  go_enter Try.func76, Try.ntmps76
  go_wp2
  clear hmk
  go_loopw [11] (fun i wr => ∃ k : Nat, k ≤ l.length ∧ i = .int .i64 k ∧ wr.rangeAt w.heap.size 0 (cellsOf ndC (l.take k)) ∧ wr.there w.heap.size 0 (l.length * 3) ∧ w.heap.size < wr.heap.size ∧ Below w.heap.size w wr) (fun i _ => l.length - (intOf i).toNat)
  case atStart => exact ⟨0, Nat.zero_le _, rfl, by simp [cellsOf, World.rangeAt], there_new _ _ _ _ (by rw [size_madeCells]; exact Nat.le_refl _), by simp, (Below.refl _ _).alloc (Nat.le_refl _) _⟩
  case round =>
    obtain ⟨k, hk, rfl, R, T, hz, bel⟩ := hrel
    by_cases hlt : k < l.length
    · rcases hS with h0 | ⟨bb, off, rfl, hbb, R0⟩
      · omega
      · obtain ⟨pb, po, hp1, hp2, hp3⟩ := (Q.below (bel.mono hB)).at' k hlt
        have hkp : k < ps.length := by rw [Q.len]; exact hlt
        have hc : wr.cell? ⟨bb, off + k, none⟩ = some (.pointer (some ⟨pb, po, none⟩)) := by
          have h1 := (rangeAt_elem (sz := 1) (f := ptrC) (fun _ => rfl) (rangeAt_below R0 (bel.mono hB) hbb) k hkp) 0 (.pointer (some ps[k])) rfl
          rw [List.getElem?_eq_getElem hkp] at hp1
          rw [Option.some.inj hp1, Nat.mul_one, Nat.add_zero] at h1
          exact h1
        clear R0 hp1 hkp
        have hk3 : k * 3 + 3 ≤ l.length * 3 := by omega
        have hlen : (cellsOf ndC (l.take k)).length = k * 3 := by rw [cellsOf_length (sz := 3) (fun _ => rfl), List.length_take]; omega
        have T2 := there_part T (k * 3) 3 hk3
        have G := rangeAt_grow R (vs := ndC l[k]) (by rw [hlen]; exact T2)
        rw [hlen, ← cellsOf_snoc, ← List.take_succ_eq_append_getElem hlt] at G
        simp only [Nat.zero_add] at G T2
        clear R hlen
        go_wp2_with (first | (refine wpList_load_mid rfl 60 (.tmp 19) rfl pb po rfl (ndC l[k]) _ ?hc Try.underlying60 rfl (sizeNodeL _) ?_) | (refine wpList_store_mid rfl 60 (.tmp 21) (.tmp 20) rfl w.heap.size (k * 3) _ rfl rfl ?ht ?hi ?h1 ?_))
        case hc => exact hp3
        case ht => exact T2
        case hi => exact sizeNode _
        case h1 => simp [ndC, Value.oneCell']
        go_roundw
        case rel => exact ⟨k + 1, by omega, by go_num, G, World.there_setCells T _ _ _, by rw [setCells_size]; omega, Below.setCells (Nat.le_refl _) _ _ _ bel⟩
        case measure => simp [intOf]; omega
    · obtain rfl : k = l.length := by omega
      go_wp2
      go_ret
      exact ⟨rfl, by simpa using R, T, hz, bel⟩

set_option maxHeartbeats 1000000 in
theorem valuesOfVer_any (B : Nat) (v : Value) (l : List Vr) (w : World) (hB : B ≤ w.heap.size) (hl : l.length ≤ 1048576) (S : PtrsAt B w v vrC l) :
    Calls Try.prog 77 #[v] w fun e w' => e = .returned (.slice (some ⟨w.heap.size, 0, none⟩) l.length l.length) ∧ w'.rangeAt w.heap.size 0 (cellsOf vrC l) ∧ w'.there w.heap.size 0 (l.length * 5) ∧ w.heap.size < w'.heap.size ∧ Below w.heap.size w w' := by
  obtain ⟨ps, ⟨a, cap, rfl, hS⟩, Q⟩ := S
  obtain ⟨i0, hi, hz0, hz1, hz2⟩ := info_parts infoVer
  have hmk : ∀ w : World, (Instr.makeSlice 26 (.int .i64 (l.length : Int)) (.int .i64 (l.length : Int))).run Try.prog w = .ok (.slice (some ⟨w.heap.size, 0, none⟩) l.length l.length) (w.alloc (.cells (madeCells (.agg #[.int .i64 0, .bool false, .int .i64 0, .int .i64 0, .int .i64 0] : Value).cells (l.length * 5)) 62)) := by
    intro w
    have h := run_make (P := Try.prog) w 26 62 i0 _ Try.underlying26 hi hz0 .i64 .i64 l.length l.length (by omega) (by omega) (by rw [hz2]; omega) (by omega)
    simpa [hz1] using h
  clear hi hz0 hz1 hz2
  go_enter Try.func77, Try.ntmps77
  go_wp2
  clear hmk
  go_loopw [11] (fun i wr => ∃ k : Nat, k ≤ l.length ∧ i = .int .i64 k ∧ wr.rangeAt w.heap.size 0 (cellsOf vrC (l.take k)) ∧ wr.there w.heap.size 0 (l.length * 5) ∧ w.heap.size < wr.heap.size ∧ Below w.heap.size w wr) (fun i _ => l.length - (intOf i).toNat)
  case atStart => exact ⟨0, Nat.zero_le _, rfl, by simp [cellsOf, World.rangeAt], there_new _ _ _ _ (by rw [size_madeCells]; exact Nat.le_refl _), by simp, (Below.refl _ _).alloc (Nat.le_refl _) _⟩
  case round =>
    obtain ⟨k, hk, rfl, R, T, hz, bel⟩ := hrel
    by_cases hlt : k < l.length
    · rcases hS with h0 | ⟨bb, off, rfl, hbb, R0⟩
      · omega
      · obtain ⟨pb, po, hp1, hp2, hp3⟩ := (Q.below (bel.mono hB)).at' k hlt
        have hkp : k < ps.length := by rw [Q.len]; exact hlt
        have hc : wr.cell? ⟨bb, off + k, none⟩ = some (.pointer (some ⟨pb, po, none⟩)) := by
          have h1 := (rangeAt_elem (sz := 1) (f := ptrC) (fun _ => rfl) (rangeAt_below R0 (bel.mono hB) hbb) k hkp) 0 (.pointer (some ps[k])) rfl
          rw [List.getElem?_eq_getElem hkp] at hp1
          rw [Option.some.inj hp1, Nat.mul_one, Nat.add_zero] at h1
          exact h1
        clear R0 hp1 hkp
        have hk5 : k * 5 + 5 ≤ l.length * 5 := by omega
        have hlen : (cellsOf vrC (l.take k)).length = k * 5 := by rw [cellsOf_length (sz := 5) (fun _ => rfl), List.length_take]; omega
        have T2 := there_part T (k * 5) 5 hk5
        have G := rangeAt_grow R (vs := vrC l[k]) (by rw [hlen]; exact T2)
        rw [hlen, ← cellsOf_snoc, ← List.take_succ_eq_append_getElem hlt] at G
        simp only [Nat.zero_add] at G T2
        clear R hlen
        go_wp2_with (first | (refine wpList_load_mid rfl 62 (.tmp 19) rfl pb po rfl (vrC l[k]) _ ?hc Try.underlying62 rfl (sizeVerL _) ?_) | (refine wpList_store_mid rfl 62 (.tmp 21) (.tmp 20) rfl w.heap.size (k * 5) _ rfl rfl ?ht ?hi ?h1 ?_))
        case hc => exact hp3
        case ht => exact T2
        case hi => exact sizeVer _
        case h1 => simp [vrC, Value.oneCell']
        go_roundw
        case rel => exact ⟨k + 1, by omega, by go_num, G, World.there_setCells T _ _ _, by rw [setCells_size]; omega, Below.setCells (Nat.le_refl _) _ _ _ bel⟩
        case measure => simp [intOf]; omega
    · obtain rfl : k = l.length := by omega
      go_wp2
      go_ret
      exact ⟨rfl, by simpa using R, T, hz, bel⟩

/-- The program's cells of an arena: block cb holds the five fields. -/
structure CellsAt (B : Nat) (w : World) (cb : Nat) (s g n r : Value) (A : Ar) : Prop where
  row : w.rangeAt cb 0 [.int .i64 A.camera, s, g, n, r]
  blk : cb < B
  s : SliceAt B w s A.slots.length (cellsOf intC A.slots)
  g : SliceAt B w g A.guides.length (cellsOf intC A.guides)
  n : PtrsAt B w n ndC A.nodes
  r : PtrsAt B w r vrC A.vers

theorem CellsAt.below {B : Nat} {w w' : World} {cb : Nat} {s g n r : Value} {A : Ar} (h : CellsAt B w cb s g n r A) (hb : Below B w w') : CellsAt B w' cb s g n r A :=
  ⟨rangeAt_below h.row hb h.blk, h.blk, h.s.below hb, h.g.below hb, h.n.below hb, h.r.below hb⟩

set_option maxHeartbeats 4000000 in
theorem face_any (B : Nat) (cb : Nat) (s g n r : Value) (A : Ar) (w : World) (hB : B ≤ w.heap.size) (hA : A.size ≤ 1048576) (C : CellsAt B w cb s g n r A) :
    Calls Try.prog 32 #[.pointer (some ⟨cb, 0, none⟩)] w fun e w' => ∃ s' g' n' r' b0 b1 b2 b3, e = .returned (.agg #[.int .i64 A.camera, s', g', n', r']) ∧ NewArena w.heap.size w' s' g' n' r' A b0 b1 b2 b3 ∧ Below w.heap.size w w' := by
  unfold Ar.size at hA
  have hne : cb ≠ w.heap.size := by have := C.blk; omega
  have hne' : w.heap.size ≠ cb := hne.symm
  have K0 : Below w.heap.size w (w.alloc (Obj.cells #[.int .i64 0, .slice none 0 0, .slice none 0 0, .slice none 0 0, .slice none 0 0] 28)) := (Below.refl _ _).alloc (Nat.le_refl _) _
  have Z0 : (w.alloc (Obj.cells #[.int .i64 0, .slice none 0 0, .slice none 0 0, .slice none 0 0, .slice none 0 0] 28)).rangeAt w.heap.size 0 [.int .i64 0, .slice none 0 0, .slice none 0 0, .slice none 0 0, .slice none 0 0] := rangeAt_new w [.int .i64 0, .slice none 0 0, .slice none 0 0, .slice none 0 0, .slice none 0 0] 28
  have F0 : (w.alloc (Obj.cells #[.int .i64 0, .slice none 0 0, .slice none 0 0, .slice none 0 0, .slice none 0 0] 28)).there w.heap.size 0 5 := there_new w #[.int .i64 0, .slice none 0 0, .slice none 0 0, .slice none 0 0, .slice none 0 0] 28 5 (by decide)
  have hz0 : w.heap.size < (w.alloc (Obj.cells #[.int .i64 0, .slice none 0 0, .slice none 0 0, .slice none 0 0, .slice none 0 0] 28)).heap.size := by simp
  have tk0 : True := trivial
  go_enter Try.func32, Try.ntmps32
  go_wp2
  generalize w.alloc (Obj.cells #[.int .i64 0, .slice none 0 0, .slice none 0 0, .slice none 0 0, .slice none 0 0] 28) = w0 at K0 Z0 F0 hz0 ⊢
  obtain ⟨x0, x1, x2, x3, x4⟩ := row5 (C.below (K0.mono hB)).row
  go_region_held3 (fun w' => w'.cell? ⟨cb, 0, none⟩ = some (.int .i64 A.camera) ∧ w'.cell? ⟨cb, 1, none⟩ = some s ∧ w'.cell? ⟨cb, 2, none⟩ = some g ∧ w'.cell? ⟨cb, 3, none⟩ = some n ∧ w'.cell? ⟨cb, 4, none⟩ = some r) (go_keep) (first
    | (clear tk0; go_at_call 75; refine (copied_any B s A.slots _ (by exact (Nat.le_trans hB K0.size)) (by omega) (by exact (C.below ((K0.drew).mono hB)).s)).mono ?_; rintro e w1 ⟨rfl, R1, T1, z1, b1⟩; have tk1 : True := trivial; have L1 : Below w0.heap.size w0 w1 := (by exact ⟨b1.os, b1.tape, b1.output, b1.size, b1.block⟩); have K1 : Below w.heap.size w w1 := (by exact K0.trans (L1.mono (by exact K0.size))); have Z1 := rangeAt_below Z0 L1 hz0; have F1 := there_below F0 L1 hz0; have hz1 := Nat.lt_of_lt_of_le hz0 L1.size; obtain ⟨y0, y1, y2, y3, y4⟩ := row5 (C.below (K1.mono hB)).row)
    | (clear tk1; go_at_call 75; refine (copied_any B g A.guides _ (by exact (Nat.le_trans hB K1.size)) (by omega) (by exact (C.below (K1.mono hB)).g)).mono ?_; rintro e w2 ⟨rfl, R2, T2, z2, b2⟩; have tk2 : True := trivial; have K2 : Below w.heap.size w w2 := (by exact K1.trans (b2.mono (by exact K1.size))); have Z2 := rangeAt_below Z1 b2 hz1; have F2 := there_below F1 b2 hz1; have hz2 := Nat.lt_of_lt_of_le hz1 b2.size; obtain ⟨y0, y1, y2, y3, y4⟩ := row5 (C.below (K2.mono hB)).row)
    | (clear tk2; go_at_call 76; refine (valuesOfNode_any B n A.nodes _ (by exact (Nat.le_trans hB K2.size)) (by omega) (by exact (C.below (K2.mono hB)).n)).mono ?_; rintro e w3 ⟨rfl, R3, T3, z3, b3⟩; have tk3 : True := trivial; have K3 : Below w.heap.size w w3 := (by exact K2.trans (b3.mono (by exact K2.size))); have Z3 := rangeAt_below Z2 b3 hz2; have F3 := there_below F2 b3 hz2; have hz3 := Nat.lt_of_lt_of_le hz2 b3.size; obtain ⟨y0, y1, y2, y3, y4⟩ := row5 (C.below (K3.mono hB)).row)
    | (clear tk3; go_at_call 77; refine (valuesOfVer_any B r A.vers _ (by exact (Nat.le_trans hB K3.size)) (by omega) (by exact (C.below (K3.mono hB)).r)).mono ?_; rintro e w4 ⟨rfl, R4, T4, z4, b4⟩; have tk4 : True := trivial; have K4 : Below w.heap.size w w4 := (by exact K3.trans (b4.mono (by exact K3.size))); have Z4 := rangeAt_below Z3 b4 hz3; have F4 := there_below F3 b4 hz3; have hz4 := Nat.lt_of_lt_of_le hz3 b4.size; obtain ⟨y0, y1, y2, y3, y4⟩ := row5 (C.below (K4.mono hB)).row; obtain ⟨u0, u1, u2, u3, u4⟩ := row5 Z4; have v0 : w4.frozen? ⟨w.heap.size, 0, none⟩ = false := (by have := (F4 0 (by omega)).2; simpa using this); have v1 : w4.frozen? ⟨w.heap.size, 1, none⟩ = false := (by have := (F4 1 (by omega)).2; simpa using this); have v2 : w4.frozen? ⟨w.heap.size, 2, none⟩ = false := (by have := (F4 2 (by omega)).2; simpa using this); have v3 : w4.frozen? ⟨w.heap.size, 3, none⟩ = false := (by have := (F4 3 (by omega)).2; simpa using this); have v4 : w4.frozen? ⟨w.heap.size, 4, none⟩ = false := (by have := (F4 4 (by omega)).2; simpa using this)))
  obtain ⟨vs, hvs⟩ : ∃ vs : List Value, vs = [.int .i64 A.camera, .slice (some ⟨w0.heap.size, 0, none⟩) A.slots.length A.slots.length, .slice (some ⟨w1.heap.size, 0, none⟩) A.guides.length A.guides.length, .slice (some ⟨w2.heap.size, 0, none⟩) A.nodes.length A.nodes.length, .slice (some ⟨w3.heap.size, 0, none⟩) A.vers.length A.vers.length] := ⟨_, rfl⟩
  have hW : ((((w4.setCell ⟨w.heap.size, 0, none⟩ (.int .i64 A.camera)).setCell ⟨w.heap.size, 1, none⟩ (.slice (some ⟨w0.heap.size, 0, none⟩) A.slots.length A.slots.length)).setCell ⟨w.heap.size, 2, none⟩ (.slice (some ⟨w1.heap.size, 0, none⟩) A.guides.length A.guides.length)).setCell ⟨w.heap.size, 3, none⟩ (.slice (some ⟨w2.heap.size, 0, none⟩) A.nodes.length A.nodes.length)).setCell ⟨w.heap.size, 4, none⟩ (.slice (some ⟨w3.heap.size, 0, none⟩) A.vers.length A.vers.length) = w4.setCells w.heap.size 0 vs := by rw [hvs]; rfl
  rw [hW]
  have e0 : w0.drew.heap.size = w0.heap.size := rfl
  rw [e0] at R1 T1 z1
  have k1 := K1.size
  have k2 := b2.size
  have k3 := b3.size
  have k4 := b4.size
  have l1 := L1.size
  have RR : (w4.setCells w.heap.size 0 vs).rangeAt w.heap.size 0 vs := World.rangeAt_setCells_same _ _ _ _ (by rw [hvs]; exact F4)
  have N0 : NewList w.heap.size (w4.setCells w.heap.size 0 vs) (.slice (some ⟨w0.heap.size, 0, none⟩) A.slots.length A.slots.length) A.slots.length 1 (cellsOf intC A.slots) w0.heap.size :=
    ⟨_, _, 0, rfl, Or.inr ⟨rfl, by omega, by rw [setCells_size]; omega, World.rangeAt_setCells_apart (rangeAt_below (rangeAt_below (rangeAt_below R1 b2 (by omega)) b3 (by omega)) b4 (by omega)) _ _ _ (Or.inl (by omega)), by rw [Nat.mul_one]; exact World.there_setCells (there_below (there_below (there_below T1 b2 (by omega)) b3 (by omega)) b4 (by omega)) _ _ _⟩⟩
  have N1 : NewList w.heap.size (w4.setCells w.heap.size 0 vs) (.slice (some ⟨w1.heap.size, 0, none⟩) A.guides.length A.guides.length) A.guides.length 1 (cellsOf intC A.guides) w1.heap.size :=
    ⟨_, _, 0, rfl, Or.inr ⟨rfl, by omega, by rw [setCells_size]; omega, World.rangeAt_setCells_apart (rangeAt_below (rangeAt_below R2 b3 (by omega)) b4 (by omega)) _ _ _ (Or.inl (by omega)), by rw [Nat.mul_one]; exact World.there_setCells (there_below (there_below T2 b3 (by omega)) b4 (by omega)) _ _ _⟩⟩
  have N2 : NewList w.heap.size (w4.setCells w.heap.size 0 vs) (.slice (some ⟨w2.heap.size, 0, none⟩) A.nodes.length A.nodes.length) A.nodes.length 3 (cellsOf ndC A.nodes) w2.heap.size :=
    ⟨_, _, 0, rfl, Or.inr ⟨rfl, by omega, by rw [setCells_size]; omega, World.rangeAt_setCells_apart (rangeAt_below R3 b4 (by omega)) _ _ _ (Or.inl (by omega)), World.there_setCells (there_below T3 b4 (by omega)) _ _ _⟩⟩
  have N3 : NewList w.heap.size (w4.setCells w.heap.size 0 vs) (.slice (some ⟨w3.heap.size, 0, none⟩) A.vers.length A.vers.length) A.vers.length 5 (cellsOf vrC A.vers) w3.heap.size :=
    ⟨_, _, 0, rfl, Or.inr ⟨rfl, by omega, by rw [setCells_size]; omega, World.rangeAt_setCells_apart R4 _ _ _ (Or.inl (by omega)), World.there_setCells T4 _ _ _⟩⟩
  have KF := Below.setCells (Nat.le_refl w.heap.size) vs 0 _ K4
  clear hW R1 R2 R3 R4 T1 T2 T3 T4 u0 u1 u2 u3 u4 v0 v1 v2 v3 v4 F0 F1 F2 F3 F4 Z0 Z1 Z2 Z3 Z4
  go_wp2
  refine bodyPost_ret (v := .agg #[.int .i64 A.camera, .slice (some ⟨w0.heap.size, 0, none⟩) A.slots.length A.slots.length, .slice (some ⟨w1.heap.size, 0, none⟩) A.guides.length A.guides.length, .slice (some ⟨w2.heap.size, 0, none⟩) A.nodes.length A.nodes.length, .slice (some ⟨w3.heap.size, 0, none⟩) A.vers.length A.vers.length]) ?_ rfl ⟨_, _, _, _, _, _, _, _, rfl, ⟨N0, N1, N2, N3, by omega, by omega, by omega, by omega, by omega, by omega⟩, KF⟩
  subst hvs
  exact results_row Try.results32 _ _ w.heap.size 0 rfl [.int .i64 A.camera, .slice (some ⟨w0.heap.size, 0, none⟩) A.slots.length A.slots.length, .slice (some ⟨w1.heap.size, 0, none⟩) A.guides.length A.guides.length, .slice (some ⟨w2.heap.size, 0, none⟩) A.nodes.length A.nodes.length, .slice (some ⟨w3.heap.size, 0, none⟩) A.vers.length A.vers.length] _ RR Try.underlying28 rfl infoArena

end Go.Proofs.Ytcgjkodpmloccaa
