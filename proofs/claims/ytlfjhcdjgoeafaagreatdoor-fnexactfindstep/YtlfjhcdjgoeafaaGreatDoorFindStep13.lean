/-
  What the law's proof goes by, part 14.
-/
import Derived.Test.YtlfjhcdjgoeafaaGreatDoorFindStep00
import Derived.Test.YtlfjhcdjgoeafaaGreatDoorFindStep07
import Derived.Test.YtlfjhcdjgoeafaaGreatDoorFindStep10
import Derived.Test.YtlfjhcdjgoeafaaGreatDoorFindStep12
namespace Go.Proofs.YtlfjhcdjgoeafaaGreatDoor
open Go.ChangeShapes Go.WideShapes Go.ChangeAt Go.RowKit
set_option linter.unusedVariables false
set_option linter.unusedSimpArgs false
set_option linter.unnecessarySimpa false
set_option linter.unusedSectionVars false
section
attribute [local go_sem ↓] Go.wp_at_zero Go.wp_at_succ
structure TypA (w : World) (A : Ar) (b0 b1 b2 b3 : Nat) : Prop where
 t0 : 0 < A.slots.length → ∃ m, Blk w b0 2 m
 t1 : 0 < A.guides.length → ∃ m, Blk w b1 2 m
 t2 : 0 < A.nodes.length → ∃ m, Blk w b2 86 m
 t3 : 0 < A.vers.length → ∃ m, Blk w b3 83 m
theorem TypA.kept {w w' : World} {A : Ar} {b0 b1 b2 b3 : Nat} (h : TypA w A b0 b1 b2 b3) (hb : Below w.heap.size w w') : TypA w' A b0 b1 b2 b3 :=
 ⟨fun p => by obtain ⟨m, h⟩ := h.t0 p; exact ⟨m, h.grown hb⟩, fun p => by obtain ⟨m, h⟩ := h.t1 p; exact ⟨m, h.grown hb⟩, fun p => by obtain ⟨m, h⟩ := h.t2 p; exact ⟨m, h.grown hb⟩, fun p => by obtain ⟨m, h⟩ := h.t3 p; exact ⟨m, h.grown hb⟩⟩
theorem TypA.setCells {w : World} {A : Ar} {b0 b1 b2 b3 : Nat} (h : TypA w A b0 b1 b2 b3) (c o : Nat) (vs : List Value) : TypA (w.setCells c o vs) A b0 b1 b2 b3 :=
 ⟨fun p => by obtain ⟨m, h⟩ := h.t0 p; exact ⟨m, h.setCells _ _ _⟩, fun p => by obtain ⟨m, h⟩ := h.t1 p; exact ⟨m, h.setCells _ _ _⟩, fun p => by obtain ⟨m, h⟩ := h.t2 p; exact ⟨m, h.setCells _ _ _⟩, fun p => by obtain ⟨m, h⟩ := h.t3 p; exact ⟨m, h.setCells _ _ _⟩⟩
theorem TypA.apart {w : World} {A : Ar} {b0 b1 b2 b3 c m : Nat} {t : TypeId} (h : TypA w A b0 b1 b2 b3) (hc : Blk w c t m) (h1 : 2 ≠ t) (h2 : 86 ≠ t) (h3 : 83 ≠ t) : ¬ wrote A.slots.length A.guides.length A.nodes.length A.vers.length b0 b1 b2 b3 c := by
 rintro (⟨p, rfl⟩ | ⟨p, rfl⟩ | ⟨p, rfl⟩ | ⟨p, rfl⟩)
 ·obtain ⟨n, k⟩ := h.t0 p; exact k.ne hc h1 rfl
 ·obtain ⟨n, k⟩ := h.t1 p; exact k.ne hc h1 rfl
 ·obtain ⟨n, k⟩ := h.t2 p; exact k.ne hc h2 rfl
 ·obtain ⟨n, k⟩ := h.t3 p; exact k.ne hc h3 rfl
set_option maxHeartbeats 1000000 in
theorem valuesOfNode_new (B : Nat) (v : Value) (l : List Nd) (w : World) (hB : B ≤ w.heap.size) (hl : l.length ≤ 1048576) (S : PtrsAt B w v ndC l) :
  Calls Tryz.prog 63 #[v] w fun e w' => e = .returned (.slice (some ⟨w.heap.size, 0, none⟩) l.length l.length) ∧ w'.rangeAt w.heap.size 0 (cellsOf ndC l) ∧ Blk w' w.heap.size 86 (l.length * 3) ∧ w.heap.size < w'.heap.size ∧ Below w.heap.size w w' := by
 obtain ⟨ps, ⟨a, cap, rfl, hS⟩, Q⟩ := S
 obtain ⟨i0, hi, hz0, hz1, hz2⟩ := info_parts infoNode
 have hmk : ∀ w : World, (Instr.makeSlice 32 (.int .i64 (l.length : Int)) (.int .i64 (l.length : Int))).run Tryz.prog w = .ok (.slice (some ⟨w.heap.size, 0, none⟩) l.length l.length) (w.alloc (.cells (madeCells (.agg #[.int .i64 0, .int .i64 0, .int .i64 0] : Value).cells (l.length * 3)) 86)) := by
  intro w
  have h := run_make (P := Tryz.prog) w 32 86 i0 _ Tryz.underlying32 hi hz0 .i64 .i64 l.length l.length (by omega) (by omega) (by rw [hz2]; omega) (by omega)
  simpa [hz1] using h
 clear hi hz0 hz1 hz2
 have BN : Blk (w.alloc (.cells (madeCells (.agg #[.int .i64 0, .int .i64 0, .int .i64 0] : Value).cells (l.length * 3)) 86)) w.heap.size 86 (l.length * 3) := by
  have h := Blk.new w (madeCells (.agg #[.int .i64 0, .int .i64 0, .int .i64 0] : Value).cells (l.length * 3)) 86
  rwa [size_madeCells] at h
 go_enter Tryz.func63, Tryz.ntmps63
 go_wp2
 clear hmk
 go_loopw [11] (fun i wr => ∃ k : Nat, k ≤ l.length ∧ i = .int .i64 k ∧ wr.rangeAt w.heap.size 0 (cellsOf ndC (l.take k)) ∧ Blk wr w.heap.size 86 (l.length * 3) ∧ w.heap.size < wr.heap.size ∧ Below w.heap.size w wr) (fun i _ => l.length - (intOf i).toNat)
 case atStart => exact ⟨0, Nat.zero_le _, rfl, by simp [cellsOf, World.rangeAt], BN, by simp, (Below.refl _ _).alloc (Nat.le_refl _) _⟩
 case round =>
  obtain ⟨k, hk, rfl, R, TB, hz, bel⟩ := hrel
  have T := TB.there 0 (l.length * 3) (by omega)
  by_cases hlt : k < l.length
  ·rcases hS with h0 | ⟨bb, off, rfl, hbb, R0⟩
   ·omega
   ·obtain ⟨pb, po, hp1, hp2, hp3⟩ := (Q.below (bel.mono hB)).at' k hlt
    have hkp : k < ps.length := by rw [Q.len]; exact hlt
    have hc : wr.cell? ⟨bb, off + k, none⟩ = some (.pointer (some ⟨pb, po, none⟩)) := by
     have h1 := (rangeAt_elem (sz := 1) (f := ptrC) (fun _ => rfl) (rangeAt_below R0 (bel.mono hB) hbb) k hkp) 0 (.pointer (some ps[k])) rfl
     rw [List.getElem?_eq_getElem hkp] at hp1
     rw [Option.some.inj hp1, Nat.mul_one, Nat.add_zero] at h1
     exact h1
    clear R0 hp1 hkp
    have hk3 : k * 3 + 3 ≤ l.length * 3 := by omega
    have hlen : (cellsOf ndC (l.take k)).length = k * 3 := by rw [cellsOf_length (sz := 3) (fun _ => rfl), List.length_take]; omega
    have T2 := there_part T (k * 3) 3 hk3
    have G := rangeAt_grow R (vs := ndC l[k]) (by rw [hlen]; exact T2)
    rw [hlen, ← cellsOf_snoc, ← List.take_succ_eq_append_getElem hlt] at G
    simp only [Nat.zero_add] at G T2
    clear R hlen
    go_wp2_with (first | (refine wpList_load_mid rfl 86 (.tmp 19) rfl pb po rfl (ndC l[k]) _ ?hc Tryz.underlying86 rfl (sizeNodeL _) ?_) | (refine wpList_store_mid rfl 86 (.tmp 21) (.tmp 20) rfl w.heap.size (k * 3) _ rfl rfl ?ht ?hi ?h1 ?_))
    case hc => exact hp3
    case ht => exact T2
    case hi => exact sizeNode _
    case h1 => simp [ndC, Value.oneCell']
    go_roundw
    case rel => exact ⟨k + 1, by omega, by go_num, G, TB.setCells _ _ _, by rw [setCells_size]; omega, Below.setCells (Nat.le_refl _) _ _ _ bel⟩
    case measure => simp [intOf]; omega
  ·obtain rfl : k = l.length := by omega
   go_wp2
   go_ret
   exact ⟨rfl, by simpa using R, TB, hz, bel⟩
set_option maxHeartbeats 1000000 in
theorem valuesOfVer_new (B : Nat) (v : Value) (l : List Vr) (w : World) (hB : B ≤ w.heap.size) (hl : l.length ≤ 1048576) (S : PtrsAt B w v vrC l) :
  Calls Tryz.prog 64 #[v] w fun e w' => e = .returned (.slice (some ⟨w.heap.size, 0, none⟩) l.length l.length) ∧ w'.rangeAt w.heap.size 0 (cellsOf vrC l) ∧ Blk w' w.heap.size 83 (l.length * 5) ∧ w.heap.size < w'.heap.size ∧ Below w.heap.size w w' := by
 obtain ⟨ps, ⟨a, cap, rfl, hS⟩, Q⟩ := S
 obtain ⟨i0, hi, hz0, hz1, hz2⟩ := info_parts infoVer
 have hmk : ∀ w : World, (Instr.makeSlice 33 (.int .i64 (l.length : Int)) (.int .i64 (l.length : Int))).run Tryz.prog w = .ok (.slice (some ⟨w.heap.size, 0, none⟩) l.length l.length) (w.alloc (.cells (madeCells (.agg #[.int .i64 0, .bool false, .int .i64 0, .int .i64 0, .int .i64 0] : Value).cells (l.length * 5)) 83)) := by
  intro w
  have h := run_make (P := Tryz.prog) w 33 83 i0 _ Tryz.underlying33 hi hz0 .i64 .i64 l.length l.length (by omega) (by omega) (by rw [hz2]; omega) (by omega)
  simpa [hz1] using h
 clear hi hz0 hz1 hz2
 have BN : Blk (w.alloc (.cells (madeCells (.agg #[.int .i64 0, .bool false, .int .i64 0, .int .i64 0, .int .i64 0] : Value).cells (l.length * 5)) 83)) w.heap.size 83 (l.length * 5) := by
  have h := Blk.new w (madeCells (.agg #[.int .i64 0, .bool false, .int .i64 0, .int .i64 0, .int .i64 0] : Value).cells (l.length * 5)) 83
  rwa [size_madeCells] at h
 go_enter Tryz.func64, Tryz.ntmps64
 go_wp2
 clear hmk
 go_loopw [11] (fun i wr => ∃ k : Nat, k ≤ l.length ∧ i = .int .i64 k ∧ wr.rangeAt w.heap.size 0 (cellsOf vrC (l.take k)) ∧ Blk wr w.heap.size 83 (l.length * 5) ∧ w.heap.size < wr.heap.size ∧ Below w.heap.size w wr) (fun i _ => l.length - (intOf i).toNat)
 case atStart => exact ⟨0, Nat.zero_le _, rfl, by simp [cellsOf, World.rangeAt], BN, by simp, (Below.refl _ _).alloc (Nat.le_refl _) _⟩
 case round =>
  obtain ⟨k, hk, rfl, R, TB, hz, bel⟩ := hrel
  have T := TB.there 0 (l.length * 5) (by omega)
  by_cases hlt : k < l.length
  ·rcases hS with h0 | ⟨bb, off, rfl, hbb, R0⟩
   ·omega
   ·obtain ⟨pb, po, hp1, hp2, hp3⟩ := (Q.below (bel.mono hB)).at' k hlt
    have hkp : k < ps.length := by rw [Q.len]; exact hlt
    have hc : wr.cell? ⟨bb, off + k, none⟩ = some (.pointer (some ⟨pb, po, none⟩)) := by
     have h1 := (rangeAt_elem (sz := 1) (f := ptrC) (fun _ => rfl) (rangeAt_below R0 (bel.mono hB) hbb) k hkp) 0 (.pointer (some ps[k])) rfl
     rw [List.getElem?_eq_getElem hkp] at hp1
     rw [Option.some.inj hp1, Nat.mul_one, Nat.add_zero] at h1
     exact h1
    clear R0 hp1 hkp
    have hk5 : k * 5 + 5 ≤ l.length * 5 := by omega
    have hlen : (cellsOf vrC (l.take k)).length = k * 5 := by rw [cellsOf_length (sz := 5) (fun _ => rfl), List.length_take]; omega
    have T2 := there_part T (k * 5) 5 hk5
    have G := rangeAt_grow R (vs := vrC l[k]) (by rw [hlen]; exact T2)
    rw [hlen, ← cellsOf_snoc, ← List.take_succ_eq_append_getElem hlt] at G
    simp only [Nat.zero_add] at G T2
    clear R hlen
    go_wp2_with (first | (refine wpList_load_mid rfl 83 (.tmp 19) rfl pb po rfl (vrC l[k]) _ ?hc Tryz.underlying83 rfl (sizeVerL _) ?_) | (refine wpList_store_mid rfl 83 (.tmp 21) (.tmp 20) rfl w.heap.size (k * 5) _ rfl rfl ?ht ?hi ?h1 ?_))
    case hc => exact hp3
    case ht => exact T2
    case hi => exact sizeVer _
    case h1 => simp [vrC, Value.oneCell']
    go_roundw
    case rel => exact ⟨k + 1, by omega, by go_num, G, TB.setCells _ _ _, by rw [setCells_size]; omega, Below.setCells (Nat.le_refl _) _ _ _ bel⟩
    case measure => simp [intOf]; omega
  ·obtain rfl : k = l.length := by omega
   go_wp2
   go_ret
   exact ⟨rfl, by simpa using R, TB, hz, bel⟩
theorem copiedInts_face (B : Nat) (v : Value) (l : List Int) (w : World) (hB : B ≤ w.heap.size) (hl : l.length ≤ 1048576) (S : SliceAt B w v l.length (cellsOf intC l)) :
  Calls Tryz.prog 56 #[v] w fun e w' => e = .returned (.slice (some ⟨w.heap.size, 0, none⟩) l.length l.length) ∧ w'.rangeAt w.heap.size 0 (cellsOf intC l) ∧ Blk w' w.heap.size 2 l.length ∧ w.heap.size < w'.heap.size ∧ Below w.heap.size w w' :=
 (copiedInts_new B v l w hB hl S).mono (fun e w' h => ⟨h.1, h.2.2.1, h.2.1, h.2.1.lt, h.2.2.2⟩)
set_option maxHeartbeats 4000000 in
theorem face_new (B : Nat) (cb : Nat) (s g n r : Value) (A : Ar) (w : World) (hB : B ≤ w.heap.size) (hA : A.size ≤ 1048576) (C : CellsAt B w cb s g n r A) :
  Calls Tryz.prog 28 #[.pointer (some ⟨cb, 0, none⟩)] w fun e w' => ∃ s' g' n' r' b0 b1 b2 b3, e = .returned (.agg #[.int .i64 A.camera, s', g', n', r']) ∧ NewArena w.heap.size w' s' g' n' r' A b0 b1 b2 b3 ∧ TypA w' A b0 b1 b2 b3 ∧ Below w.heap.size w w' := by
 unfold Ar.size at hA
 have hne : cb ≠ w.heap.size := by have := C.blk; omega
 have hne' : w.heap.size ≠ cb := hne.symm
 have K0 : Below w.heap.size w (w.alloc (Obj.cells #[.int .i64 0, .slice none 0 0, .slice none 0 0, .slice none 0 0, .slice none 0 0] 35)) := (Below.refl _ _).alloc (Nat.le_refl _) _
 have Z0 : (w.alloc (Obj.cells #[.int .i64 0, .slice none 0 0, .slice none 0 0, .slice none 0 0, .slice none 0 0] 35)).rangeAt w.heap.size 0 [.int .i64 0, .slice none 0 0, .slice none 0 0, .slice none 0 0, .slice none 0 0] := rangeAt_new w [.int .i64 0, .slice none 0 0, .slice none 0 0, .slice none 0 0, .slice none 0 0] 35
 have F0 : (w.alloc (Obj.cells #[.int .i64 0, .slice none 0 0, .slice none 0 0, .slice none 0 0, .slice none 0 0] 35)).there w.heap.size 0 5 := there_new w #[.int .i64 0, .slice none 0 0, .slice none 0 0, .slice none 0 0, .slice none 0 0] 35 5 (by decide)
 have hz0 : w.heap.size < (w.alloc (Obj.cells #[.int .i64 0, .slice none 0 0, .slice none 0 0, .slice none 0 0, .slice none 0 0] 35)).heap.size := by simp
 have tk0 : True := trivial
 go_enter Tryz.func28, Tryz.ntmps28
 go_wp2
 generalize w.alloc (Obj.cells #[.int .i64 0, .slice none 0 0, .slice none 0 0, .slice none 0 0, .slice none 0 0] 35) = w0 at K0 Z0 F0 hz0 ⊢
 obtain ⟨x0, x1, x2, x3, x4⟩ := row5 (C.below (K0.mono hB)).row
 go_region_held3 (fun w' => w'.cell? ⟨cb, 0, none⟩ = some (.int .i64 A.camera) ∧ w'.cell? ⟨cb, 1, none⟩ = some s ∧ w'.cell? ⟨cb, 2, none⟩ = some g ∧ w'.cell? ⟨cb, 3, none⟩ = some n ∧ w'.cell? ⟨cb, 4, none⟩ = some r) (go_keep) (first
  | (clear tk0; go_at_call 56; refine (copiedInts_face B s A.slots _ (by exact (Nat.le_trans hB K0.size)) (by omega) (by exact (C.below ((K0.drew).mono hB)).s)).mono ?_; rintro e w1 ⟨rfl, R1, U1, z1, b1⟩; have tk1 : True := trivial; have L1 : Below w0.heap.size w0 w1 := (by exact ⟨b1.os, b1.tape, b1.output, b1.size, b1.block⟩); have K1 : Below w.heap.size w w1 := (by exact K0.trans (L1.mono (by exact K0.size))); have Z1 := rangeAt_below Z0 L1 hz0; have F1 := there_below F0 L1 hz0; have hz1 := Nat.lt_of_lt_of_le hz0 L1.size; obtain ⟨y0, y1, y2, y3, y4⟩ := row5 (C.below (K1.mono hB)).row)
  | (clear tk1; go_at_call 56; refine (copiedInts_face B g A.guides _ (by exact (Nat.le_trans hB K1.size)) (by omega) (by exact (C.below (K1.mono hB)).g)).mono ?_; rintro e w2 ⟨rfl, R2, U2, z2, b2⟩; have tk2 : True := trivial; have K2 : Below w.heap.size w w2 := (by exact K1.trans (b2.mono (by exact K1.size))); have Z2 := rangeAt_below Z1 b2 hz1; have F2 := there_below F1 b2 hz1; have hz2 := Nat.lt_of_lt_of_le hz1 b2.size; obtain ⟨y0, y1, y2, y3, y4⟩ := row5 (C.below (K2.mono hB)).row)
  | (clear tk2; go_at_call 63; refine (valuesOfNode_new B n A.nodes _ (by exact (Nat.le_trans hB K2.size)) (by omega) (by exact (C.below (K2.mono hB)).n)).mono ?_; rintro e w3 ⟨rfl, R3, U3, z3, b3⟩; have tk3 : True := trivial; have K3 : Below w.heap.size w w3 := (by exact K2.trans (b3.mono (by exact K2.size))); have Z3 := rangeAt_below Z2 b3 hz2; have F3 := there_below F2 b3 hz2; have hz3 := Nat.lt_of_lt_of_le hz2 b3.size; obtain ⟨y0, y1, y2, y3, y4⟩ := row5 (C.below (K3.mono hB)).row)
  | (clear tk3; go_at_call 64; refine (valuesOfVer_new B r A.vers _ (by exact (Nat.le_trans hB K3.size)) (by omega) (by exact (C.below (K3.mono hB)).r)).mono ?_; rintro e w4 ⟨rfl, R4, U4, z4, b4⟩; have tk4 : True := trivial; have K4 : Below w.heap.size w w4 := (by exact K3.trans (b4.mono (by exact K3.size))); have Z4 := rangeAt_below Z3 b4 hz3; have F4 := there_below F3 b4 hz3; have hz4 := Nat.lt_of_lt_of_le hz3 b4.size; obtain ⟨y0, y1, y2, y3, y4⟩ := row5 (C.below (K4.mono hB)).row; obtain ⟨u0, u1, u2, u3, u4⟩ := row5 Z4; have v0 : w4.frozen? ⟨w.heap.size, 0, none⟩ = false := (by have := (F4 0 (by omega)).2; simpa using this); have v1 : w4.frozen? ⟨w.heap.size, 1, none⟩ = false := (by have := (F4 1 (by omega)).2; simpa using this); have v2 : w4.frozen? ⟨w.heap.size, 2, none⟩ = false := (by have := (F4 2 (by omega)).2; simpa using this); have v3 : w4.frozen? ⟨w.heap.size, 3, none⟩ = false := (by have := (F4 3 (by omega)).2; simpa using this); have v4 : w4.frozen? ⟨w.heap.size, 4, none⟩ = false := (by have := (F4 4 (by omega)).2; simpa using this)))
 obtain ⟨vs, hvs⟩ : ∃ vs : List Value, vs = [.int .i64 A.camera, .slice (some ⟨w0.heap.size, 0, none⟩) A.slots.length A.slots.length, .slice (some ⟨w1.heap.size, 0, none⟩) A.guides.length A.guides.length, .slice (some ⟨w2.heap.size, 0, none⟩) A.nodes.length A.nodes.length, .slice (some ⟨w3.heap.size, 0, none⟩) A.vers.length A.vers.length] := ⟨_, rfl⟩
 have hW : ((((w4.setCell ⟨w.heap.size, 0, none⟩ (.int .i64 A.camera)).setCell ⟨w.heap.size, 1, none⟩ (.slice (some ⟨w0.heap.size, 0, none⟩) A.slots.length A.slots.length)).setCell ⟨w.heap.size, 2, none⟩ (.slice (some ⟨w1.heap.size, 0, none⟩) A.guides.length A.guides.length)).setCell ⟨w.heap.size, 3, none⟩ (.slice (some ⟨w2.heap.size, 0, none⟩) A.nodes.length A.nodes.length)).setCell ⟨w.heap.size, 4, none⟩ (.slice (some ⟨w3.heap.size, 0, none⟩) A.vers.length A.vers.length) = w4.setCells w.heap.size 0 vs := by rw [hvs]; rfl
 rw [hW]
 have e0 : w0.drew.heap.size = w0.heap.size := rfl
 rw [e0] at R1 U1 z1
 have T1 := U1.there 0 A.slots.length (by omega)
 have T2 := U2.there 0 A.guides.length (by omega)
 have T3 := U3.there 0 (A.nodes.length * 3) (by omega)
 have T4 := U4.there 0 (A.vers.length * 5) (by omega)
 have V0 : TypA (w4.setCells w.heap.size 0 vs) A w0.heap.size w1.heap.size w2.heap.size w3.heap.size := ⟨fun _ => ⟨_, ((U1.below b2 U1.lt).grown b3 |>.grown b4).setCells _ _ _⟩, fun _ => ⟨_, ((U2.grown b3).grown b4).setCells _ _ _⟩, fun _ => ⟨_, (U3.grown b4).setCells _ _ _⟩, fun _ => ⟨_, U4.setCells _ _ _⟩⟩
 have k1 := K1.size
 have k2 := b2.size
 have k3 := b3.size
 have k4 := b4.size
 have l1 := L1.size
 have RR : (w4.setCells w.heap.size 0 vs).rangeAt w.heap.size 0 vs := World.rangeAt_setCells_same _ _ _ _ (by rw [hvs]; exact F4)
 have N0 : NewList w.heap.size (w4.setCells w.heap.size 0 vs) (.slice (some ⟨w0.heap.size, 0, none⟩) A.slots.length A.slots.length) A.slots.length 1 (cellsOf intC A.slots) w0.heap.size :=
  ⟨_, _, 0, rfl, Or.inr ⟨rfl, by omega, by rw [setCells_size]; omega, World.rangeAt_setCells_apart (rangeAt_below (rangeAt_below (rangeAt_below R1 b2 (by omega)) b3 (by omega)) b4 (by omega)) _ _ _ (Or.inl (by omega)), by rw [Nat.mul_one]; exact World.there_setCells (there_below (there_below (there_below T1 b2 (by omega)) b3 (by omega)) b4 (by omega)) _ _ _⟩⟩
 have N1 : NewList w.heap.size (w4.setCells w.heap.size 0 vs) (.slice (some ⟨w1.heap.size, 0, none⟩) A.guides.length A.guides.length) A.guides.length 1 (cellsOf intC A.guides) w1.heap.size :=
  ⟨_, _, 0, rfl, Or.inr ⟨rfl, by omega, by rw [setCells_size]; omega, World.rangeAt_setCells_apart (rangeAt_below (rangeAt_below R2 b3 (by omega)) b4 (by omega)) _ _ _ (Or.inl (by omega)), by rw [Nat.mul_one]; exact World.there_setCells (there_below (there_below T2 b3 (by omega)) b4 (by omega)) _ _ _⟩⟩
 have N2 : NewList w.heap.size (w4.setCells w.heap.size 0 vs) (.slice (some ⟨w2.heap.size, 0, none⟩) A.nodes.length A.nodes.length) A.nodes.length 3 (cellsOf ndC A.nodes) w2.heap.size :=
  ⟨_, _, 0, rfl, Or.inr ⟨rfl, by omega, by rw [setCells_size]; omega, World.rangeAt_setCells_apart (rangeAt_below R3 b4 (by omega)) _ _ _ (Or.inl (by omega)), World.there_setCells (there_below T3 b4 (by omega)) _ _ _⟩⟩
 have N3 : NewList w.heap.size (w4.setCells w.heap.size 0 vs) (.slice (some ⟨w3.heap.size, 0, none⟩) A.vers.length A.vers.length) A.vers.length 5 (cellsOf vrC A.vers) w3.heap.size :=
  ⟨_, _, 0, rfl, Or.inr ⟨rfl, by omega, by rw [setCells_size]; omega, World.rangeAt_setCells_apart R4 _ _ _ (Or.inl (by omega)), World.there_setCells T4 _ _ _⟩⟩
 have KF := Below.setCells (Nat.le_refl w.heap.size) vs 0 _ K4
 clear hW R1 R2 R3 R4 T1 T2 T3 T4 u0 u1 u2 u3 u4 v0 v1 v2 v3 v4 F0 F1 F2 F3 F4 Z0 Z1 Z2 Z3 Z4
 go_wp2
 refine bodyPost_ret (v := .agg #[.int .i64 A.camera, .slice (some ⟨w0.heap.size, 0, none⟩) A.slots.length A.slots.length, .slice (some ⟨w1.heap.size, 0, none⟩) A.guides.length A.guides.length, .slice (some ⟨w2.heap.size, 0, none⟩) A.nodes.length A.nodes.length, .slice (some ⟨w3.heap.size, 0, none⟩) A.vers.length A.vers.length]) ?_ rfl ⟨_, _, _, _, _, _, _, _, rfl, ⟨N0, N1, N2, N3, by omega, by omega, by omega, by omega, by omega, by omega⟩, V0, KF⟩
 subst hvs
 exact results_row Tryz.results28 _ _ w.heap.size 0 rfl [.int .i64 A.camera, .slice (some ⟨w0.heap.size, 0, none⟩) A.slots.length A.slots.length, .slice (some ⟨w1.heap.size, 0, none⟩) A.guides.length A.guides.length, .slice (some ⟨w2.heap.size, 0, none⟩) A.nodes.length A.nodes.length, .slice (some ⟨w3.heap.size, 0, none⟩) A.vers.length A.vers.length] _ RR Tryz.underlying35 rfl infoArena
end
section
def zeroA : Ar := ⟨0, [], [], [], []⟩
theorem zeroA_new (lo : Nat) (w : World) : NewArena lo w (.slice none 0 0) (.slice none 0 0) (.slice none 0 0) (.slice none 0 0) zeroA 0 1 2 3 :=
 ⟨⟨_, _, 0, rfl, Or.inl rfl⟩, ⟨_, _, 0, rfl, Or.inl rfl⟩, ⟨_, _, 0, rfl, Or.inl rfl⟩, ⟨_, _, 0, rfl, Or.inl rfl⟩, by decide, by decide, by decide, by decide, by decide, by decide⟩
theorem zeroA_typ (w : World) : TypA w zeroA 0 1 2 3 := ⟨fun p => absurd p (Nat.lt_irrefl 0), fun p => absurd p (Nat.lt_irrefl 0), fun p => absurd p (Nat.lt_irrefl 0), fun p => absurd p (Nat.lt_irrefl 0)⟩
theorem NewArena.elder' {lo c : Nat} {w w' : World} {s g n r : Value} {A : Ar} {b0 b1 b2 b3 : Nat} (N : NewArena lo w s g n r A b0 b1 b2 b3) (hc : c < lo) (k : Only c w w') : NewArena lo w' s g n r A b0 b1 b2 b3 := by
 have O : But (fun q => q = c) w w' := But.of_only k rfl
 exact ⟨N.s.but O (fun h e => by have := N.s.lt h; omega), N.g.but O (fun h e => by have := N.g.lt h; omega), N.n.but O (fun h e => by have := N.n.lt h; omega), N.r.but O (fun h e => by have := N.r.lt h; omega), N.d01, N.d02, N.d03, N.d12, N.d13, N.d23⟩
def SealAns (w : World) (R : Ar × Hd × Dd) (ok : Bool) (e : Ending) (w' : World) : Prop := ∃ s g n r b0 b1 b2 b3, e = .returned (.tuple #[.agg (doneC R.1.camera s g n r R.2.1 R.2.2 false).toArray, .bool ok]) ∧ NewArena w.heap.size w' s g n r R.1 b0 b1 b2 b3 ∧ TypA w' R.1 b0 b1 b2 b3 ∧ Below w.heap.size w w'
theorem SealAns.of {w w' : World} {A : Ar} {h : Hd} {d : Dd} {ok : Bool} {e : Ending} {s g n r : Value} {b0 b1 b2 b3 : Nat} (h1 : e = .returned (.tuple #[.agg (doneC A.camera s g n r h d false).toArray, .bool ok])) (h2 : NewArena w.heap.size w' s g n r A b0 b1 b2 b3) (h4 : TypA w' A b0 b1 b2 b3) (h3 : Below w.heap.size w w') : SealAns w (A, h, d) ok e w' := ⟨s, g, n, r, b0, b1, b2, b3, h1, h2, h4, h3⟩
def NewA (lo : Nat) (A : Ar) (x : Value) (w : World) : Prop := ∃ s g n r b0 b1 b2 b3, x = .agg #[.int .i64 A.camera, s, g, n, r] ∧ NewArena lo w s g n r A b0 b1 b2 b3 ∧ TypA w A b0 b1 b2 b3
theorem NewA.kept {lo : Nat} {A : Ar} {x : Value} {w w' : World} (h : NewA lo A x w) (hb : Below w.heap.size w w') : NewA lo A x w' := by
 obtain ⟨s, g, n, r, b0, b1, b2, b3, e, N, Ty⟩ := h
 exact ⟨s, g, n, r, b0, b1, b2, b3, e, N.below hb, Ty.kept hb⟩
theorem newList_slice {lo : Nat} {w : World} {v : Value} {len sz : Nat} {cs : List Value} {b : Nat} (N : NewList lo w v len sz cs b) : ∃ a c, v = .slice a len c := by
 obtain ⟨a, c, o, e, -⟩ := N
 exact ⟨a, c, e⟩
def SpecAns (w : World) (R : Ar × Hd × Dd) (ok : Bool) (e : Ending) (w' : World) : Prop := ∃ s g n r, e = .returned (.tuple #[.agg (doneC R.1.camera s g n r R.2.1 R.2.2 false).toArray, .bool ok]) ∧ OwnAr w.heap.size w' s g n r R.1 ∧ Below w.heap.size w w'
theorem SpecAns.of {w w' : World} {A : Ar} {h : Hd} {d : Dd} {ok : Bool} {e : Ending} {s g n r : Value} (h1 : e = .returned (.tuple #[.agg (doneC A.camera s g n r h d false).toArray, .bool ok])) (h2 : OwnAr w.heap.size w' s g n r A) (h3 : Below w.heap.size w w') : SpecAns w (A, h, d) ok e w' := ⟨s, g, n, r, h1, h2, h3⟩
theorem zeroA_own (base : Nat) (w : World) : OwnAr base w (.slice none 0 0) (.slice none 0 0) (.slice none 0 0) (.slice none 0 0) zeroA :=
 ⟨⟨rfl, Or.inl ⟨rfl, rfl⟩⟩, ⟨rfl, Or.inl ⟨rfl, rfl⟩⟩, ⟨rfl, Or.inl ⟨rfl, rfl⟩⟩, ⟨rfl, Or.inl ⟨rfl, rfl⟩⟩, fun b h => by cases h⟩
theorem OwnAr.aside {base : Nat} {w w' : World} {s g n r : Value} {A : Ar} (O : OwnAr base w s g n r A) {q m : Nat} {t : TypeId} (hq : Blk w q t m) (h1 : 2 ≠ t) (h2 : 86 ≠ t) (h3 : 83 ≠ t) (k : Only q w w') : OwnAr base w' s g n r A := by
 have B : But (fun c => c = q) w w' := But.of_only k rfl
 exact ⟨row_but O.rs B (fun c m _ hc => hc.ne hq h1), row_but O.rg B (fun c m _ hc => hc.ne hq h1), row_but O.rn B (fun c m _ hc => hc.ne hq h2), row_but O.rr B (fun c m _ hc => hc.ne hq h3), O.ne⟩
theorem arenaB_pos {x y z u : Int} {A : Ar} (h : arenaB x y z u A = true) : 0 < A.slots.length ∧ 0 < A.guides.length ∧ 0 < A.nodes.length ∧ 0 < A.vers.length := by
 obtain ⟨h1, -⟩ := arenaB_parts h
 simp only [headB, planB, Bool.and_eq_true, inB_iff, beq_iff_eq] at h1
 omega
theorem own_ge' {w : World} {base : Nat} {e : TypeId} {sz : Nat} {v : Value} {n : Nat} {xs : List Value} (h : w.ownsRow base e sz v n xs) {j : Nat} (hj : v.ownBlock = some j) : base ≤ j := by
 rcases h.2 with ⟨rfl, -⟩ | ⟨g, cap, cur, rfl, hg, -⟩
 ·cases hj
 ·simp [Value.ownBlock] at hj
  omega
theorem SwapEnd.lower {base : Nat} {w w' : World} {s g n r s' g' n' r' : Value} {A A' : Ar} (E : SwapEnd base w w' s g n r s' g' n' r' A') (O : OwnAr base w s g n r A) (hb : base ≤ w.heap.size) : Below base w w' :=
 E.but.below hb (fun k hk => by rcases hk with hk | hk | hk | hk; exact own_ge' O.rs hk; exact own_ge' O.rg hk; exact own_ge' O.rn hk; exact own_ge' O.rr hk)
end
end Go.Proofs.YtlfjhcdjgoeafaaGreatDoor
