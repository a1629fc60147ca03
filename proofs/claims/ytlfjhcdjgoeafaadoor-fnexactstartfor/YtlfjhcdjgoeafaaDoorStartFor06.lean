/-
  What the law's proof goes by, part 7.
-/
import Derived.Test.YtlfjhcdjgoeafaaDoorStartFor00
import Derived.Test.YtlfjhcdjgoeafaaDoorStartFor04
import Derived.Test.YtlfjhcdjgoeafaaDoorStartFor05
namespace Go.Proofs.YtlfjhcdjgoeafaaDoor
open Go.ChangeShapes Go.WideShapes Go.ChangeAt Go.RowKit
set_option linter.unusedVariables false
set_option linter.unusedSimpArgs false
set_option linter.unnecessarySimpa false
set_option linter.unusedSectionVars false
section
attribute [local go_sem ↓] Go.wp_at_zero Go.wp_at_succ
theorem cellsOf_all {α : Type} {f : α → List Value} (hf : ∀ x, ∀ v ∈ f x, v.oneCell' = true) (l : List α) : ∀ v ∈ cellsOf f l, v.oneCell' = true := by
 intro v hv
 obtain ⟨x, _, hx⟩ := List.mem_flatMap.1 hv
 exact hf x v hx
theorem one_int (x : Int) : ∀ v ∈ intC x, v.oneCell' = true := by intro v hv; simp [intC] at hv; subst hv; rfl
theorem one_nd (x : Nd) : ∀ v ∈ ndC x, v.oneCell' = true := by intro v hv; simp [ndC] at hv; rcases hv with rfl | rfl | rfl <;> rfl
theorem one_vr (x : Vr) : ∀ v ∈ vrC x, v.oneCell' = true := by intro v hv; simp [vrC] at hv; rcases hv with rfl | rfl | rfl | rfl | rfl <;> rfl
theorem sizeIC : (Tryd.prog.info? 2).map (·.size) = some 1 := by kernel_rfl
set_option maxRecDepth 100000 in
set_option maxHeartbeats 1000000 in
theorem copiedInts_new (B : Nat) (v : Value) (l : List Int) (w : World) (hB : B ≤ w.heap.size) (hl : l.length ≤ 1048576) (S : SliceAt B w v l.length (cellsOf intC l)) :
  Calls Tryd.prog 54 #[v] w fun e w' => e = .returned (.slice (some ⟨w.heap.size, 0, none⟩) l.length l.length) ∧ Blk w' w.heap.size 2 l.length ∧ w'.rangeAt w.heap.size 0 (cellsOf intC l) ∧ Below w.heap.size w w' := by
 obtain ⟨a, cap, rfl, hS⟩ := S
 have hmk : ∀ w : World, (Instr.makeSlice 24 (.int .i64 (l.length : Int)) (.int .i64 (l.length : Int))).run Tryd.prog w = .ok (.slice (some ⟨w.heap.size, 0, none⟩) l.length l.length) (w.alloc (.cells (madeCells #[Value.int IntKind.i64 0] l.length) 2)) := fun w => run_make_row' (P := Tryd.prog) 24 2 (.int .i64 0) 8 Tryd.underlying24 infoI rfl .i64 .i64 l.length (by omega) (by omega) w
 have al := (Below.refl w.heap.size w).alloc (Nat.le_refl _) (.cells (madeCells #[Value.int IntKind.i64 0] l.length) 2)
 have B1 := Blk.new w (madeCells #[Value.int IntKind.i64 0] l.length) 2
 rw [size_madeCells] at B1
 have hlen : (cellsOf intC l).length = l.length * 1 := cellsOf_length (sz := 1) (fun _ => rfl) l
 have T1 := B1.there 0 (l.length * 1) (by omega)
 have hsrc : 0 < l.length → ∃ ad, a = some ad ∧ ∀ j v, (cellsOf intC l)[j]? = some v → (w.alloc (.cells (madeCells #[Value.int IntKind.i64 0] l.length) 2)).cell? (ad.add j) = some v := by
  intro hp
  rcases hS with h0 | ⟨bb, off, rfl, hbb, R0⟩
  ·omega
  ·refine ⟨_, rfl, fun j v hj => ?_⟩
   have := (rangeAt_below R0 (al.mono hB) hbb) j v hj
   have ea : (⟨bb, off, none⟩ : Addr).add j = ⟨bb, off + j, none⟩ := by unfold Addr.add; split <;> simp_all
   rw [ea]
   exact this
 have hone := cellsOf_all one_int l
 go_enter Tryd.func54, Tryd.ntmps54
 obtain ⟨cs, hcs⟩ : ∃ cs, cs = cellsOf intC l := ⟨_, rfl⟩
 rw [← hcs] at hlen hsrc hone ⊢
 clear hcs hS
 go_wp2_with (refine wpList_copy_whole rfl (.tmp 7) (.tmp 8) 24 24 rfl 2 Tryd.underlying24 1 sizeIC a w.heap.size l.length l.length cap ?kd ?ks cs hlen ?kc ?kt hone ?_)
 try (case kd => rfl)
 try (case ks => rfl)
 try (case kc => exact hsrc)
 try (case kt => exact T1)
 go_wp2
 go_ret
 refine ⟨rfl, B1.setCells _ _ _, World.rangeAt_setCells_same _ _ _ _ (by rw [hlen]; exact T1), Below.setCells (Nat.le_refl _) _ _ _ al⟩
set_option maxRecDepth 100000 in
set_option maxHeartbeats 1000000 in
theorem copiedNode_new (B : Nat) (v : Value) (l : List Nd) (w : World) (hB : B ≤ w.heap.size) (hl : l.length ≤ 1048576) (S : SliceAt B w v l.length (cellsOf ndC l)) :
  Calls Tryd.prog 76 #[v] w fun e w' => e = .returned (.slice (some ⟨w.heap.size, 0, none⟩) l.length l.length) ∧ Blk w' w.heap.size 74 (l.length * 3) ∧ w'.rangeAt w.heap.size 0 (cellsOf ndC l) ∧ Below w.heap.size w w' := by
 obtain ⟨a, cap, rfl, hS⟩ := S
 obtain ⟨i0, hi, hz0, hz1, hz2⟩ := info_parts infoNode
 have hmk : ∀ w : World, (Instr.makeSlice 30 (.int .i64 (l.length : Int)) (.int .i64 (l.length : Int))).run Tryd.prog w = .ok (.slice (some ⟨w.heap.size, 0, none⟩) l.length l.length) (w.alloc (.cells (madeCells (.agg #[.int .i64 0, .int .i64 0, .int .i64 0] : Value).cells (l.length * 3)) 74)) := by
  intro w
  have h := run_make (P := Tryd.prog) w 30 74 i0 _ Tryd.underlying30 hi hz0 .i64 .i64 l.length l.length (by omega) (by omega) (by rw [hz2]; omega) (by omega)
  simpa [hz1] using h
 clear hi hz0 hz1 hz2
 have al := (Below.refl w.heap.size w).alloc (Nat.le_refl _) (.cells (madeCells (.agg #[.int .i64 0, .int .i64 0, .int .i64 0] : Value).cells (l.length * 3)) 74)
 have B1 := Blk.new w (madeCells (.agg #[.int .i64 0, .int .i64 0, .int .i64 0] : Value).cells (l.length * 3)) 74
 rw [size_madeCells] at B1
 have hlen : (cellsOf ndC l).length = l.length * 3 := cellsOf_length (sz := 3) (fun _ => rfl) l
 have T1 := B1.there 0 (l.length * 3) (by omega)
 have hsrc : 0 < l.length → ∃ ad, a = some ad ∧ ∀ j v, (cellsOf ndC l)[j]? = some v → (w.alloc (.cells (madeCells (.agg #[.int .i64 0, .int .i64 0, .int .i64 0] : Value).cells (l.length * 3)) 74)).cell? (ad.add j) = some v := by
  intro hp
  rcases hS with h0 | ⟨bb, off, rfl, hbb, R0⟩
  ·omega
  ·refine ⟨_, rfl, fun j v hj => ?_⟩
   have := (rangeAt_below R0 (al.mono hB) hbb) j v hj
   have ea : (⟨bb, off, none⟩ : Addr).add j = ⟨bb, off + j, none⟩ := by unfold Addr.add; split <;> simp_all
   rw [ea]
   exact this
 have hone := cellsOf_all one_nd l
 go_enter Tryd.func76, Tryd.ntmps76
 obtain ⟨cs, hcs⟩ : ∃ cs, cs = cellsOf ndC l := ⟨_, rfl⟩
 rw [← hcs] at hlen hsrc hone ⊢
 clear hcs hS
 go_wp2_with (refine wpList_copy_whole rfl (.tmp 7) (.tmp 8) 30 30 rfl 74 Tryd.underlying30 3 (sizeNodeL ⟨0, 0, 0⟩) a w.heap.size l.length l.length cap ?kd ?ks cs hlen ?kc ?kt hone ?_)
 try (case kd => rfl)
 try (case ks => rfl)
 try (case kc => exact hsrc)
 try (case kt => exact T1)
 go_wp2
 go_ret
 refine ⟨rfl, B1.setCells _ _ _, World.rangeAt_setCells_same _ _ _ _ (by rw [hlen]; exact T1), Below.setCells (Nat.le_refl _) _ _ _ al⟩
set_option maxRecDepth 100000 in
set_option maxHeartbeats 1000000 in
theorem copiedVer_new (B : Nat) (v : Value) (l : List Vr) (w : World) (hB : B ≤ w.heap.size) (hl : l.length ≤ 1048576) (S : SliceAt B w v l.length (cellsOf vrC l)) :
  Calls Tryd.prog 77 #[v] w fun e w' => e = .returned (.slice (some ⟨w.heap.size, 0, none⟩) l.length l.length) ∧ Blk w' w.heap.size 60 (l.length * 5) ∧ w'.rangeAt w.heap.size 0 (cellsOf vrC l) ∧ Below w.heap.size w w' := by
 obtain ⟨a, cap, rfl, hS⟩ := S
 obtain ⟨i0, hi, hz0, hz1, hz2⟩ := info_parts infoVer
 have hmk : ∀ w : World, (Instr.makeSlice 31 (.int .i64 (l.length : Int)) (.int .i64 (l.length : Int))).run Tryd.prog w = .ok (.slice (some ⟨w.heap.size, 0, none⟩) l.length l.length) (w.alloc (.cells (madeCells (.agg #[.int .i64 0, .bool false, .int .i64 0, .int .i64 0, .int .i64 0] : Value).cells (l.length * 5)) 60)) := by
  intro w
  have h := run_make (P := Tryd.prog) w 31 60 i0 _ Tryd.underlying31 hi hz0 .i64 .i64 l.length l.length (by omega) (by omega) (by rw [hz2]; omega) (by omega)
  simpa [hz1] using h
 clear hi hz0 hz1 hz2
 have al := (Below.refl w.heap.size w).alloc (Nat.le_refl _) (.cells (madeCells (.agg #[.int .i64 0, .bool false, .int .i64 0, .int .i64 0, .int .i64 0] : Value).cells (l.length * 5)) 60)
 have B1 := Blk.new w (madeCells (.agg #[.int .i64 0, .bool false, .int .i64 0, .int .i64 0, .int .i64 0] : Value).cells (l.length * 5)) 60
 rw [size_madeCells] at B1
 have hlen : (cellsOf vrC l).length = l.length * 5 := cellsOf_length (sz := 5) (fun _ => rfl) l
 have T1 := B1.there 0 (l.length * 5) (by omega)
 have hsrc : 0 < l.length → ∃ ad, a = some ad ∧ ∀ j v, (cellsOf vrC l)[j]? = some v → (w.alloc (.cells (madeCells (.agg #[.int .i64 0, .bool false, .int .i64 0, .int .i64 0, .int .i64 0] : Value).cells (l.length * 5)) 60)).cell? (ad.add j) = some v := by
  intro hp
  rcases hS with h0 | ⟨bb, off, rfl, hbb, R0⟩
  ·omega
  ·refine ⟨_, rfl, fun j v hj => ?_⟩
   have := (rangeAt_below R0 (al.mono hB) hbb) j v hj
   have ea : (⟨bb, off, none⟩ : Addr).add j = ⟨bb, off + j, none⟩ := by unfold Addr.add; split <;> simp_all
   rw [ea]
   exact this
 have hone := cellsOf_all one_vr l
 go_enter Tryd.func77, Tryd.ntmps77
 obtain ⟨cs, hcs⟩ : ∃ cs, cs = cellsOf vrC l := ⟨_, rfl⟩
 rw [← hcs] at hlen hsrc hone ⊢
 clear hcs hS
 go_wp2_with (refine wpList_copy_whole rfl (.tmp 7) (.tmp 8) 31 31 rfl 60 Tryd.underlying31 5 (sizeVerL ⟨0, false, 0, 0, 0⟩) a w.heap.size l.length l.length cap ?kd ?ks cs hlen ?kc ?kt hone ?_)
 try (case kd => rfl)
 try (case ks => rfl)
 try (case kc => exact hsrc)
 try (case kt => exact T1)
 go_wp2
 go_ret
 refine ⟨rfl, B1.setCells _ _ _, World.rangeAt_setCells_same _ _ _ _ (by rw [hlen]; exact T1), Below.setCells (Nat.le_refl _) _ _ _ al⟩
theorem infoPNode : (Tryd.prog.info? 88).map (fun i => (i.zero, i.size, i.bytes)) = some (some (.pointer none), 1, 8) := by kernel_rfl
def NodesP (lo : Nat) (l : List Nd) (v : Value) (w : World) : Prop := ∃ b ps, v = .slice (some ⟨b, 0, none⟩) l.length l.length ∧ lo ≤ b ∧ Blk w b 88 l.length ∧ w.rangeAt b 0 (cellsOf ptrC ps) ∧ OwnPtrs lo 74 3 w ndC ps l
theorem NodesP.kept {lo : Nat} {l : List Nd} {v : Value} {w w' : World} (h : NodesP lo l v w) (hb : Below w.heap.size w w') : NodesP lo l v w' := by
 obtain ⟨b, ps, h1, h2, h3, h4, h5⟩ := h
 exact ⟨b, ps, h1, h2, h3.grown hb, rangeAt_below h4 hb h3.lt, h5.grown hb⟩
set_option maxRecDepth 100000 in
set_option maxHeartbeats 1000000 in
theorem cellsForNode_new (B : Nat) (v : Value) (l : List Nd) (w : World) (hB : B ≤ w.heap.size) (hl : l.length ≤ 1048576) (S : SliceAt B w v l.length (cellsOf ndC l)) :
  Calls Tryd.prog 55 #[v] w fun e w' => ∃ v', e = .returned v' ∧ NodesP w.heap.size l v' w' ∧ Below w.heap.size w w' := by
 obtain ⟨a, cap, rfl, hS⟩ := id S
 have hmk : ∀ w : World, (Instr.makeSlice 82 (.int .i64 (l.length : Int)) (.int .i64 (l.length : Int))).run Tryd.prog w = .ok (.slice (some ⟨w.heap.size, 0, none⟩) l.length l.length) (w.alloc (.cells (madeCells #[.pointer none] l.length) 88)) := fun w => run_make_row' (P := Tryd.prog) 82 88 (.pointer none) 8 Tryd.underlying82 infoPNode rfl .i64 .i64 l.length (by omega) (by omega) w
 clear hS
 go_enter Tryd.func55, Tryd.ntmps55
 go_wp2_with fail
 refine (copiedNode_new B _ l w hB hl S).mono ?_
 rintro e w1 ⟨rfl, B1, R1, K1⟩
 have hz1 := B1.lt
 have al := (Below.refl w1.heap.size w1).alloc (Nat.le_refl _) (.cells (madeCells #[.pointer none] l.length) 88)
 have B2 := Blk.new w1 (madeCells #[.pointer none] l.length) 88
 rw [size_madeCells] at B2
 have B1' := B1.grown al
 have R1' := rangeAt_below R1 al hz1
 have K2 := K1.trans (al.mono (by omega))
 go_wp2
 clear B1 R1 K1 S hmk
 go_loopw [13] (fun i wr => ∃ k : Nat, k ≤ l.length ∧ i = .int .i64 k ∧ wr.rangeAt w1.heap.size 0 (cellsOf ptrC (rowPtrs w.heap.size 3 k)) ∧ Blk wr w1.heap.size 88 l.length ∧ Only w1.heap.size (w1.alloc (.cells (madeCells #[.pointer none] l.length) 88)) wr) (fun i _ => l.length - (intOf i).toNat)
 case atStart => exact ⟨0, Nat.zero_le _, rfl, by simp [cellsOf, rowPtrs, World.rangeAt], B2, Only.refl _ _⟩
 case round =>
  obtain ⟨k, hk, rfl, R, T, O⟩ := hrel
  by_cases hlt : k < l.length
  ·obtain ⟨tc, tf⟩ := T.there 0 l.length (by omega) k hlt
   obtain ⟨u, hu⟩ := Option.isSome_iff_exists.1 tc
   simp only [Nat.zero_add] at hu tf
   have hlen : (cellsOf ptrC (rowPtrs w.heap.size 3 k)).length = k := by rw [cellsOf_length (sz := 1) (fun _ => rfl), rowPtrs_length]; omega
   have G := rangeAt_snoc R (by rw [hlen, Nat.zero_add, hu]; rfl) (.pointer (some ⟨w.heap.size, k * 3, none⟩))
   rw [hlen, Nat.zero_add] at G
   have e1 : cellsOf ptrC (rowPtrs w.heap.size 3 (k + 1)) = cellsOf ptrC (rowPtrs w.heap.size 3 k) ++ [.pointer (some ⟨w.heap.size, k * 3, none⟩)] := by rw [rowPtrs_succ, cellsOf_snoc]; rfl
   rw [← e1] at G
   clear e1 hlen R
   go_wp2
   go_roundw
   case rel => exact ⟨k + 1, by omega, by go_num, G, T.setCell _ _, O.setCell (Or.inl rfl) _⟩
   case measure => simp [intOf]; omega
  ·obtain rfl : k = l.length := by omega
   have BB : But (fun q => q = w1.heap.size) (w1.alloc (.cells (madeCells #[.pointer none] l.length) 88)) wr := But.of_only O rfl
   have hne : ¬ (w.heap.size = w1.heap.size) := by omega
   have KF : Below w.heap.size w wr := K2.trans (O.below (by omega) (by simp; omega))
   go_wp2
   go_ret
   exact ⟨_, rfl, ⟨w1.heap.size, _, rfl, by omega, T, R, ownPtrs_row (fun _ => rfl) (Nat.le_refl _) (B1'.but BB hne) (BB.range R1' (by simp; omega) hne)⟩, KF⟩
theorem infoPVer : (Tryd.prog.info? 91).map (fun i => (i.zero, i.size, i.bytes)) = some (some (.pointer none), 1, 8) := by kernel_rfl
def VersP (lo : Nat) (l : List Vr) (v : Value) (w : World) : Prop := ∃ b ps, v = .slice (some ⟨b, 0, none⟩) l.length l.length ∧ lo ≤ b ∧ Blk w b 91 l.length ∧ w.rangeAt b 0 (cellsOf ptrC ps) ∧ OwnPtrs lo 60 5 w vrC ps l
theorem VersP.kept {lo : Nat} {l : List Vr} {v : Value} {w w' : World} (h : VersP lo l v w) (hb : Below w.heap.size w w') : VersP lo l v w' := by
 obtain ⟨b, ps, h1, h2, h3, h4, h5⟩ := h
 exact ⟨b, ps, h1, h2, h3.grown hb, rangeAt_below h4 hb h3.lt, h5.grown hb⟩
set_option maxRecDepth 100000 in
set_option maxHeartbeats 1000000 in
theorem cellsForVer_new (B : Nat) (v : Value) (l : List Vr) (w : World) (hB : B ≤ w.heap.size) (hl : l.length ≤ 1048576) (S : SliceAt B w v l.length (cellsOf vrC l)) :
  Calls Tryd.prog 56 #[v] w fun e w' => ∃ v', e = .returned v' ∧ VersP w.heap.size l v' w' ∧ Below w.heap.size w w' := by
 obtain ⟨a, cap, rfl, hS⟩ := id S
 have hmk : ∀ w : World, (Instr.makeSlice 84 (.int .i64 (l.length : Int)) (.int .i64 (l.length : Int))).run Tryd.prog w = .ok (.slice (some ⟨w.heap.size, 0, none⟩) l.length l.length) (w.alloc (.cells (madeCells #[.pointer none] l.length) 91)) := fun w => run_make_row' (P := Tryd.prog) 84 91 (.pointer none) 8 Tryd.underlying84 infoPVer rfl .i64 .i64 l.length (by omega) (by omega) w
 clear hS
 go_enter Tryd.func56, Tryd.ntmps56
 go_wp2_with fail
 refine (copiedVer_new B _ l w hB hl S).mono ?_
 rintro e w1 ⟨rfl, B1, R1, K1⟩
 have hz1 := B1.lt
 have al := (Below.refl w1.heap.size w1).alloc (Nat.le_refl _) (.cells (madeCells #[.pointer none] l.length) 91)
 have B2 := Blk.new w1 (madeCells #[.pointer none] l.length) 91
 rw [size_madeCells] at B2
 have B1' := B1.grown al
 have R1' := rangeAt_below R1 al hz1
 have K2 := K1.trans (al.mono (by omega))
 go_wp2
 clear B1 R1 K1 S hmk
 go_loopw [13] (fun i wr => ∃ k : Nat, k ≤ l.length ∧ i = .int .i64 k ∧ wr.rangeAt w1.heap.size 0 (cellsOf ptrC (rowPtrs w.heap.size 5 k)) ∧ Blk wr w1.heap.size 91 l.length ∧ Only w1.heap.size (w1.alloc (.cells (madeCells #[.pointer none] l.length) 91)) wr) (fun i _ => l.length - (intOf i).toNat)
 case atStart => exact ⟨0, Nat.zero_le _, rfl, by simp [cellsOf, rowPtrs, World.rangeAt], B2, Only.refl _ _⟩
 case round =>
  obtain ⟨k, hk, rfl, R, T, O⟩ := hrel
  by_cases hlt : k < l.length
  ·obtain ⟨tc, tf⟩ := T.there 0 l.length (by omega) k hlt
   obtain ⟨u, hu⟩ := Option.isSome_iff_exists.1 tc
   simp only [Nat.zero_add] at hu tf
   have hlen : (cellsOf ptrC (rowPtrs w.heap.size 5 k)).length = k := by rw [cellsOf_length (sz := 1) (fun _ => rfl), rowPtrs_length]; omega
   have G := rangeAt_snoc R (by rw [hlen, Nat.zero_add, hu]; rfl) (.pointer (some ⟨w.heap.size, k * 5, none⟩))
   rw [hlen, Nat.zero_add] at G
   have e1 : cellsOf ptrC (rowPtrs w.heap.size 5 (k + 1)) = cellsOf ptrC (rowPtrs w.heap.size 5 k) ++ [.pointer (some ⟨w.heap.size, k * 5, none⟩)] := by rw [rowPtrs_succ, cellsOf_snoc]; rfl
   rw [← e1] at G
   clear e1 hlen R
   go_wp2
   go_roundw
   case rel => exact ⟨k + 1, by omega, by go_num, G, T.setCell _ _, O.setCell (Or.inl rfl) _⟩
   case measure => simp [intOf]; omega
  ·obtain rfl : k = l.length := by omega
   have BB : But (fun q => q = w1.heap.size) (w1.alloc (.cells (madeCells #[.pointer none] l.length) 91)) wr := But.of_only O rfl
   have hne : ¬ (w.heap.size = w1.heap.size) := by omega
   have KF : Below w.heap.size w wr := K2.trans (O.below (by omega) (by simp; omega))
   go_wp2
   go_ret
   exact ⟨_, rfl, ⟨w1.heap.size, _, rfl, by omega, T, R, ownPtrs_row (fun _ => rfl) (Nat.le_refl _) (B1'.but BB hne) (BB.range R1' (by simp; omega) hne)⟩, KF⟩
def IntsR (lo : Nat) (l : List Int) (v : Value) (w : World) : Prop := ∃ b, v = .slice (some ⟨b, 0, none⟩) l.length l.length ∧ lo ≤ b ∧ Blk w b 2 l.length ∧ w.rangeAt b 0 (cellsOf intC l)
theorem IntsR.kept {lo : Nat} {l : List Int} {v : Value} {w w' : World} (h : IntsR lo l v w) (hb : Below w.heap.size w w') : IntsR lo l v w' := by
 obtain ⟨b, h1, h2, h3, h4⟩ := h
 exact ⟨b, h1, h2, h3.grown hb, rangeAt_below h4 hb h3.lt⟩
structure FourC (lo : Nat) (A : Ar) (s g n r : Value) (w : World) : Prop where
 ss : IntsR lo A.slots s w
 sg : IntsR lo A.guides g w
 sn : NodesP lo A.nodes n w
 sr : VersP lo A.vers r w
 ne : ∀ b, blkOf s = some b → blkOf g ≠ some b
theorem FourC.kept {lo : Nat} {A : Ar} {s g n r : Value} {w w' : World} (h : FourC lo A s g n r w) (hb : Below w.heap.size w w') : FourC lo A s g n r w' := ⟨h.ss.kept hb, h.sg.kept hb, h.sn.kept hb, h.sr.kept hb, h.ne⟩
structure OwnCells (base : Nat) (w : World) (cb : Nat) (s g n r : Value) (ps qs : List Addr) (A : Ar) : Prop where
 row : w.rangeAt cb 0 [.int .i64 A.camera, s, g, n, r]
 blk : Blk w cb 87 5
 lo : base ≤ cb
 ss : w.ownsRow base 2 1 s A.slots.length (cellsOf intC A.slots)
 sg : w.ownsRow base 2 1 g A.guides.length (cellsOf intC A.guides)
 sn : w.ownsRow base 88 1 n A.nodes.length (cellsOf ptrC ps)
 sr : w.ownsRow base 91 1 r A.vers.length (cellsOf ptrC qs)
 np : OwnPtrs base 74 3 w ndC ps A.nodes
 vp : OwnPtrs base 60 5 w vrC qs A.vers
 ne : ∀ b, s.ownBlock = some b → g.ownBlock ≠ some b
theorem row_but {S : Nat → Prop} {w w' : World} {base : Nat} {e : TypeId} {size n : Nat} {v : Value} {xs : List Value} (h : w.ownsRow base e size v n xs) (O : But S w w') (hS : ∀ b m, base ≤ b → Blk w b e m → ¬ S b) : w'.ownsRow base e size v n xs := by
 refine ⟨h.1, ?_⟩
 rcases h.2 with h0 | ⟨g, cap, cur, rfl, hg, hh, h1, h2, hs, h3⟩
 ·exact Or.inl h0
 ·have hb : Blk w g e (cap * size) := ⟨cur, hh, hs⟩
  exact Or.inr ⟨g, cap, cur, rfl, hg, (O.block g hb.lt (hS g _ hg hb)).trans hh, h1, h2, hs, h3⟩
theorem OwnCells.but {S : Nat → Prop} {base : Nat} {w w' : World} {cb : Nat} {s g n r : Value} {ps qs : List Addr} {A : Ar} (h : OwnCells base w cb s g n r ps qs A) (O : But S w w') (hS : ∀ b, base ≤ b → b < w.heap.size → ¬ S b) : OwnCells base w' cb s g n r ps qs A :=
 ⟨O.range h.row h.blk.lt (hS cb h.lo h.blk.lt), h.blk.but O (hS cb h.lo h.blk.lt), h.lo, row_but h.ss O (fun b m hb hm => hS b hb hm.lt), row_but h.sg O (fun b m hb hm => hS b hb hm.lt), row_but h.sn O (fun b m hb hm => hS b hb hm.lt), row_but h.sr O (fun b m hb hm => hS b hb hm.lt), h.np.but O (fun b m hb hm => hS b hb hm.lt), h.vp.but O (fun b m hb hm => hS b hb hm.lt), h.ne⟩
theorem OwnCells.grown {base : Nat} {w w' : World} {cb : Nat} {s g n r : Value} {ps qs : List Addr} {A : Ar} (h : OwnCells base w cb s g n r ps qs A) (hb : Below w.heap.size w w') : OwnCells base w' cb s g n r ps qs A :=
 h.but (But.of_below (S := fun q => w.heap.size ≤ q) hb) (fun b _ hl hg => by omega)
def cellsG (lo b0 : Nat) (A : Ar) (a0 a1 a2 a3 : Option Addr) (c0 c1 c2 c3 : Nat) : Nat → Value → World → Prop
 | 0, x, _ => x = .pointer (some ⟨b0, 0, none⟩)
 | 1, x, _ => x = .int .i64 A.camera
 | 2, x, _ => x = .pointer (some ⟨b0, 1, none⟩)
 | 3, x, _ => x = .slice a0 A.slots.length c0
 | 4, x, w => IntsR lo A.slots x w
 | 5, x, _ => x = .pointer (some ⟨b0, 2, none⟩)
 | 6, x, _ => x = .slice a1 A.guides.length c1
 | 7, x, w => IntsR lo A.guides x w
 | 8, x, _ => x = .pointer (some ⟨b0, 3, none⟩)
 | 9, x, _ => x = .slice a2 A.nodes.length c2
 | 10, x, w => NodesP lo A.nodes x w
 | 11, x, _ => x = .pointer (some ⟨b0, 4, none⟩)
 | 12, x, _ => x = .slice a3 A.vers.length c3
 | 13, x, w => VersP lo A.vers x w
 | 14, x, w => ∃ s g n r, x = .agg #[.int .i64 A.camera, s, g, n, r] ∧ FourC lo A s g n r w
 | 15, x, w => ∃ b s g n r, x = .pointer (some ⟨b, 0, none⟩) ∧ lo ≤ b ∧ Blk w b 87 5 ∧ w.rangeAt b 0 [.int .i64 A.camera, s, g, n, r] ∧ FourC lo A s g n r w
 | 16, x, w => ∃ b s g n r, x = .pointer (some ⟨b, 0, none⟩) ∧ lo ≤ b ∧ Blk w b 87 5 ∧ w.rangeAt b 0 [.int .i64 A.camera, s, g, n, r] ∧ FourC lo A s g n r w
 | _, _, _ => True
theorem cellsG_kept {lo b0 : Nat} {A : Ar} {a0 a1 a2 a3 : Option Addr} {c0 c1 c2 c3 : Nat} (i : Nat) (x : Value) (w w' : World) (hq : cellsG lo b0 A a0 a1 a2 a3 c0 c1 c2 c3 i x w) (hb : Below w.heap.size w w') : cellsG lo b0 A a0 a1 a2 a3 c0 c1 c2 c3 i x w' := by
 match i, hq with
 | 0, h | 1, h | 2, h | 3, h | 5, h | 6, h | 8, h | 9, h | 11, h | 12, h => exact h
 | 4, h => exact IntsR.kept h hb
 | 7, h => exact IntsR.kept h hb
 | 10, h => exact NodesP.kept h hb
 | 13, h => exact VersP.kept h hb
 | 14, h => obtain ⟨s, g, n, r, e, F⟩ := h; exact ⟨s, g, n, r, e, F.kept hb⟩
 | 15, h => obtain ⟨b, s, g, n, r, e, h1, h2, h3, F⟩ := h; exact ⟨b, s, g, n, r, e, h1, h2.grown hb, rangeAt_below h3 hb h2.lt, F.kept hb⟩
 | 16, h => obtain ⟨b, s, g, n, r, e, h1, h2, h3, F⟩ := h; exact ⟨b, s, g, n, r, e, h1, h2.grown hb, rangeAt_below h3 hb h2.lt, F.kept hb⟩
 | n + 17, h => exact trivial
set_option maxRecDepth 100000 in
set_option maxHeartbeats 4000000 in
theorem cellsOf_new (B : Nat) (A : Ar) (a0 a1 a2 a3 : Option Addr) (c0 c1 c2 c3 : Nat) (w : World) (hB : B ≤ w.heap.size) (hA : A.size ≤ 1048576) (I : ArenaIs B w (.slice a0 A.slots.length c0) (.slice a1 A.guides.length c1) (.slice a2 A.nodes.length c2) (.slice a3 A.vers.length c3) A) :
  Calls Tryd.prog 26 #[.agg #[.int .i64 A.camera, .slice a0 A.slots.length c0, .slice a1 A.guides.length c1, .slice a2 A.nodes.length c2, .slice a3 A.vers.length c3]] w fun e w' => ∃ cb s g n r ps qs, e = .returned (.pointer (some ⟨cb, 0, none⟩)) ∧ OwnCells w.heap.size w' cb s g n r ps qs A ∧ Below w.heap.size w w' := by
 unfold Ar.size at hA
 have X0 := rangeAt_new w [.int .i64 A.camera, .slice a0 A.slots.length c0, .slice a1 A.guides.length c1, .slice a2 A.nodes.length c2, .slice a3 A.vers.length c3] 33
 have K0 := (Below.refl w.heap.size w).alloc (Nat.le_refl _) (.cells #[.int .i64 A.camera, .slice a0 A.slots.length c0, .slice a1 A.guides.length c1, .slice a2 A.nodes.length c2, .slice a3 A.vers.length c3] 33)
 have hz0 : w.heap.size < (w.alloc (.cells #[.int .i64 A.camera, .slice a0 A.slots.length c0, .slice a1 A.guides.length c1, .slice a2 A.nodes.length c2, .slice a3 A.vers.length c3] 33)).heap.size := by simp
 go_enter Tryd.func26, Tryd.ntmps26
 go_wp2_with fail
 have I0 := I.below (K0.mono hB)
 generalize hw0 : w.alloc (.cells #[.int .i64 A.camera, .slice a0 A.slots.length c0, .slice a1 A.guides.length c1, .slice a2 A.nodes.length c2, .slice a3 A.vers.length c3] 33) = w0 at *
 clear hw0 I
 refine any_order_calls (by kernel_rfl) (cellsG w0.heap.size w.heap.size A a0 a1 a2 a3 c0 c1 c2 c3) (fun i => i == 4 || i == 7) (by kernel_rfl) (by kernel_rfl) (by kernel_rfl) (by rfl) (fun i v w w' _ hq hb => cellsG_kept i v w w' hq hb) ?blk ?step ?final
 case blk =>
  intro i v w b hf hG hb
  have : i = 4 ∨ i = 7 := by simpa using hf
  rcases this with rfl | rfl
  ·obtain ⟨c, rfl, _, h3, _⟩ := (show IntsR _ _ _ _ from hG)
   cases hb
   exact h3.lt
  ·obtain ⟨c, rfl, _, h3, _⟩ := (show IntsR _ _ _ _ from hG)
   cases hb
   exact h3.lt
 case step =>
  intro i o ho a V hb hn hd hq K hK
  obtain ⟨x0, x1, x2, x3, x4⟩ := row5 (rangeAt_below X0 hb (by omega))
  have IV := I0.below (hb.mono (Nat.le_trans hB K0.size))
  have hBV : B ≤ V.heap.size := Nat.le_trans (Nat.le_trans hB K0.size) hb.size
  match i, ho with
  | 0, ho =>
   obtain rfl := Option.some.inj ho
   have e1 : a.eval (.tmp 1) = .pointer (some ⟨w.heap.size, 0, none⟩) := hn 1 rfl
   refine step_value (v := .pointer (some ⟨w.heap.size, 0, none⟩)) (w' := V) ?_ (hK _ _ rfl (Below.refl _ _) (fun h => by cases h))
   generalize a.eval = ev at *
   go_simp
  | 1, ho =>
   obtain rfl := Option.some.inj ho
   have e1 : a.eval (.tmp 3) = .pointer (some ⟨w.heap.size, 0, none⟩) := hd ⟨0, .data⟩ (by simp) rfl 3 rfl
   refine step_value (v := .int .i64 A.camera) (w' := V) ?_ (hK _ _ rfl (Below.refl _ _) (fun h => by cases h))
   generalize a.eval = ev at *
   go_simp
  | 2, ho =>
   obtain rfl := Option.some.inj ho
   have e1 : a.eval (.tmp 1) = .pointer (some ⟨w.heap.size, 0, none⟩) := hn 1 rfl
   refine step_value (v := .pointer (some ⟨w.heap.size, 1, none⟩)) (w' := V) ?_ (hK _ _ rfl (Below.refl _ _) (fun h => by cases h))
   generalize a.eval = ev at *
   go_simp
  | 3, ho =>
   obtain rfl := Option.some.inj ho
   have e1 : a.eval (.tmp 5) = .pointer (some ⟨w.heap.size, 1, none⟩) := hd ⟨2, .data⟩ (by simp) rfl 5 rfl
   refine step_value (v := .slice a0 A.slots.length c0) (w' := V) ?_ (hK _ _ rfl (Below.refl _ _) (fun h => by cases h))
   generalize a.eval = ev at *
   go_simp
  | 4, ho =>
   obtain rfl := Option.some.inj ho
   have e1 : a.eval (.tmp 6) = .slice a0 A.slots.length c0 := hd ⟨3, .data⟩ (by simp) rfl 6 rfl
   have ef : a.eval (.func 54) = .func (.func 54) #[] #[] := rfl
   refine step_call (f := 54) (args := #[.slice a0 A.slots.length c0]) (R := (fun v w' => (IntsR V.heap.size A.slots v w' ∧ Below V.heap.size V w') ∧ (∀ b, blkOf v = some b → V.heap.size ≤ b))) ?_ ((copiedInts_new B (.slice a0 A.slots.length c0) A.slots V hBV (by omega) IV.s).mono (fun e w' h => ⟨_, h.1, ⟨⟨⟨V.heap.size, rfl, Nat.le_refl _, h.2.1, h.2.2.1⟩, h.2.2.2⟩, fun b hb => by cases hb; exact Nat.le_refl _⟩⟩)) (fun v w' h => hK v w' (by obtain ⟨b, h1, h2, h3⟩ := h.1.1; exact ⟨b, h1, Nat.le_trans hb.size h2, h3⟩) h.1.2 (fun _ => h.2))
   clear IV
   generalize a.eval = ev at *
   go_simp
  | 5, ho =>
   obtain rfl := Option.some.inj ho
   have e1 : a.eval (.tmp 1) = .pointer (some ⟨w.heap.size, 0, none⟩) := hn 1 rfl
   refine step_value (v := .pointer (some ⟨w.heap.size, 2, none⟩)) (w' := V) ?_ (hK _ _ rfl (Below.refl _ _) (fun h => by cases h))
   generalize a.eval = ev at *
   go_simp
  | 6, ho =>
   obtain rfl := Option.some.inj ho
   have e1 : a.eval (.tmp 8) = .pointer (some ⟨w.heap.size, 2, none⟩) := hd ⟨5, .data⟩ (by simp) rfl 8 rfl
   refine step_value (v := .slice a1 A.guides.length c1) (w' := V) ?_ (hK _ _ rfl (Below.refl _ _) (fun h => by cases h))
   generalize a.eval = ev at *
   go_simp
  | 7, ho =>
   obtain rfl := Option.some.inj ho
   have e1 : a.eval (.tmp 9) = .slice a1 A.guides.length c1 := hd ⟨6, .data⟩ (by simp) rfl 9 rfl
   have ef : a.eval (.func 54) = .func (.func 54) #[] #[] := rfl
   refine step_call (f := 54) (args := #[.slice a1 A.guides.length c1]) (R := (fun v w' => (IntsR V.heap.size A.guides v w' ∧ Below V.heap.size V w') ∧ (∀ b, blkOf v = some b → V.heap.size ≤ b))) ?_ ((copiedInts_new B (.slice a1 A.guides.length c1) A.guides V hBV (by omega) IV.g).mono (fun e w' h => ⟨_, h.1, ⟨⟨⟨V.heap.size, rfl, Nat.le_refl _, h.2.1, h.2.2.1⟩, h.2.2.2⟩, fun b hb => by cases hb; exact Nat.le_refl _⟩⟩)) (fun v w' h => hK v w' (by obtain ⟨b, h1, h2, h3⟩ := h.1.1; exact ⟨b, h1, Nat.le_trans hb.size h2, h3⟩) h.1.2 (fun _ => h.2))
   clear IV
   generalize a.eval = ev at *
   go_simp
  | 8, ho =>
   obtain rfl := Option.some.inj ho
   have e1 : a.eval (.tmp 1) = .pointer (some ⟨w.heap.size, 0, none⟩) := hn 1 rfl
   refine step_value (v := .pointer (some ⟨w.heap.size, 3, none⟩)) (w' := V) ?_ (hK _ _ rfl (Below.refl _ _) (fun h => by cases h))
   generalize a.eval = ev at *
   go_simp
  | 9, ho =>
   obtain rfl := Option.some.inj ho
   have e1 : a.eval (.tmp 11) = .pointer (some ⟨w.heap.size, 3, none⟩) := hd ⟨8, .data⟩ (by simp) rfl 11 rfl
   refine step_value (v := .slice a2 A.nodes.length c2) (w' := V) ?_ (hK _ _ rfl (Below.refl _ _) (fun h => by cases h))
   generalize a.eval = ev at *
   go_simp
  | 10, ho =>
   obtain rfl := Option.some.inj ho
   have e1 : a.eval (.tmp 12) = .slice a2 A.nodes.length c2 := hd ⟨9, .data⟩ (by simp) rfl 12 rfl
   have ef : a.eval (.func 55) = .func (.func 55) #[] #[] := rfl
   refine step_call (f := 55) (args := #[.slice a2 A.nodes.length c2]) (R := (fun v w' => NodesP V.heap.size A.nodes v w' ∧ Below V.heap.size V w')) ?_ ((cellsForNode_new B (.slice a2 A.nodes.length c2) A.nodes V hBV (by omega) IV.n).mono (fun e w' h => by obtain ⟨v', h1, h2, h3⟩ := h; exact ⟨v', h1, h2, h3⟩)) (fun v w' h => hK v w' (by obtain ⟨b, ps, h1, h2, h3, h4, h5⟩ := h.1; exact ⟨b, ps, h1, Nat.le_trans hb.size h2, h3, h4, h5.lo hb.size⟩) h.2 (fun h => by cases h))
   clear IV
   generalize a.eval = ev at *
   go_simp
  | 11, ho =>
   obtain rfl := Option.some.inj ho
   have e1 : a.eval (.tmp 1) = .pointer (some ⟨w.heap.size, 0, none⟩) := hn 1 rfl
   refine step_value (v := .pointer (some ⟨w.heap.size, 4, none⟩)) (w' := V) ?_ (hK _ _ rfl (Below.refl _ _) (fun h => by cases h))
   generalize a.eval = ev at *
   go_simp
  | 12, ho =>
   obtain rfl := Option.some.inj ho
   have e1 : a.eval (.tmp 14) = .pointer (some ⟨w.heap.size, 4, none⟩) := hd ⟨11, .data⟩ (by simp) rfl 14 rfl
   refine step_value (v := .slice a3 A.vers.length c3) (w' := V) ?_ (hK _ _ rfl (Below.refl _ _) (fun h => by cases h))
   generalize a.eval = ev at *
   go_simp
  | 13, ho =>
   obtain rfl := Option.some.inj ho
   have e1 : a.eval (.tmp 15) = .slice a3 A.vers.length c3 := hd ⟨12, .data⟩ (by simp) rfl 15 rfl
   have ef : a.eval (.func 56) = .func (.func 56) #[] #[] := rfl
   refine step_call (f := 56) (args := #[.slice a3 A.vers.length c3]) (R := (fun v w' => VersP V.heap.size A.vers v w' ∧ Below V.heap.size V w')) ?_ ((cellsForVer_new B (.slice a3 A.vers.length c3) A.vers V hBV (by omega) IV.r).mono (fun e w' h => by obtain ⟨v', h1, h2, h3⟩ := h; exact ⟨v', h1, h2, h3⟩)) (fun v w' h => hK v w' (by obtain ⟨b, ps, h1, h2, h3, h4, h5⟩ := h.1; exact ⟨b, ps, h1, Nat.le_trans hb.size h2, h3, h4, h5.lo hb.size⟩) h.2 (fun h => by cases h))
   clear IV
   generalize a.eval = ev at *
   go_simp
  | 14, ho =>
   obtain rfl := Option.some.inj ho
   have e0 : a.eval (.tmp 4) = .int .i64 A.camera := hd ⟨1, .data⟩ (by simp) rfl 4 rfl
   have g1 : IntsR w0.heap.size A.slots (a.eval (.tmp 7)) V := hd ⟨4, .data⟩ (by simp) rfl 7 rfl
   have g2 : IntsR w0.heap.size A.guides (a.eval (.tmp 10)) V := hd ⟨7, .data⟩ (by simp) rfl 10 rfl
   have g3 : NodesP w0.heap.size A.nodes (a.eval (.tmp 13)) V := hd ⟨10, .data⟩ (by simp) rfl 13 rfl
   have g4 : VersP w0.heap.size A.vers (a.eval (.tmp 16)) V := hd ⟨13, .data⟩ (by simp) rfl 16 rfl
   have g5 : ∀ b, blkOf (a.eval (.tmp 7)) = some b → blkOf (a.eval (.tmp 10)) ≠ some b := fun b hbb => hq ⟨4, .data⟩ (by simp) rfl ⟨7, .data⟩ (by simp) rfl (by decide) rfl rfl 7 10 b rfl rfl hbb
   obtain ⟨b1, e1, -⟩ := id g1
   obtain ⟨b2, e2, -⟩ := id g2
   obtain ⟨b3, s3, e3, -⟩ := id g3
   obtain ⟨b4, s4, e4, -⟩ := id g4
   refine step_value (v := .agg #[.int .i64 A.camera, a.eval (.tmp 7), a.eval (.tmp 10), a.eval (.tmp 13), a.eval (.tmp 16)]) (w' := V) ?_ (hK _ _ ⟨_, _, _, _, rfl, g1, g2, g3, g4, g5⟩ (Below.refl _ _) (fun h => by cases h))
   clear g1 g2 g3 g4 g5
   generalize a.eval = ev at *
   go_simp
  | 15, ho =>
   obtain rfl := Option.some.inj ho
   obtain ⟨s, g, n, r, e1, F⟩ := (show ∃ s g n r, a.eval (.tmp 17) = .agg #[.int .i64 A.camera, s, g, n, r] ∧ FourC w0.heap.size A s g n r V from hd ⟨14, .data⟩ (by simp) rfl 17 rfl)
   have al := (Below.refl V.heap.size V).alloc (Nat.le_refl _) (.cells #[.int .i64 A.camera, s, g, n, r] 87)
   refine step_value (v := .pointer (some ⟨V.heap.size, 0, none⟩)) (w' := V.alloc (.cells #[.int .i64 A.camera, s, g, n, r] 87)) ?_ (hK _ _ ⟨V.heap.size, s, g, n, r, rfl, hb.size, Blk.new _ _ _, rangeAt_new V [.int .i64 A.camera, s, g, n, r] _, F.kept al⟩ al (fun h => by cases h))
   clear F
   generalize a.eval = ev at *
   go_simp
  | 16, ho =>
   obtain rfl := Option.some.inj ho
   obtain ⟨b, s, g, n, r, e1, h1, h2, h3, F⟩ := (show ∃ b s g n r, a.eval (.tmp 18) = .pointer (some ⟨b, 0, none⟩) ∧ w0.heap.size ≤ b ∧ Blk V b 87 5 ∧ V.rangeAt b 0 [.int .i64 A.camera, s, g, n, r] ∧ FourC w0.heap.size A s g n r V from hd ⟨15, .data⟩ (by simp) rfl 18 rfl)
   refine step_value (v := .pointer (some ⟨b, 0, none⟩)) (w' := V) ?_ (hK _ _ ⟨b, s, g, n, r, rfl, h1, h2, h3, F⟩ (Below.refl _ _) (fun h => by cases h))
   clear F h1 h2 h3
   generalize a.eval = ev at *
   go_simp
  | n + 17, ho => exact absurd ho (by simp)
 case final =>
  intro vs V hb hG hD
  obtain ⟨cb, s, g, n, r, e16, hlo, hbk, hrow, F⟩ := (show ∃ b s g n r, vs 16 = .pointer (some ⟨b, 0, none⟩) ∧ w0.heap.size ≤ b ∧ Blk V b 87 5 ∧ V.rangeAt b 0 [.int .i64 A.camera, s, g, n, r] ∧ FourC w0.heap.size A s g n r V from hG 16 (by decide))
  obtain ⟨sb, rfl, ls, bs, rs⟩ := F.ss
  obtain ⟨gb, rfl, lg, bg, rg⟩ := F.sg
  obtain ⟨nb, ps, rfl, ln, bn, rn, pn⟩ := F.sn
  obtain ⟨rb, qs, rfl, lr, br, rr, pr⟩ := F.sr
  have hne := F.ne
  have z0 := K0.size
  have KK : Below w.heap.size w V := K0.trans (hb.mono K0.size)
  have OC : OwnCells w.heap.size V cb (.slice (some ⟨sb, 0, none⟩) A.slots.length A.slots.length) (.slice (some ⟨gb, 0, none⟩) A.guides.length A.guides.length) (.slice (some ⟨nb, 0, none⟩) A.nodes.length A.nodes.length) (.slice (some ⟨rb, 0, none⟩) A.vers.length A.vers.length) ps qs A :=
   ⟨hrow, hbk, by omega, bs.own rs (by rw [cellsOf_length (sz := 1) (fun _ => rfl)]; omega) (by omega) (by unfold maxLen; omega), bg.own rg (by rw [cellsOf_length (sz := 1) (fun _ => rfl)]; omega) (by omega) (by unfold maxLen; omega), bn.own rn (by rw [cellsOf_length (sz := 1) (fun _ => rfl), pn.len]; omega) (by omega) (by unfold maxLen; omega), br.own rr (by rw [cellsOf_length (sz := 1) (fun _ => rfl), pr.len]; omega) (by omega) (by unfold maxLen; omega), pn.lo (by omega), pr.lo (by omega), fun b h1 h2 => hne b h1 h2⟩
  clear hG hD hb F hlo hbk hrow bs bg bn br rs rg rn rr pn pr hne
  generalize hl : laid _ vs _ _ _ = A'
  have hA' : A' = { tmps := #[.agg #[.int .i64 A.camera, .slice a0 A.slots.length c0, .slice a1 A.guides.length c1, .slice a2 A.nodes.length c2, .slice a3 A.vers.length c3], .pointer (some ⟨w.heap.size, 0, none⟩), vs 16, vs 0, vs 1, vs 2, vs 3, vs 4, vs 5, vs 6, vs 7, vs 8, vs 9, vs 10, vs 11, vs 12, vs 13, vs 14, vs 15], defers := [] } := by
   rw [← hl]
   kernel_rfl
  subst hA'
  clear hl
  rw [e16]
  go_wp2
  go_ret
  exact ⟨_, _, _, _, _, _, _, rfl, OC, KK⟩
end
end Go.Proofs.YtlfjhcdjgoeafaaDoor
