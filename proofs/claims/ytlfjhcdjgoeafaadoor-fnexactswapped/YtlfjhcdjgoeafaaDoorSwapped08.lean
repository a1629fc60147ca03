/-
  What the law's proof goes by, part 9.
-/
import Derived.Test.YtlfjhcdjgoeafaaDoorSwapped00
import Derived.Test.YtlfjhcdjgoeafaaDoorSwapped03
import Derived.Test.YtlfjhcdjgoeafaaDoorSwapped04
import Derived.Test.YtlfjhcdjgoeafaaDoorSwapped07
namespace Go.Proofs.YtlfjhcdjgoeafaaDoor
open Go.ChangeShapes Go.WideShapes Go.ChangeAt Go.RowKit
set_option maxRecDepth 100000
set_option maxHeartbeats 16000000
set_option linter.unusedVariables false
set_option linter.unusedSimpArgs false
set_option linter.unnecessarySimpa false
set_option linter.unusedSectionVars false
section
attribute [local go_sem ↓] Go.wp_at_zero Go.wp_at_succ
theorem qz2w {α : Type} {f : α -> List Value} (hf : ∀ x, ∀ v ∈ f x, v.oneCell' = true) (l : List α) : ∀ v ∈ qz1 f l, v.oneCell' = true := by
 intro v hv
 obtain ⟨x, _, hx⟩ := List.mem_flatMap.1 hv
 exact hf x v hx
theorem qz9g (x : Int) : ∀ v ∈ intC x, v.oneCell' = true := by intro v hv; simp [intC] at hv; subst hv; rfl
theorem qza5 (x : Nd) : ∀ v ∈ ndC x, v.oneCell' = true := by intro v hv; simp [ndC] at hv; rcases hv with rfl | rfl | rfl <;> rfl
theorem qza7 (x : Vr) : ∀ v ∈ vrC x, v.oneCell' = true := by intro v hv; simp [vrC] at hv; rcases hv with rfl | rfl | rfl | rfl | rfl <;> rfl
theorem qza6 : (Tryd.prog.info? 2).map (·.size) = some 1 := by kernel_rfl
theorem qz20 (B : Nat) (v : Value) (l : List Int) (w : World) (hB : B <= w.heap.size) (hl : l.length <= 1048576) (S : qz8 B w v l.length (qz1 intC l)) :
  Calls Tryd.prog 54 #[v] w fun e w' => e = .returned (.slice (some ⟨w.heap.size, 0, none⟩) l.length l.length) /\ Blk w' w.heap.size 2 l.length /\ w'.rangeAt w.heap.size 0 (qz1 intC l) /\ Below w.heap.size w w' := by
 obtain ⟨a, cap, rfl, hS⟩ := S
 have hmk : ∀ w : World, (Instr.makeSlice 24 (.int .i64 (l.length : Int)) (.int .i64 (l.length : Int))).run Tryd.prog w = .ok (.slice (some ⟨w.heap.size, 0, none⟩) l.length l.length) (w.alloc (.cells (madeCells #[Value.int IntKind.i64 0] l.length) 2)) := fun w => run_make_row' (P := Tryd.prog) 24 2 (.int .i64 0) 8 Tryd.underlying24 qzad rfl .i64 .i64 l.length (by omega) (by omega) w
 have al := (Below.refl w.heap.size w).alloc (Nat.le_refl _) (.cells (madeCells #[Value.int IntKind.i64 0] l.length) 2)
 have B1 := Blk.new w (madeCells #[Value.int IntKind.i64 0] l.length) 2
 rw [size_madeCells] at B1
 have hlen : (qz1 intC l).length = l.length * 1 := qz5 (sz := 1) (fun _ => rfl) l
 have T1 := B1.there 0 (l.length * 1) (by omega)
 have hsrc : 0 < l.length -> ∃ ad, a = some ad /\ ∀ j v, (qz1 intC l)[j]? = some v -> (w.alloc (.cells (madeCells #[Value.int IntKind.i64 0] l.length) 2)).cell? (ad.add j) = some v := by
  intro hp
  rcases hS with h0 | ⟨bb, off, rfl, hbb, R0⟩
  ·omega
  ·refine ⟨_, rfl, fun j v hj => ?_⟩
   have := (qz0 R0 (al.mono hB) hbb) j v hj
   have ea : (⟨bb, off, none⟩ : Addr).add j = ⟨bb, off + j, none⟩ := by unfold Addr.add; split <;> simp_all
   rw [ea]
   exact this
 have hone := qz2w qz9g l
 go_enter Tryd.func54, Tryd.ntmps54
 obtain ⟨cs, hcs⟩ : ∃ cs, cs = qz1 intC l := ⟨_, rfl⟩
 rw [<- hcs] at hlen hsrc hone ⊢
 clear hcs hS
 go_wp2_with (refine qz1a rfl (.tmp 7) (.tmp 8) 24 24 rfl 2 Tryd.underlying24 1 qza6 a w.heap.size l.length l.length cap ?kd ?ks cs hlen ?kc ?kt hone ?_)
 try (case kd => rfl)
 try (case ks => rfl)
 try (case kc => exact hsrc)
 try (case kt => exact T1)
 go_wp2
 go_ret
 refine ⟨rfl, B1.setCells _ _ _, World.rangeAt_setCells_same _ _ _ _ (by rw [hlen]; exact T1), Below.setCells (Nat.le_refl _) _ _ _ al⟩
theorem qz4i (B : Nat) (v : Value) (l : List Nd) (w : World) (hB : B <= w.heap.size) (hl : l.length <= 1048576) (S : qz8 B w v l.length (qz1 ndC l)) :
  Calls Tryd.prog 76 #[v] w fun e w' => e = .returned (.slice (some ⟨w.heap.size, 0, none⟩) l.length l.length) /\ Blk w' w.heap.size 74 (l.length * 3) /\ w'.rangeAt w.heap.size 0 (qz1 ndC l) /\ Below w.heap.size w w' := by
 obtain ⟨a, cap, rfl, hS⟩ := S
 obtain ⟨i0, hi, hz0, hz1, hz2⟩ := info_parts qz4o
 have hmk : ∀ w : World, (Instr.makeSlice 30 (.int .i64 (l.length : Int)) (.int .i64 (l.length : Int))).run Tryd.prog w = .ok (.slice (some ⟨w.heap.size, 0, none⟩) l.length l.length) (w.alloc (.cells (madeCells (.agg #[.int .i64 0, .int .i64 0, .int .i64 0] : Value).cells (l.length * 3)) 74)) := by
  intro w
  have h := run_make (P := Tryd.prog) w 30 74 i0 _ Tryd.underlying30 hi hz0 .i64 .i64 l.length l.length (by omega) (by omega) (by rw [hz2]; omega) (by omega)
  simpa [hz1] using h
 clear hi hz0 hz1 hz2
 have al := (Below.refl w.heap.size w).alloc (Nat.le_refl _) (.cells (madeCells (.agg #[.int .i64 0, .int .i64 0, .int .i64 0] : Value).cells (l.length * 3)) 74)
 have B1 := Blk.new w (madeCells (.agg #[.int .i64 0, .int .i64 0, .int .i64 0] : Value).cells (l.length * 3)) 74
 rw [size_madeCells] at B1
 have hlen : (qz1 ndC l).length = l.length * 3 := qz5 (sz := 3) (fun _ => rfl) l
 have T1 := B1.there 0 (l.length * 3) (by omega)
 have hsrc : 0 < l.length -> ∃ ad, a = some ad /\ ∀ j v, (qz1 ndC l)[j]? = some v -> (w.alloc (.cells (madeCells (.agg #[.int .i64 0, .int .i64 0, .int .i64 0] : Value).cells (l.length * 3)) 74)).cell? (ad.add j) = some v := by
  intro hp
  rcases hS with h0 | ⟨bb, off, rfl, hbb, R0⟩
  ·omega
  ·refine ⟨_, rfl, fun j v hj => ?_⟩
   have := (qz0 R0 (al.mono hB) hbb) j v hj
   have ea : (⟨bb, off, none⟩ : Addr).add j = ⟨bb, off + j, none⟩ := by unfold Addr.add; split <;> simp_all
   rw [ea]
   exact this
 have hone := qz2w qza5 l
 go_enter Tryd.func76, Tryd.ntmps76
 obtain ⟨cs, hcs⟩ : ∃ cs, cs = qz1 ndC l := ⟨_, rfl⟩
 rw [<- hcs] at hlen hsrc hone ⊢
 clear hcs hS
 go_wp2_with (refine qz1a rfl (.tmp 7) (.tmp 8) 30 30 rfl 74 Tryd.underlying30 3 (qz6a ⟨0, 0, 0⟩) a w.heap.size l.length l.length cap ?kd ?ks cs hlen ?kc ?kt hone ?_)
 try (case kd => rfl)
 try (case ks => rfl)
 try (case kc => exact hsrc)
 try (case kt => exact T1)
 go_wp2
 go_ret
 refine ⟨rfl, B1.setCells _ _ _, World.rangeAt_setCells_same _ _ _ _ (by rw [hlen]; exact T1), Below.setCells (Nat.le_refl _) _ _ _ al⟩
theorem qz57 (B : Nat) (v : Value) (l : List Vr) (w : World) (hB : B <= w.heap.size) (hl : l.length <= 1048576) (S : qz8 B w v l.length (qz1 vrC l)) :
  Calls Tryd.prog 77 #[v] w fun e w' => e = .returned (.slice (some ⟨w.heap.size, 0, none⟩) l.length l.length) /\ Blk w' w.heap.size 60 (l.length * 5) /\ w'.rangeAt w.heap.size 0 (qz1 vrC l) /\ Below w.heap.size w w' := by
 obtain ⟨a, cap, rfl, hS⟩ := S
 obtain ⟨i0, hi, hz0, hz1, hz2⟩ := info_parts qz5e
 have hmk : ∀ w : World, (Instr.makeSlice 31 (.int .i64 (l.length : Int)) (.int .i64 (l.length : Int))).run Tryd.prog w = .ok (.slice (some ⟨w.heap.size, 0, none⟩) l.length l.length) (w.alloc (.cells (madeCells (.agg #[.int .i64 0, .bool false, .int .i64 0, .int .i64 0, .int .i64 0] : Value).cells (l.length * 5)) 60)) := by
  intro w
  have h := run_make (P := Tryd.prog) w 31 60 i0 _ Tryd.underlying31 hi hz0 .i64 .i64 l.length l.length (by omega) (by omega) (by rw [hz2]; omega) (by omega)
  simpa [hz1] using h
 clear hi hz0 hz1 hz2
 have al := (Below.refl w.heap.size w).alloc (Nat.le_refl _) (.cells (madeCells (.agg #[.int .i64 0, .bool false, .int .i64 0, .int .i64 0, .int .i64 0] : Value).cells (l.length * 5)) 60)
 have B1 := Blk.new w (madeCells (.agg #[.int .i64 0, .bool false, .int .i64 0, .int .i64 0, .int .i64 0] : Value).cells (l.length * 5)) 60
 rw [size_madeCells] at B1
 have hlen : (qz1 vrC l).length = l.length * 5 := qz5 (sz := 5) (fun _ => rfl) l
 have T1 := B1.there 0 (l.length * 5) (by omega)
 have hsrc : 0 < l.length -> ∃ ad, a = some ad /\ ∀ j v, (qz1 vrC l)[j]? = some v -> (w.alloc (.cells (madeCells (.agg #[.int .i64 0, .bool false, .int .i64 0, .int .i64 0, .int .i64 0] : Value).cells (l.length * 5)) 60)).cell? (ad.add j) = some v := by
  intro hp
  rcases hS with h0 | ⟨bb, off, rfl, hbb, R0⟩
  ·omega
  ·refine ⟨_, rfl, fun j v hj => ?_⟩
   have := (qz0 R0 (al.mono hB) hbb) j v hj
   have ea : (⟨bb, off, none⟩ : Addr).add j = ⟨bb, off + j, none⟩ := by unfold Addr.add; split <;> simp_all
   rw [ea]
   exact this
 have hone := qz2w qza7 l
 go_enter Tryd.func77, Tryd.ntmps77
 obtain ⟨cs, hcs⟩ : ∃ cs, cs = qz1 vrC l := ⟨_, rfl⟩
 rw [<- hcs] at hlen hsrc hone ⊢
 clear hcs hS
 go_wp2_with (refine qz1a rfl (.tmp 7) (.tmp 8) 31 31 rfl 60 Tryd.underlying31 5 (qz7f ⟨0, false, 0, 0, 0⟩) a w.heap.size l.length l.length cap ?kd ?ks cs hlen ?kc ?kt hone ?_)
 try (case kd => rfl)
 try (case ks => rfl)
 try (case kc => exact hsrc)
 try (case kt => exact T1)
 go_wp2
 go_ret
 refine ⟨rfl, B1.setCells _ _ _, World.rangeAt_setCells_same _ _ _ _ (by rw [hlen]; exact T1), Below.setCells (Nat.le_refl _) _ _ _ al⟩
theorem qz8f : (Tryd.prog.info? 88).map (fun i => (i.zero, i.size, i.bytes)) = some (some (.pointer none), 1, 8) := by kernel_rfl
def qz4f (lo : Nat) (l : List Nd) (v : Value) (w : World) : Prop := ∃ b ps, v = .slice (some ⟨b, 0, none⟩) l.length l.length /\ lo <= b /\ Blk w b 88 l.length /\ w.rangeAt b 0 (qz1 ptrC ps) /\ qzs lo 74 3 w ndC ps l
theorem qz4f.kept {lo : Nat} {l : List Nd} {v : Value} {w w' : World} (h : qz4f lo l v w) (hb : Below w.heap.size w w') : qz4f lo l v w' := by
 obtain ⟨b, ps, h1, h2, h3, h4, h5⟩ := h
 exact ⟨b, ps, h1, h2, h3.grown hb, qz0 h4 hb h3.lt, h5.grown hb⟩
theorem qz3e (B : Nat) (v : Value) (l : List Nd) (w : World) (hB : B <= w.heap.size) (hl : l.length <= 1048576) (S : qz8 B w v l.length (qz1 ndC l)) :
  Calls Tryd.prog 55 #[v] w fun e w' => ∃ v', e = .returned v' /\ qz4f w.heap.size l v' w' /\ Below w.heap.size w w' := by
 obtain ⟨a, cap, rfl, hS⟩ := id S
 have hmk : ∀ w : World, (Instr.makeSlice 82 (.int .i64 (l.length : Int)) (.int .i64 (l.length : Int))).run Tryd.prog w = .ok (.slice (some ⟨w.heap.size, 0, none⟩) l.length l.length) (w.alloc (.cells (madeCells #[.pointer none] l.length) 88)) := fun w => run_make_row' (P := Tryd.prog) 82 88 (.pointer none) 8 Tryd.underlying82 qz8f rfl .i64 .i64 l.length (by omega) (by omega) w
 clear hS
 go_enter Tryd.func55, Tryd.ntmps55
 go_wp2_with fail
 refine (qz4i B _ l w hB hl S).mono ?_
 rintro e w1 ⟨rfl, B1, R1, K1⟩
 have hz1 := B1.lt
 have al := (Below.refl w1.heap.size w1).alloc (Nat.le_refl _) (.cells (madeCells #[.pointer none] l.length) 88)
 have B2 := Blk.new w1 (madeCells #[.pointer none] l.length) 88
 rw [size_madeCells] at B2
 have B1' := B1.grown al
 have R1' := qz0 R1 al hz1
 have K2 := K1.trans (al.mono (by omega))
 go_wp2
 clear B1 R1 K1 S hmk
 go_loopw [13] (fun i wr => ∃ k : Nat, k <= l.length /\ i = .int .i64 k /\ wr.rangeAt w1.heap.size 0 (qz1 ptrC (qz16 w.heap.size 3 k)) /\ Blk wr w1.heap.size 88 l.length /\ Only w1.heap.size (w1.alloc (.cells (madeCells #[.pointer none] l.length) 88)) wr) (fun i _ => l.length - (intOf i).toNat)
 case atStart => exact ⟨0, Nat.zero_le _, rfl, by simp [qz1, qz16, World.rangeAt], B2, Only.refl _ _⟩
 case round =>
  obtain ⟨k, hk, rfl, R, T, O⟩ := hrel
  by_cases hlt : k < l.length
  ·obtain ⟨tc, tf⟩ := T.there 0 l.length (by omega) k hlt
   obtain ⟨u, hu⟩ := Option.isSome_iff_exists.1 tc
   simp only [Nat.zero_add] at hu tf
   have hlen : (qz1 ptrC (qz16 w.heap.size 3 k)).length = k := by rw [qz5 (sz := 1) (fun _ => rfl), qz14]; omega
   have G := qz2i R (by rw [hlen, Nat.zero_add, hu]; rfl) (.pointer (some ⟨w.heap.size, k * 3, none⟩))
   rw [hlen, Nat.zero_add] at G
   have e1 : qz1 ptrC (qz16 w.heap.size 3 (k + 1)) = qz1 ptrC (qz16 w.heap.size 3 k) ++ [.pointer (some ⟨w.heap.size, k * 3, none⟩)] := by rw [qz3j, qze]; rfl
   rw [<- e1] at G
   clear e1 hlen R
   go_wp2
   go_roundw
   case rel => exact ⟨k + 1, by omega, by go_num, G, T.setCell _ _, O.setCell (Or.inl rfl) _⟩
   case measure => simp [intOf]; omega
  ·obtain rfl : k = l.length := by omega
   have BB : But (fun q => q = w1.heap.size) (w1.alloc (.cells (madeCells #[.pointer none] l.length) 88)) wr := But.of_only O rfl
   have hne : ¬ (w.heap.size = w1.heap.size) := by omega
   have KF : Below w.heap.size w wr := K2.trans (O.below (by omega) (by simp; omega))
   go_wp2
   go_ret
   exact ⟨_, rfl, ⟨w1.heap.size, _, rfl, by omega, T, R, qz4b (fun _ => rfl) (Nat.le_refl _) (B1'.but BB hne) (BB.range R1' (by simp; omega) hne)⟩, KF⟩
theorem qz8t : (Tryd.prog.info? 91).map (fun i => (i.zero, i.size, i.bytes)) = some (some (.pointer none), 1, 8) := by kernel_rfl
def qz83 (lo : Nat) (l : List Vr) (v : Value) (w : World) : Prop := ∃ b ps, v = .slice (some ⟨b, 0, none⟩) l.length l.length /\ lo <= b /\ Blk w b 91 l.length /\ w.rangeAt b 0 (qz1 ptrC ps) /\ qzs lo 60 5 w vrC ps l
theorem qz83.kept {lo : Nat} {l : List Vr} {v : Value} {w w' : World} (h : qz83 lo l v w) (hb : Below w.heap.size w w') : qz83 lo l v w' := by
 obtain ⟨b, ps, h1, h2, h3, h4, h5⟩ := h
 exact ⟨b, ps, h1, h2, h3.grown hb, qz0 h4 hb h3.lt, h5.grown hb⟩
theorem qz3t (B : Nat) (v : Value) (l : List Vr) (w : World) (hB : B <= w.heap.size) (hl : l.length <= 1048576) (S : qz8 B w v l.length (qz1 vrC l)) :
  Calls Tryd.prog 56 #[v] w fun e w' => ∃ v', e = .returned v' /\ qz83 w.heap.size l v' w' /\ Below w.heap.size w w' := by
 obtain ⟨a, cap, rfl, hS⟩ := id S
 have hmk : ∀ w : World, (Instr.makeSlice 84 (.int .i64 (l.length : Int)) (.int .i64 (l.length : Int))).run Tryd.prog w = .ok (.slice (some ⟨w.heap.size, 0, none⟩) l.length l.length) (w.alloc (.cells (madeCells #[.pointer none] l.length) 91)) := fun w => run_make_row' (P := Tryd.prog) 84 91 (.pointer none) 8 Tryd.underlying84 qz8t rfl .i64 .i64 l.length (by omega) (by omega) w
 clear hS
 go_enter Tryd.func56, Tryd.ntmps56
 go_wp2_with fail
 refine (qz57 B _ l w hB hl S).mono ?_
 rintro e w1 ⟨rfl, B1, R1, K1⟩
 have hz1 := B1.lt
 have al := (Below.refl w1.heap.size w1).alloc (Nat.le_refl _) (.cells (madeCells #[.pointer none] l.length) 91)
 have B2 := Blk.new w1 (madeCells #[.pointer none] l.length) 91
 rw [size_madeCells] at B2
 have B1' := B1.grown al
 have R1' := qz0 R1 al hz1
 have K2 := K1.trans (al.mono (by omega))
 go_wp2
 clear B1 R1 K1 S hmk
 go_loopw [13] (fun i wr => ∃ k : Nat, k <= l.length /\ i = .int .i64 k /\ wr.rangeAt w1.heap.size 0 (qz1 ptrC (qz16 w.heap.size 5 k)) /\ Blk wr w1.heap.size 91 l.length /\ Only w1.heap.size (w1.alloc (.cells (madeCells #[.pointer none] l.length) 91)) wr) (fun i _ => l.length - (intOf i).toNat)
 case atStart => exact ⟨0, Nat.zero_le _, rfl, by simp [qz1, qz16, World.rangeAt], B2, Only.refl _ _⟩
 case round =>
  obtain ⟨k, hk, rfl, R, T, O⟩ := hrel
  by_cases hlt : k < l.length
  ·obtain ⟨tc, tf⟩ := T.there 0 l.length (by omega) k hlt
   obtain ⟨u, hu⟩ := Option.isSome_iff_exists.1 tc
   simp only [Nat.zero_add] at hu tf
   have hlen : (qz1 ptrC (qz16 w.heap.size 5 k)).length = k := by rw [qz5 (sz := 1) (fun _ => rfl), qz14]; omega
   have G := qz2i R (by rw [hlen, Nat.zero_add, hu]; rfl) (.pointer (some ⟨w.heap.size, k * 5, none⟩))
   rw [hlen, Nat.zero_add] at G
   have e1 : qz1 ptrC (qz16 w.heap.size 5 (k + 1)) = qz1 ptrC (qz16 w.heap.size 5 k) ++ [.pointer (some ⟨w.heap.size, k * 5, none⟩)] := by rw [qz3j, qze]; rfl
   rw [<- e1] at G
   clear e1 hlen R
   go_wp2
   go_roundw
   case rel => exact ⟨k + 1, by omega, by go_num, G, T.setCell _ _, O.setCell (Or.inl rfl) _⟩
   case measure => simp [intOf]; omega
  ·obtain rfl : k = l.length := by omega
   have BB : But (fun q => q = w1.heap.size) (w1.alloc (.cells (madeCells #[.pointer none] l.length) 91)) wr := But.of_only O rfl
   have hne : ¬ (w.heap.size = w1.heap.size) := by omega
   have KF : Below w.heap.size w wr := K2.trans (O.below (by omega) (by simp; omega))
   go_wp2
   go_ret
   exact ⟨_, rfl, ⟨w1.heap.size, _, rfl, by omega, T, R, qz4b (fun _ => rfl) (Nat.le_refl _) (B1'.but BB hne) (BB.range R1' (by simp; omega) hne)⟩, KF⟩
def qz5z (lo : Nat) (l : List Int) (v : Value) (w : World) : Prop := ∃ b, v = .slice (some ⟨b, 0, none⟩) l.length l.length /\ lo <= b /\ Blk w b 2 l.length /\ w.rangeAt b 0 (qz1 intC l)
theorem qz5z.kept {lo : Nat} {l : List Int} {v : Value} {w w' : World} (h : qz5z lo l v w) (hb : Below w.heap.size w w') : qz5z lo l v w' := by
 obtain ⟨b, h1, h2, h3, h4⟩ := h
 exact ⟨b, h1, h2, h3.grown hb, qz0 h4 hb h3.lt⟩
structure qz8a (lo : Nat) (A : Ar) (s g n r : Value) (w : World) : Prop where
 ss : qz5z lo A.slots s w
 sg : qz5z lo A.guides g w
 sn : qz4f lo A.nodes n w
 sr : qz83 lo A.vers r w
 ne : ∀ b, qz1l s = some b -> qz1l g ≠ some b
theorem qz8a.kept {lo : Nat} {A : Ar} {s g n r : Value} {w w' : World} (h : qz8a lo A s g n r w) (hb : Below w.heap.size w w') : qz8a lo A s g n r w' := ⟨h.ss.kept hb, h.sg.kept hb, h.sn.kept hb, h.sr.kept hb, h.ne⟩
structure qzj (base : Nat) (w : World) (cb : Nat) (s g n r : Value) (ps qs : List Addr) (A : Ar) : Prop where
 row : w.rangeAt cb 0 [.int .i64 A.camera, s, g, n, r]
 blk : Blk w cb 87 5
 lo : base <= cb
 ss : w.ownsRow base 2 1 s A.slots.length (qz1 intC A.slots)
 sg : w.ownsRow base 2 1 g A.guides.length (qz1 intC A.guides)
 sn : w.ownsRow base 88 1 n A.nodes.length (qz1 ptrC ps)
 sr : w.ownsRow base 91 1 r A.vers.length (qz1 ptrC qs)
 np : qzs base 74 3 w ndC ps A.nodes
 vp : qzs base 60 5 w vrC qs A.vers
 ne : ∀ b, s.ownBlock = some b -> g.ownBlock ≠ some b
theorem qz26 {w : World} {base : Nat} {e : TypeId} {size n : Nat} {v : Value} {xs : List Value} (h : w.ownsRow base e size v n xs) {b : Nat} (hv : v.ownBlock = some b) : ∃ m, base <= b /\ Blk w b e m := by
 rcases h.2 with ⟨rfl, -⟩ | ⟨g, cap, cur, rfl, hg, hh, -, -, hs, -⟩
 ·cases hv
 ·simp [Value.ownBlock] at hv
  subst hv
  exact ⟨cap * size, hg, cur, hh, hs⟩
theorem qz13 {S : Nat -> Prop} {w w' : World} {base : Nat} {e : TypeId} {size n : Nat} {v : Value} {xs : List Value} (h : w.ownsRow base e size v n xs) (O : But S w w') (hS : ∀ b m, base <= b -> Blk w b e m -> ¬ S b) : w'.ownsRow base e size v n xs := by
 refine ⟨h.1, ?_⟩
 rcases h.2 with h0 | ⟨g, cap, cur, rfl, hg, hh, h1, h2, hs, h3⟩
 ·exact Or.inl h0
 ·have hb : Blk w g e (cap * size) := ⟨cur, hh, hs⟩
  exact Or.inr ⟨g, cap, cur, rfl, hg, (O.block g hb.lt (hS g _ hg hb)).trans hh, h1, h2, hs, h3⟩
theorem qzj.but {S : Nat -> Prop} {base : Nat} {w w' : World} {cb : Nat} {s g n r : Value} {ps qs : List Addr} {A : Ar} (h : qzj base w cb s g n r ps qs A) (O : But S w w') (hS : ∀ b, base <= b -> b < w.heap.size -> ¬ S b) : qzj base w' cb s g n r ps qs A :=
 ⟨O.range h.row h.blk.lt (hS cb h.lo h.blk.lt), h.blk.but O (hS cb h.lo h.blk.lt), h.lo, qz13 h.ss O (fun b m hb hm => hS b hb hm.lt), qz13 h.sg O (fun b m hb hm => hS b hb hm.lt), qz13 h.sn O (fun b m hb hm => hS b hb hm.lt), qz13 h.sr O (fun b m hb hm => hS b hb hm.lt), h.np.but O (fun b m hb hm => hS b hb hm.lt), h.vp.but O (fun b m hb hm => hS b hb hm.lt), h.ne⟩
theorem qzj.grown {base : Nat} {w w' : World} {cb : Nat} {s g n r : Value} {ps qs : List Addr} {A : Ar} (h : qzj base w cb s g n r ps qs A) (hb : Below w.heap.size w w') : qzj base w' cb s g n r ps qs A :=
 h.but (But.of_below (S := fun q => w.heap.size <= q) hb) (fun b _ hl hg => by omega)
theorem qz4k {w : World} {base : Nat} {e : TypeId} {size n : Nat} {v : Value} {xs : List Value} (h : w.ownsRow base e size v n xs) : qz8 w.heap.size w v n xs := by
 rcases h.2 with ⟨rfl, rfl⟩ | ⟨g, cap, cur, rfl, hg, hh, h1, h2, hs, h3⟩
 ·exact ⟨_, _, rfl, Or.inl rfl⟩
 ·refine ⟨_, _, rfl, ?_⟩
  rcases Nat.eq_zero_or_pos n with h0 | h0
  ·exact Or.inl h0
  ·obtain ⟨g', e', hg', hb, -, R⟩ := qz6b ⟨h.1, Or.inr ⟨g, cap, cur, rfl, hg, hh, h1, h2, hs, h3⟩⟩ h0
   exact Or.inr ⟨g', 0, e', hb.lt, R⟩
theorem qzj.cells {base : Nat} {w : World} {cb : Nat} {s g n r : Value} {ps qs : List Addr} {A : Ar} (h : qzj base w cb s g n r ps qs A) : qz50 w.heap.size w cb s g n r A :=
 ⟨h.row, h.blk.lt, qz4k h.ss, qz4k h.sg, ⟨ps, qz4k h.sn, h.np.ptrs⟩, ⟨qs, qz4k h.sr, h.vp.ptrs⟩⟩
theorem qzj.node {base : Nat} {w : World} {cb : Nat} {s g n r : Value} {ps qs : List Addr} {A : Ar} (h : qzj base w cb s g n r ps qs A) (i : Nat) (hi : i < A.nodes.length) (b o : Nat) (hp : ps[i]? = some ⟨b, o, none⟩) (k : Nat) (hk : k < 3) (v : Value) (x : Nd) (hx : (ndC A.nodes[i]).set k v = ndC x) : qzj base (w.setCell ⟨b, o + k, none⟩ v) cb s g n r ps qs { A with nodes := A.nodes.set i x } := by
 obtain ⟨b', o', m, h1, h2, h3, h4, h5⟩ := h.np.at' i hi
 rw [hp] at h1
 injection h1 with h1
 injection h1 with h1 h1'
 subst h1 h1'
 have O : But (fun q => q = b) w (w.setCell ⟨b, o + k, none⟩ v) := But.of_only ((Only.refl b w).setCell (Or.inl rfl) v) rfl
 refine ⟨O.range h.row h.blk.lt (h.blk.ne h3 (by decide)), h.blk.setCell _ _, h.lo, qz13 h.ss O (fun c m _ hc => hc.ne h3 (by decide)), qz13 h.sg O (fun c m _ hc => hc.ne h3 (by decide)), ?_, qz13 h.sr O (fun c m _ hc => hc.ne h3 (by decide)), h.np.set (sz := 3) (fun _ => rfl) i hi b o hp k hk v x hx, h.vp.but O (fun c m _ hc => hc.ne h3 (by decide)), h.ne⟩
 rw [List.length_set]
 exact qz13 h.sn O (fun c m _ hc => hc.ne h3 (by decide))
def qz8w (lo b0 : Nat) (A : Ar) (a0 a1 a2 a3 : Option Addr) (c0 c1 c2 c3 : Nat) : Nat -> Value -> World -> Prop
 | 0, x, _ => x = .pointer (some ⟨b0, 0, none⟩)
 | 1, x, _ => x = .int .i64 A.camera
 | 2, x, _ => x = .pointer (some ⟨b0, 1, none⟩)
 | 3, x, _ => x = .slice a0 A.slots.length c0
 | 4, x, w => qz5z lo A.slots x w
 | 5, x, _ => x = .pointer (some ⟨b0, 2, none⟩)
 | 6, x, _ => x = .slice a1 A.guides.length c1
 | 7, x, w => qz5z lo A.guides x w
 | 8, x, _ => x = .pointer (some ⟨b0, 3, none⟩)
 | 9, x, _ => x = .slice a2 A.nodes.length c2
 | 10, x, w => qz4f lo A.nodes x w
 | 11, x, _ => x = .pointer (some ⟨b0, 4, none⟩)
 | 12, x, _ => x = .slice a3 A.vers.length c3
 | 13, x, w => qz83 lo A.vers x w
 | 14, x, w => ∃ s g n r, x = .agg #[.int .i64 A.camera, s, g, n, r] /\ qz8a lo A s g n r w
 | 15, x, w => ∃ b s g n r, x = .pointer (some ⟨b, 0, none⟩) /\ lo <= b /\ Blk w b 87 5 /\ w.rangeAt b 0 [.int .i64 A.camera, s, g, n, r] /\ qz8a lo A s g n r w
 | 16, x, w => ∃ b s g n r, x = .pointer (some ⟨b, 0, none⟩) /\ lo <= b /\ Blk w b 87 5 /\ w.rangeAt b 0 [.int .i64 A.camera, s, g, n, r] /\ qz8a lo A s g n r w
 | _, _, _ => True
theorem qz71 {lo b0 : Nat} {A : Ar} {a0 a1 a2 a3 : Option Addr} {c0 c1 c2 c3 : Nat} (i : Nat) (x : Value) (w w' : World) (hq : qz8w lo b0 A a0 a1 a2 a3 c0 c1 c2 c3 i x w) (hb : Below w.heap.size w w') : qz8w lo b0 A a0 a1 a2 a3 c0 c1 c2 c3 i x w' := by
 match i, hq with
 | 0, h | 1, h | 2, h | 3, h | 5, h | 6, h | 8, h | 9, h | 11, h | 12, h => exact h
 | 4, h => exact qz5z.kept h hb
 | 7, h => exact qz5z.kept h hb
 | 10, h => exact qz4f.kept h hb
 | 13, h => exact qz83.kept h hb
 | 14, h => obtain ⟨s, g, n, r, e, F⟩ := h; exact ⟨s, g, n, r, e, F.kept hb⟩
 | 15, h => obtain ⟨b, s, g, n, r, e, h1, h2, h3, F⟩ := h; exact ⟨b, s, g, n, r, e, h1, h2.grown hb, qz0 h3 hb h2.lt, F.kept hb⟩
 | 16, h => obtain ⟨b, s, g, n, r, e, h1, h2, h3, F⟩ := h; exact ⟨b, s, g, n, r, e, h1, h2.grown hb, qz0 h3 hb h2.lt, F.kept hb⟩
 | n + 17, h => exact trivial
theorem qz6o (B : Nat) (A : Ar) (a0 a1 a2 a3 : Option Addr) (c0 c1 c2 c3 : Nat) (w : World) (hB : B <= w.heap.size) (hA : A.size <= 1048576) (I : qzd B w (.slice a0 A.slots.length c0) (.slice a1 A.guides.length c1) (.slice a2 A.nodes.length c2) (.slice a3 A.vers.length c3) A) :
  Calls Tryd.prog 26 #[.agg #[.int .i64 A.camera, .slice a0 A.slots.length c0, .slice a1 A.guides.length c1, .slice a2 A.nodes.length c2, .slice a3 A.vers.length c3]] w fun e w' => ∃ cb s g n r ps qs, e = .returned (.pointer (some ⟨cb, 0, none⟩)) /\ qzj w.heap.size w' cb s g n r ps qs A /\ Below w.heap.size w w' := by
 unfold Ar.size at hA
 have X0 := qz6 w [.int .i64 A.camera, .slice a0 A.slots.length c0, .slice a1 A.guides.length c1, .slice a2 A.nodes.length c2, .slice a3 A.vers.length c3] 33
 have K0 := (Below.refl w.heap.size w).alloc (Nat.le_refl _) (.cells #[.int .i64 A.camera, .slice a0 A.slots.length c0, .slice a1 A.guides.length c1, .slice a2 A.nodes.length c2, .slice a3 A.vers.length c3] 33)
 have hz0 : w.heap.size < (w.alloc (.cells #[.int .i64 A.camera, .slice a0 A.slots.length c0, .slice a1 A.guides.length c1, .slice a2 A.nodes.length c2, .slice a3 A.vers.length c3] 33)).heap.size := by simp
 go_enter Tryd.func26, Tryd.ntmps26
 go_wp2_with fail
 have I0 := I.below (K0.mono hB)
 generalize hw0 : w.alloc (.cells #[.int .i64 A.camera, .slice a0 A.slots.length c0, .slice a1 A.guides.length c1, .slice a2 A.nodes.length c2, .slice a3 A.vers.length c3] 33) = w0 at *
 clear hw0 I
 refine qz3z (by kernel_rfl) (qz8w w0.heap.size w.heap.size A a0 a1 a2 a3 c0 c1 c2 c3) (fun i => i == 4 || i == 7) (by kernel_rfl) (by kernel_rfl) (by kernel_rfl) (by rfl) (fun i v w w' _ hq hb => qz71 i v w w' hq hb) ?blk ?step ?final
 case blk =>
  intro i v w b hf hG hb
  have : i = 4 ∨ i = 7 := by simpa using hf
  rcases this with rfl | rfl
  ·obtain ⟨c, rfl, _, h3, _⟩ := (show qz5z _ _ _ _ from hG)
   cases hb
   exact h3.lt
  ·obtain ⟨c, rfl, _, h3, _⟩ := (show qz5z _ _ _ _ from hG)
   cases hb
   exact h3.lt
 case step =>
  intro i o ho a V hb hn hd hq K hK
  obtain ⟨x0, x1, x2, x3, x4⟩ := row5 (qz0 X0 hb (by omega))
  have IV := I0.below (hb.mono (Nat.le_trans hB K0.size))
  have hBV : B <= V.heap.size := Nat.le_trans (Nat.le_trans hB K0.size) hb.size
  match i, ho with
  | 0, ho =>
   obtain rfl := Option.some.inj ho
   have e1 : a.eval (.tmp 1) = .pointer (some ⟨w.heap.size, 0, none⟩) := hn 1 rfl
   refine qz2 (v := .pointer (some ⟨w.heap.size, 0, none⟩)) (w' := V) ?_ (hK _ _ rfl (Below.refl _ _) (fun h => by cases h))
   generalize a.eval = ev at *
   go_simp
  | 1, ho =>
   obtain rfl := Option.some.inj ho
   have e1 : a.eval (.tmp 3) = .pointer (some ⟨w.heap.size, 0, none⟩) := hd ⟨0, .data⟩ (by simp) rfl 3 rfl
   refine qz2 (v := .int .i64 A.camera) (w' := V) ?_ (hK _ _ rfl (Below.refl _ _) (fun h => by cases h))
   generalize a.eval = ev at *
   go_simp
  | 2, ho =>
   obtain rfl := Option.some.inj ho
   have e1 : a.eval (.tmp 1) = .pointer (some ⟨w.heap.size, 0, none⟩) := hn 1 rfl
   refine qz2 (v := .pointer (some ⟨w.heap.size, 1, none⟩)) (w' := V) ?_ (hK _ _ rfl (Below.refl _ _) (fun h => by cases h))
   generalize a.eval = ev at *
   go_simp
  | 3, ho =>
   obtain rfl := Option.some.inj ho
   have e1 : a.eval (.tmp 5) = .pointer (some ⟨w.heap.size, 1, none⟩) := hd ⟨2, .data⟩ (by simp) rfl 5 rfl
   refine qz2 (v := .slice a0 A.slots.length c0) (w' := V) ?_ (hK _ _ rfl (Below.refl _ _) (fun h => by cases h))
   generalize a.eval = ev at *
   go_simp
  | 4, ho =>
   obtain rfl := Option.some.inj ho
   have e1 : a.eval (.tmp 6) = .slice a0 A.slots.length c0 := hd ⟨3, .data⟩ (by simp) rfl 6 rfl
   have ef : a.eval (.func 54) = .func (.func 54) #[] #[] := rfl
   refine qzm (f := 54) (args := #[.slice a0 A.slots.length c0]) (R := (fun v w' => (qz5z V.heap.size A.slots v w' /\ Below V.heap.size V w') /\ (∀ b, qz1l v = some b -> V.heap.size <= b))) ?_ ((qz20 B (.slice a0 A.slots.length c0) A.slots V hBV (by omega) IV.s).mono (fun e w' h => ⟨_, h.1, ⟨⟨⟨V.heap.size, rfl, Nat.le_refl _, h.2.1, h.2.2.1⟩, h.2.2.2⟩, fun b hb => by cases hb; exact Nat.le_refl _⟩⟩)) (fun v w' h => hK v w' (by obtain ⟨b, h1, h2, h3⟩ := h.1.1; exact ⟨b, h1, Nat.le_trans hb.size h2, h3⟩) h.1.2 (fun _ => h.2))
   clear IV
   generalize a.eval = ev at *
   go_simp
  | 5, ho =>
   obtain rfl := Option.some.inj ho
   have e1 : a.eval (.tmp 1) = .pointer (some ⟨w.heap.size, 0, none⟩) := hn 1 rfl
   refine qz2 (v := .pointer (some ⟨w.heap.size, 2, none⟩)) (w' := V) ?_ (hK _ _ rfl (Below.refl _ _) (fun h => by cases h))
   generalize a.eval = ev at *
   go_simp
  | 6, ho =>
   obtain rfl := Option.some.inj ho
   have e1 : a.eval (.tmp 8) = .pointer (some ⟨w.heap.size, 2, none⟩) := hd ⟨5, .data⟩ (by simp) rfl 8 rfl
   refine qz2 (v := .slice a1 A.guides.length c1) (w' := V) ?_ (hK _ _ rfl (Below.refl _ _) (fun h => by cases h))
   generalize a.eval = ev at *
   go_simp
  | 7, ho =>
   obtain rfl := Option.some.inj ho
   have e1 : a.eval (.tmp 9) = .slice a1 A.guides.length c1 := hd ⟨6, .data⟩ (by simp) rfl 9 rfl
   have ef : a.eval (.func 54) = .func (.func 54) #[] #[] := rfl
   refine qzm (f := 54) (args := #[.slice a1 A.guides.length c1]) (R := (fun v w' => (qz5z V.heap.size A.guides v w' /\ Below V.heap.size V w') /\ (∀ b, qz1l v = some b -> V.heap.size <= b))) ?_ ((qz20 B (.slice a1 A.guides.length c1) A.guides V hBV (by omega) IV.g).mono (fun e w' h => ⟨_, h.1, ⟨⟨⟨V.heap.size, rfl, Nat.le_refl _, h.2.1, h.2.2.1⟩, h.2.2.2⟩, fun b hb => by cases hb; exact Nat.le_refl _⟩⟩)) (fun v w' h => hK v w' (by obtain ⟨b, h1, h2, h3⟩ := h.1.1; exact ⟨b, h1, Nat.le_trans hb.size h2, h3⟩) h.1.2 (fun _ => h.2))
   clear IV
   generalize a.eval = ev at *
   go_simp
  | 8, ho =>
   obtain rfl := Option.some.inj ho
   have e1 : a.eval (.tmp 1) = .pointer (some ⟨w.heap.size, 0, none⟩) := hn 1 rfl
   refine qz2 (v := .pointer (some ⟨w.heap.size, 3, none⟩)) (w' := V) ?_ (hK _ _ rfl (Below.refl _ _) (fun h => by cases h))
   generalize a.eval = ev at *
   go_simp
  | 9, ho =>
   obtain rfl := Option.some.inj ho
   have e1 : a.eval (.tmp 11) = .pointer (some ⟨w.heap.size, 3, none⟩) := hd ⟨8, .data⟩ (by simp) rfl 11 rfl
   refine qz2 (v := .slice a2 A.nodes.length c2) (w' := V) ?_ (hK _ _ rfl (Below.refl _ _) (fun h => by cases h))
   generalize a.eval = ev at *
   go_simp
  | 10, ho =>
   obtain rfl := Option.some.inj ho
   have e1 : a.eval (.tmp 12) = .slice a2 A.nodes.length c2 := hd ⟨9, .data⟩ (by simp) rfl 12 rfl
   have ef : a.eval (.func 55) = .func (.func 55) #[] #[] := rfl
   refine qzm (f := 55) (args := #[.slice a2 A.nodes.length c2]) (R := (fun v w' => qz4f V.heap.size A.nodes v w' /\ Below V.heap.size V w')) ?_ ((qz3e B (.slice a2 A.nodes.length c2) A.nodes V hBV (by omega) IV.n).mono (fun e w' h => by obtain ⟨v', h1, h2, h3⟩ := h; exact ⟨v', h1, h2, h3⟩)) (fun v w' h => hK v w' (by obtain ⟨b, ps, h1, h2, h3, h4, h5⟩ := h.1; exact ⟨b, ps, h1, Nat.le_trans hb.size h2, h3, h4, h5.lo hb.size⟩) h.2 (fun h => by cases h))
   clear IV
   generalize a.eval = ev at *
   go_simp
  | 11, ho =>
   obtain rfl := Option.some.inj ho
   have e1 : a.eval (.tmp 1) = .pointer (some ⟨w.heap.size, 0, none⟩) := hn 1 rfl
   refine qz2 (v := .pointer (some ⟨w.heap.size, 4, none⟩)) (w' := V) ?_ (hK _ _ rfl (Below.refl _ _) (fun h => by cases h))
   generalize a.eval = ev at *
   go_simp
  | 12, ho =>
   obtain rfl := Option.some.inj ho
   have e1 : a.eval (.tmp 14) = .pointer (some ⟨w.heap.size, 4, none⟩) := hd ⟨11, .data⟩ (by simp) rfl 14 rfl
   refine qz2 (v := .slice a3 A.vers.length c3) (w' := V) ?_ (hK _ _ rfl (Below.refl _ _) (fun h => by cases h))
   generalize a.eval = ev at *
   go_simp
  | 13, ho =>
   obtain rfl := Option.some.inj ho
   have e1 : a.eval (.tmp 15) = .slice a3 A.vers.length c3 := hd ⟨12, .data⟩ (by simp) rfl 15 rfl
   have ef : a.eval (.func 56) = .func (.func 56) #[] #[] := rfl
   refine qzm (f := 56) (args := #[.slice a3 A.vers.length c3]) (R := (fun v w' => qz83 V.heap.size A.vers v w' /\ Below V.heap.size V w')) ?_ ((qz3t B (.slice a3 A.vers.length c3) A.vers V hBV (by omega) IV.r).mono (fun e w' h => by obtain ⟨v', h1, h2, h3⟩ := h; exact ⟨v', h1, h2, h3⟩)) (fun v w' h => hK v w' (by obtain ⟨b, ps, h1, h2, h3, h4, h5⟩ := h.1; exact ⟨b, ps, h1, Nat.le_trans hb.size h2, h3, h4, h5.lo hb.size⟩) h.2 (fun h => by cases h))
   clear IV
   generalize a.eval = ev at *
   go_simp
  | 14, ho =>
   obtain rfl := Option.some.inj ho
   have e0 : a.eval (.tmp 4) = .int .i64 A.camera := hd ⟨1, .data⟩ (by simp) rfl 4 rfl
   have g1 : qz5z w0.heap.size A.slots (a.eval (.tmp 7)) V := hd ⟨4, .data⟩ (by simp) rfl 7 rfl
   have g2 : qz5z w0.heap.size A.guides (a.eval (.tmp 10)) V := hd ⟨7, .data⟩ (by simp) rfl 10 rfl
   have g3 : qz4f w0.heap.size A.nodes (a.eval (.tmp 13)) V := hd ⟨10, .data⟩ (by simp) rfl 13 rfl
   have g4 : qz83 w0.heap.size A.vers (a.eval (.tmp 16)) V := hd ⟨13, .data⟩ (by simp) rfl 16 rfl
   have g5 : ∀ b, qz1l (a.eval (.tmp 7)) = some b -> qz1l (a.eval (.tmp 10)) ≠ some b := fun b hbb => hq ⟨4, .data⟩ (by simp) rfl ⟨7, .data⟩ (by simp) rfl (by decide) rfl rfl 7 10 b rfl rfl hbb
   obtain ⟨b1, e1, -⟩ := id g1
   obtain ⟨b2, e2, -⟩ := id g2
   obtain ⟨b3, s3, e3, -⟩ := id g3
   obtain ⟨b4, s4, e4, -⟩ := id g4
   refine qz2 (v := .agg #[.int .i64 A.camera, a.eval (.tmp 7), a.eval (.tmp 10), a.eval (.tmp 13), a.eval (.tmp 16)]) (w' := V) ?_ (hK _ _ ⟨_, _, _, _, rfl, g1, g2, g3, g4, g5⟩ (Below.refl _ _) (fun h => by cases h))
   clear g1 g2 g3 g4 g5
   generalize a.eval = ev at *
   go_simp
  | 15, ho =>
   obtain rfl := Option.some.inj ho
   obtain ⟨s, g, n, r, e1, F⟩ := (show ∃ s g n r, a.eval (.tmp 17) = .agg #[.int .i64 A.camera, s, g, n, r] /\ qz8a w0.heap.size A s g n r V from hd ⟨14, .data⟩ (by simp) rfl 17 rfl)
   have al := (Below.refl V.heap.size V).alloc (Nat.le_refl _) (.cells #[.int .i64 A.camera, s, g, n, r] 87)
   refine qz2 (v := .pointer (some ⟨V.heap.size, 0, none⟩)) (w' := V.alloc (.cells #[.int .i64 A.camera, s, g, n, r] 87)) ?_ (hK _ _ ⟨V.heap.size, s, g, n, r, rfl, hb.size, Blk.new _ _ _, qz6 V [.int .i64 A.camera, s, g, n, r] _, F.kept al⟩ al (fun h => by cases h))
   clear F
   generalize a.eval = ev at *
   go_simp
  | 16, ho =>
   obtain rfl := Option.some.inj ho
   obtain ⟨b, s, g, n, r, e1, h1, h2, h3, F⟩ := (show ∃ b s g n r, a.eval (.tmp 18) = .pointer (some ⟨b, 0, none⟩) /\ w0.heap.size <= b /\ Blk V b 87 5 /\ V.rangeAt b 0 [.int .i64 A.camera, s, g, n, r] /\ qz8a w0.heap.size A s g n r V from hd ⟨15, .data⟩ (by simp) rfl 18 rfl)
   refine qz2 (v := .pointer (some ⟨b, 0, none⟩)) (w' := V) ?_ (hK _ _ ⟨b, s, g, n, r, rfl, h1, h2, h3, F⟩ (Below.refl _ _) (fun h => by cases h))
   clear F h1 h2 h3
   generalize a.eval = ev at *
   go_simp
  | n + 17, ho => exact absurd ho (by simp)
 case final =>
  intro vs V hb hG hD
  obtain ⟨cb, s, g, n, r, e16, hlo, hbk, hrow, F⟩ := (show ∃ b s g n r, vs 16 = .pointer (some ⟨b, 0, none⟩) /\ w0.heap.size <= b /\ Blk V b 87 5 /\ V.rangeAt b 0 [.int .i64 A.camera, s, g, n, r] /\ qz8a w0.heap.size A s g n r V from hG 16 (by decide))
  obtain ⟨sb, rfl, ls, bs, rs⟩ := F.ss
  obtain ⟨gb, rfl, lg, bg, rg⟩ := F.sg
  obtain ⟨nb, ps, rfl, ln, bn, rn, pn⟩ := F.sn
  obtain ⟨rb, qs, rfl, lr, br, rr, pr⟩ := F.sr
  have hne := F.ne
  have z0 := K0.size
  have KK : Below w.heap.size w V := K0.trans (hb.mono K0.size)
  have OC : qzj w.heap.size V cb (.slice (some ⟨sb, 0, none⟩) A.slots.length A.slots.length) (.slice (some ⟨gb, 0, none⟩) A.guides.length A.guides.length) (.slice (some ⟨nb, 0, none⟩) A.nodes.length A.nodes.length) (.slice (some ⟨rb, 0, none⟩) A.vers.length A.vers.length) ps qs A :=
   ⟨hrow, hbk, by omega, bs.own rs (by rw [qz5 (sz := 1) (fun _ => rfl)]; omega) (by omega) (by unfold maxLen; omega), bg.own rg (by rw [qz5 (sz := 1) (fun _ => rfl)]; omega) (by omega) (by unfold maxLen; omega), bn.own rn (by rw [qz5 (sz := 1) (fun _ => rfl), pn.len]; omega) (by omega) (by unfold maxLen; omega), br.own rr (by rw [qz5 (sz := 1) (fun _ => rfl), pr.len]; omega) (by omega) (by unfold maxLen; omega), pn.lo (by omega), pr.lo (by omega), fun b h1 h2 => hne b h1 h2⟩
  clear hG hD hb F hlo hbk hrow bs bg bn br rs rg rn rr pn pr hne
  generalize hl : laid _ vs _ _ _ = A'
  have hA' : A' = { tmps := #[.agg #[.int .i64 A.camera, .slice a0 A.slots.length c0, .slice a1 A.guides.length c1, .slice a2 A.nodes.length c2, .slice a3 A.vers.length c3], .pointer (some ⟨w.heap.size, 0, none⟩), vs 16, vs 0, vs 1, vs 2, vs 3, vs 4, vs 5, vs 6, vs 7, vs 8, vs 9, vs 10, vs 11, vs 12, vs 13, vs 14, vs 15], defers := [] } := by
   rw [<- hl]
   kernel_rfl
  subst hA'
  clear hl
  rw [e16]
  go_wp2
  go_ret
  exact ⟨_, _, _, _, _, _, _, rfl, OC, KK⟩
end
section
attribute [local go_sem ↓] Go.wp_at_zero Go.wp_at_succ
def ndOf (A : Ar) (n : Int) : Nd := A.nodes.getD n.toNat ⟨-1, 0, 0⟩
theorem qz2f (A : Ar) (n : Nat) (h : n < A.nodes.length) : ndOf A n = A.nodes[n] := by simp [ndOf, h]
def hasB (x y z u : Int) (A : Ar) (n : Int) : Bool := qzi x y z u A && inB n 0 ((A.nodes.length : Int) - 1)
def qz6t (x y z u : Int) (A : Ar) (n : Int) : Int := if hasB x y z u A n then (ndOf A n).head else -1
theorem qz1z {x y z u : Int} {A : Ar} (h : qzi x y z u A = true) : qz64 x y z u A = true /\ qzn (fun _ v => inB v (-1) 100) A.slots = true /\ qzn (fun _ v => inB v 0 ((A.nodes.length : Int) - 1)) A.guides = true /\ qzn (qz1r A.vers.length) A.nodes = true /\ qzn (verB A.nodes.length A.camera) A.vers = true := by
 simp only [qzi, Bool.and_eq_true] at h
 exact ⟨h.1.1.1.1, h.1.1.1.2, h.1.1.2, h.1.2, h.2⟩
theorem qz87 (B : Nat) (A : Ar) (x y z u : Int) (n : Int) (a0 a1 a2 a3 : Option Addr) (c0 c1 c2 c3 : Nat) (w : World) (hB : B <= w.heap.size) (hA : A.size <= 1048576) (I : qzd B w (.slice a0 A.slots.length c0) (.slice a1 A.guides.length c1) (.slice a2 A.nodes.length c2) (.slice a3 A.vers.length c3) A) :
  Calls Tryd.prog 18 #[.agg #[.int .i64 x, .int .i64 y, .int .i64 z, .int .i64 u], .agg #[.int .i64 A.camera, .slice a0 A.slots.length c0, .slice a1 A.guides.length c1, .slice a2 A.nodes.length c2, .slice a3 A.vers.length c3], .int .i64 n] w fun e w' => e = .returned (.bool (hasB x y z u A n)) /\ Below w.heap.size w w' := by
 have P0 := (qz1h w x y z u 36).below ((Below.refl _ _).alloc (Nat.le_refl _) (.cells #[.int .i64 A.camera, .slice a0 A.slots.length c0, .slice a1 A.guides.length c1, .slice a2 A.nodes.length c2, .slice a3 A.vers.length c3] 33)) (by simp)
 have X0 : World.rangeAt ((w.alloc (.cells #[.int .i64 x, .int .i64 y, .int .i64 z, .int .i64 u] 36)).alloc (.cells #[.int .i64 A.camera, .slice a0 A.slots.length c0, .slice a1 A.guides.length c1, .slice a2 A.nodes.length c2, .slice a3 A.vers.length c3] 33)) (w.heap.size + 1) 0 [.int .i64 A.camera, .slice a0 A.slots.length c0, .slice a1 A.guides.length c1, .slice a2 A.nodes.length c2, .slice a3 A.vers.length c3] := by
  have h := qz6 (w.alloc (.cells #[.int .i64 x, .int .i64 y, .int .i64 z, .int .i64 u] 36)) [.int .i64 A.camera, .slice a0 A.slots.length c0, .slice a1 A.guides.length c1, .slice a2 A.nodes.length c2, .slice a3 A.vers.length c3] 33
  simp only [World.size_alloc] at h
  exact h
 have K0 := ((Below.refl w.heap.size w).alloc (Nat.le_refl _) (.cells #[.int .i64 x, .int .i64 y, .int .i64 z, .int .i64 u] 36)).alloc (by simp) (.cells #[.int .i64 A.camera, .slice a0 A.slots.length c0, .slice a1 A.guides.length c1, .slice a2 A.nodes.length c2, .slice a3 A.vers.length c3] 33)
 have hz0 : w.heap.size + 1 < ((w.alloc (.cells #[.int .i64 x, .int .i64 y, .int .i64 z, .int .i64 u] 36)).alloc (.cells #[.int .i64 A.camera, .slice a0 A.slots.length c0, .slice a1 A.guides.length c1, .slice a2 A.nodes.length c2, .slice a3 A.vers.length c3] 33)).heap.size := by simp
 have I0 := I.below (K0.mono hB)
 have P0' := P0
 obtain ⟨p0, p1, p2, p3⟩ := P0'
 obtain ⟨x0, x1, x2, x3, x4⟩ := row5 X0
 go_enter Tryd.func18, Tryd.ntmps18
 go_wp2_with fail
 refine (qz2c B A x y z u _ _ _ _ _ _ _ _ _ (Nat.le_trans hB K0.size) hA I0).mono ?_
 rintro e w1 ⟨rfl, b1⟩
 have P1 := P0.below b1 (by omega)
 have X1 := qz0 X0 b1 hz0
 have K1 := K0.trans (b1.mono (by omega))
 have I1 := I.below (K1.mono hB)
 have hz1 := Nat.lt_of_lt_of_le hz0 b1.size
 clear P0 X0 K0 I I0 b1 hz0 p0 p1 p2 p3 x0 x1 x2 x3 x4
 have P1' := P1
 obtain ⟨p0, p1, p2, p3⟩ := P1'
 obtain ⟨x0, x1, x2, x3, x4⟩ := row5 X1
 unfold Ar.size at hA
 cases hq : qzi x y z u A
 ·have hv : hasB x y z u A n = false := by simp [hasB, hq]
  go_wp2
  go_ret
  exact ⟨by first | rfl | (rw [hv]; rfl), K1⟩
 ·have hv : hasB x y z u A n = inB n 0 ((A.nodes.length : Int) - 1) := by simp [hasB, hq]
  go_wp2_with fail
  refine (qz3m _ _ _ _ _ _ _ _ _ (by omega)).mono ?_
  rintro e w2 ⟨rfl, b2⟩
  go_wp2
  go_ret
  exact ⟨by first | rfl | (rw [hv]; rfl), K1.trans (b2.mono (by omega))⟩
end
end Go.Proofs.YtlfjhcdjgoeafaaDoor
