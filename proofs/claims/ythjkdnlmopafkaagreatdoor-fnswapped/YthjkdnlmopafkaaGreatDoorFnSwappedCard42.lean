/-
  What the law's proof goes by, part 43.
-/
import Derived.Test.YthjkdnlmopafkaaGreatDoorFnSwappedCard00
import Derived.Test.YthjkdnlmopafkaaGreatDoorFnSwappedCard01
import Derived.Test.YthjkdnlmopafkaaGreatDoorFnSwappedCard02
import Derived.Test.YthjkdnlmopafkaaGreatDoorFnSwappedCard41
namespace Go.Proofs.YthjkdnlmopafkaaGreatDoor
open Go.ChangeShapes Go.WideShapes Go.ChangeAt Go.RowKit
set_option maxRecDepth 100000
set_option maxHeartbeats 16000000
set_option linter.unusedVariables false
set_option linter.unusedSimpArgs false
set_option linter.unnecessarySimpa false
set_option linter.unusedSectionVars false
section
attribute [local go_sem ↓] Go.wp_at_zero Go.wp_at_succ
theorem qz5x {α : Type} {f : α -> List Value} (hf : ∀ x, ∀ v ∈ f x, v.oneCell' = true) (l : List α) : ∀ v ∈ qz8 f l, v.oneCell' = true := by
 intro v hv
 obtain ⟨x, _, hx⟩ := List.mem_flatMap.1 hv
 exact hf x v hx
theorem qzge (x : Int) : ∀ v ∈ intC x, v.oneCell' = true := by intro v hv; simp [intC] at hv; subst hv; rfl
theorem qzhj (x : Nd) : ∀ v ∈ ndC x, v.oneCell' = true := by intro v hv; simp [ndC] at hv; rcases hv with rfl | rfl | rfl <;> rfl
theorem qzhm (x : Vr) : ∀ v ∈ vrC x, v.oneCell' = true := by intro v hv; simp [vrC] at hv; rcases hv with rfl | rfl | rfl | rfl | rfl <;> rfl
theorem qzhl : (Tryz.prog.info? 2).map (·.size) = some 1 := by kernel_rfl
theorem qz4l (B : Nat) (v : Value) (l : List Int) (w : World) (hB : B <= Q6o) (hl : l.length <= 1048576) (S : qzu B w v l.length (qz8 intC l)) :
  Calls Tryz.prog 72 #[v] w fun e w' => e = .returned Q1z /\ Blk w' Q6o 2 l.length /\ w'.rangeAt Q6o 0 (qz8 intC l) /\ Below Q6o w w' := by
 obtain ⟨a, cap, rfl, hS⟩ := S
 have hmk : ∀ w : World, (Instr.makeSlice 26 (.int .i64 (l.length : Int)) (.int .i64 (l.length : Int))).run Tryz.prog w = .ok Q1z (w.alloc Q6d) := fun w => run_make_row' (P := Tryz.prog) 26 2 (.int .i64 0) 8 Tryz.underlying26 qzi3 rfl .i64 .i64 l.length (by omega) (by omega) w
 have al := (Q6s Q6o w).alloc (Q6v _) Q6d
 have B1 := Blk.new w (madeCells #[Value.int IntKind.i64 0] l.length) 2
 rw [size_madeCells] at B1
 have hlen : (qz8 intC l).length = l.length * 1 := qzz (sz := 1) (fun _ => rfl) l
 have T1 := B1.there 0 (l.length * 1) (by omega)
 have hsrc : 0 < l.length -> ∃ ad, a = some ad /\ ∀ j v, (qz8 intC l)[j]? = some v -> (w.alloc Q6d).cell? (ad.add j) = some v := by
  intro hp
  rcases hS with h0 | ⟨bb, off, rfl, hbb, R0⟩
  ·omega
  ·refine ⟨_, rfl, fun j v hj => ?_⟩
   have := (qz0 R0 (al.mono hB) hbb) j v hj
   have ea : (⟨bb, off, none⟩ : Addr).add j = ⟨bb, off + j, none⟩ := by unfold Addr.add; split <;> simp_all
   rw [ea]
   exact this
 have hone := qz5x qzge l
 go_enter Tryz.func72, Tryz.ntmps72
 obtain ⟨cs, hcs⟩ : ∃ cs, cs = qz8 intC l := ⟨_, rfl⟩
 rw [<- hcs] at hlen hsrc hone ⊢
 clear hcs hS
 go_wp2_with (refine qz3x rfl (.tmp 7) (.tmp 8) 26 26 rfl 2 Tryz.underlying26 1 qzhl a Q6o l.length l.length cap ?kd ?ks cs hlen ?kc ?kt hone ?_)
 try (case kd => rfl)
 try (case ks => rfl)
 try (case kc => exact hsrc)
 try (case kt => exact T1)
 go_wp2
 go_ret
 refine ⟨rfl, B1.setCells _ _ _, Q6u _ _ _ _ (by rw [hlen]; exact T1), Below.setCells (Q6v _) _ _ _ al⟩
theorem qz8s (B : Nat) (v : Value) (l : List Nd) (w : World) (hB : B <= Q6o) (hl : l.length <= 1048576) (S : qzu B w v l.length (qz8 ndC l)) :
  Calls Tryz.prog 115 #[v] w fun e w' => e = .returned Q1z /\ Blk w' Q6o 42 (l.length * 3) /\ w'.rangeAt Q6o 0 (qz8 ndC l) /\ Below Q6o w w' := by
 obtain ⟨a, cap, rfl, hS⟩ := S
 obtain ⟨i0, hi, hz0, hz1, hz2⟩ := info_parts qz6u
 have hmk : ∀ w : World, (Instr.makeSlice 27 (.int .i64 (l.length : Int)) (.int .i64 (l.length : Int))).run Tryz.prog w = .ok Q1z (w.alloc (.cells (madeCells (.agg Q4a : Value).cells (l.length * 3)) 42)) := by
  intro w
  have h := run_make (P := Tryz.prog) w 27 42 i0 _ Tryz.underlying27 hi hz0 .i64 .i64 l.length l.length (by omega) (by omega) (by rw [hz2]; omega) (by omega)
  simpa [hz1] using h
 clear hi hz0 hz1 hz2
 have al := (Q6s Q6o w).alloc (Q6v _) (.cells (madeCells (.agg Q4a : Value).cells (l.length * 3)) 42)
 have B1 := Blk.new w (madeCells (.agg Q4a : Value).cells (l.length * 3)) 42
 rw [size_madeCells] at B1
 have hlen : (qz8 ndC l).length = l.length * 3 := qzz (sz := 3) (fun _ => rfl) l
 have T1 := B1.there 0 (l.length * 3) (by omega)
 have hsrc : 0 < l.length -> ∃ ad, a = some ad /\ ∀ j v, (qz8 ndC l)[j]? = some v -> (w.alloc (.cells (madeCells (.agg Q4a : Value).cells (l.length * 3)) 42)).cell? (ad.add j) = some v := by
  intro hp
  rcases hS with h0 | ⟨bb, off, rfl, hbb, R0⟩
  ·omega
  ·refine ⟨_, rfl, fun j v hj => ?_⟩
   have := (qz0 R0 (al.mono hB) hbb) j v hj
   have ea : (⟨bb, off, none⟩ : Addr).add j = ⟨bb, off + j, none⟩ := by unfold Addr.add; split <;> simp_all
   rw [ea]
   exact this
 have hone := qz5x qzhj l
 go_enter Tryz.func115, Tryz.ntmps115
 obtain ⟨cs, hcs⟩ : ∃ cs, cs = qz8 ndC l := ⟨_, rfl⟩
 rw [<- hcs] at hlen hsrc hone ⊢
 clear hcs hS
 go_wp2_with (refine qz3x rfl (.tmp 7) (.tmp 8) 27 27 rfl 42 Tryz.underlying27 3 (qzbk ⟨0, 0, 0⟩) a Q6o l.length l.length cap ?kd ?ks cs hlen ?kc ?kt hone ?_)
 try (case kd => rfl)
 try (case ks => rfl)
 try (case kc => exact hsrc)
 try (case kt => exact T1)
 go_wp2
 go_ret
 refine ⟨rfl, B1.setCells _ _ _, Q6u _ _ _ _ (by rw [hlen]; exact T1), Below.setCells (Q6v _) _ _ _ al⟩
theorem qz99 (B : Nat) (v : Value) (l : List Vr) (w : World) (hB : B <= Q6o) (hl : l.length <= 1048576) (S : qzu B w v l.length (qz8 vrC l)) :
  Calls Tryz.prog 116 #[v] w fun e w' => e = .returned Q1z /\ Blk w' Q6o 40 (l.length * 5) /\ w'.rangeAt Q6o 0 (qz8 vrC l) /\ Below Q6o w w' := by
 obtain ⟨a, cap, rfl, hS⟩ := S
 obtain ⟨i0, hi, hz0, hz1, hz2⟩ := info_parts qz9i
 have hmk : ∀ w : World, (Instr.makeSlice 28 (.int .i64 (l.length : Int)) (.int .i64 (l.length : Int))).run Tryz.prog w = .ok Q1z (w.alloc (.cells (madeCells (.agg Q1p : Value).cells (l.length * 5)) 40)) := by
  intro w
  have h := run_make (P := Tryz.prog) w 28 40 i0 _ Tryz.underlying28 hi hz0 .i64 .i64 l.length l.length (by omega) (by omega) (by rw [hz2]; omega) (by omega)
  simpa [hz1] using h
 clear hi hz0 hz1 hz2
 have al := (Q6s Q6o w).alloc (Q6v _) (.cells (madeCells (.agg Q1p : Value).cells (l.length * 5)) 40)
 have B1 := Blk.new w (madeCells (.agg Q1p : Value).cells (l.length * 5)) 40
 rw [size_madeCells] at B1
 have hlen : (qz8 vrC l).length = l.length * 5 := qzz (sz := 5) (fun _ => rfl) l
 have T1 := B1.there 0 (l.length * 5) (by omega)
 have hsrc : 0 < l.length -> ∃ ad, a = some ad /\ ∀ j v, (qz8 vrC l)[j]? = some v -> (w.alloc (.cells (madeCells (.agg Q1p : Value).cells (l.length * 5)) 40)).cell? (ad.add j) = some v := by
  intro hp
  rcases hS with h0 | ⟨bb, off, rfl, hbb, R0⟩
  ·omega
  ·refine ⟨_, rfl, fun j v hj => ?_⟩
   have := (qz0 R0 (al.mono hB) hbb) j v hj
   have ea : (⟨bb, off, none⟩ : Addr).add j = ⟨bb, off + j, none⟩ := by unfold Addr.add; split <;> simp_all
   rw [ea]
   exact this
 have hone := qz5x qzhm l
 go_enter Tryz.func116, Tryz.ntmps116
 obtain ⟨cs, hcs⟩ : ∃ cs, cs = qz8 vrC l := ⟨_, rfl⟩
 rw [<- hcs] at hlen hsrc hone ⊢
 clear hcs hS
 go_wp2_with (refine qz3x rfl (.tmp 7) (.tmp 8) 28 28 rfl 40 Tryz.underlying28 5 (qzah ⟨0, false, 0, 0, 0⟩) a Q6o l.length l.length cap ?kd ?ks cs hlen ?kc ?kt hone ?_)
 try (case kd => rfl)
 try (case ks => rfl)
 try (case kc => exact hsrc)
 try (case kt => exact T1)
 go_wp2
 go_ret
 refine ⟨rfl, B1.setCells _ _ _, Q6u _ _ _ _ (by rw [hlen]; exact T1), Below.setCells (Q6v _) _ _ _ al⟩
theorem qzez : (Tryz.prog.info? 132).map (fun i => (i.zero, i.size, i.bytes)) = some (some (.pointer none), 1, 8) := by kernel_rfl
def qz8e (lo : Nat) (l : List Nd) (v : Value) (w : World) : Prop := ∃ b ps, v = .slice (some ⟨b, 0, none⟩) l.length l.length /\ lo <= b /\ Blk w b 132 l.length /\ w.rangeAt b 0 (qz8 ptrC ps) /\ qz31 lo 42 3 w ndC ps l
theorem qz8e.kept {lo : Nat} {l : List Nd} {v : Value} {w w' : World} (h : qz8e lo l v w) (hb : Below Q6o w w') : qz8e lo l v w' := by
 obtain ⟨b, ps, h1, h2, h3, h4, h5⟩ := h
 exact ⟨b, ps, h1, h2, h3.grown hb, qz0 h4 hb h3.lt, h5.grown hb⟩
theorem qz6j (B : Nat) (v : Value) (l : List Nd) (w : World) (hB : B <= Q6o) (hl : l.length <= 1048576) (S : qzu B w v l.length (qz8 ndC l)) :
  Calls Tryz.prog 73 #[v] w fun e w' => ∃ v', e = .returned v' /\ qz8e Q6o l v' w' /\ Below Q6o w w' := by
 obtain ⟨a, cap, rfl, hS⟩ := id S
 have hmk : ∀ w : World, (Instr.makeSlice 126 (.int .i64 (l.length : Int)) (.int .i64 (l.length : Int))).run Tryz.prog w = .ok Q1z (w.alloc Q5k) := fun w => run_make_row' (P := Tryz.prog) 126 132 (.pointer none) 8 Tryz.underlying126 qzez rfl .i64 .i64 l.length (by omega) (by omega) w
 clear hS
 go_enter Tryz.func73, Tryz.ntmps73
 go_wp2_with fail
 refine (qz8s B _ l w hB hl S).mono ?_
 rintro e w1 ⟨rfl, B1, R1, K1⟩
 have hz1 := B1.lt
 have al := (Q6s Q6y w1).alloc (Q6v _) Q5k
 have B2 := Blk.new w1 (madeCells #[.pointer none] l.length) 132
 rw [size_madeCells] at B2
 have B1' := B1.grown al
 have R1' := qz0 R1 al hz1
 have K2 := K1.trans (al.mono (by omega))
 go_wp2
 clear B1 R1 K1 S hmk
 go_loopw [13] (fun i wr => ∃ k : Nat, k <= l.length /\ i = .int .i64 k /\ wr.rangeAt Q6y 0 (qz8 ptrC (qz3i Q6o 3 k)) /\ Blk wr Q6y 132 l.length /\ Only Q6y (w1.alloc Q5k) wr) (fun i _ => l.length - (intOf i).toNat)
 case atStart => exact ⟨0, Nat.zero_le _, rfl, by simp [qz8, qz3i, World.rangeAt], B2, Only.refl _ _⟩
 case round =>
  obtain ⟨k, hk, rfl, R, T, O⟩ := hrel
  by_cases hlt : k < l.length
  ·obtain ⟨tc, tf⟩ := T.there 0 l.length (by omega) k hlt
   obtain ⟨u, hu⟩ := Option.isSome_iff_exists.1 tc
   simp only [Nat.zero_add] at hu tf
   have hlen : (qz8 ptrC (qz3i Q6o 3 k)).length = k := by rw [qzz (sz := 1) (fun _ => rfl), qz3d]; omega
   have G := qz6t R (by rw [hlen, Nat.zero_add, hu]; rfl) (.pointer (some ⟨Q6o, k * 3, none⟩))
   rw [hlen, Nat.zero_add] at G
   have e1 : qz8 ptrC (qz3i Q6o 3 (k + 1)) = qz8 ptrC (qz3i Q6o 3 k) ++ [.pointer (some ⟨Q6o, k * 3, none⟩)] := by rw [qz6i, qz1p]; rfl
   rw [<- e1] at G
   clear e1 hlen R
   go_wp2
   go_roundw
   case rel => exact ⟨k + 1, by omega, by go_num, G, T.setCell _ _, O.setCell (Or.inl rfl) _⟩
   case measure => simp [intOf]; omega
  ·obtain rfl : k = l.length := by omega
   have BB : But (fun q => q = Q6y) (w1.alloc Q5k) wr := But.of_only O rfl
   have hne : ¬ (Q6o = Q6y) := by omega
   have KF : Below Q6o w wr := K2.trans (O.below (by omega) (by simp; omega))
   go_wp2
   go_ret
   exact ⟨_, rfl, ⟨Q6y, _, rfl, by omega, T, R, qz7y (fun _ => rfl) (Q6v _) (B1'.but BB hne) (BB.range R1' (by simp; omega) hne)⟩, KF⟩
theorem qzg6 : (Tryz.prog.info? 135).map (fun i => (i.zero, i.size, i.bytes)) = some (some (.pointer none), 1, 8) := by kernel_rfl
def qzei (lo : Nat) (l : List Vr) (v : Value) (w : World) : Prop := ∃ b ps, v = .slice (some ⟨b, 0, none⟩) l.length l.length /\ lo <= b /\ Blk w b 135 l.length /\ w.rangeAt b 0 (qz8 ptrC ps) /\ qz31 lo 40 5 w vrC ps l
theorem qzei.kept {lo : Nat} {l : List Vr} {v : Value} {w w' : World} (h : qzei lo l v w) (hb : Below Q6o w w') : qzei lo l v w' := by
 obtain ⟨b, ps, h1, h2, h3, h4, h5⟩ := h
 exact ⟨b, ps, h1, h2, h3.grown hb, qz0 h4 hb h3.lt, h5.grown hb⟩
theorem qz7j (B : Nat) (v : Value) (l : List Vr) (w : World) (hB : B <= Q6o) (hl : l.length <= 1048576) (S : qzu B w v l.length (qz8 vrC l)) :
  Calls Tryz.prog 74 #[v] w fun e w' => ∃ v', e = .returned v' /\ qzei Q6o l v' w' /\ Below Q6o w w' := by
 obtain ⟨a, cap, rfl, hS⟩ := id S
 have hmk : ∀ w : World, (Instr.makeSlice 128 (.int .i64 (l.length : Int)) (.int .i64 (l.length : Int))).run Tryz.prog w = .ok Q1z (w.alloc Q5j) := fun w => run_make_row' (P := Tryz.prog) 128 135 (.pointer none) 8 Tryz.underlying128 qzg6 rfl .i64 .i64 l.length (by omega) (by omega) w
 clear hS
 go_enter Tryz.func74, Tryz.ntmps74
 go_wp2_with fail
 refine (qz99 B _ l w hB hl S).mono ?_
 rintro e w1 ⟨rfl, B1, R1, K1⟩
 have hz1 := B1.lt
 have al := (Q6s Q6y w1).alloc (Q6v _) Q5j
 have B2 := Blk.new w1 (madeCells #[.pointer none] l.length) 135
 rw [size_madeCells] at B2
 have B1' := B1.grown al
 have R1' := qz0 R1 al hz1
 have K2 := K1.trans (al.mono (by omega))
 go_wp2
 clear B1 R1 K1 S hmk
 go_loopw [13] (fun i wr => ∃ k : Nat, k <= l.length /\ i = .int .i64 k /\ wr.rangeAt Q6y 0 (qz8 ptrC (qz3i Q6o 5 k)) /\ Blk wr Q6y 135 l.length /\ Only Q6y (w1.alloc Q5j) wr) (fun i _ => l.length - (intOf i).toNat)
 case atStart => exact ⟨0, Nat.zero_le _, rfl, by simp [qz8, qz3i, World.rangeAt], B2, Only.refl _ _⟩
 case round =>
  obtain ⟨k, hk, rfl, R, T, O⟩ := hrel
  by_cases hlt : k < l.length
  ·obtain ⟨tc, tf⟩ := T.there 0 l.length (by omega) k hlt
   obtain ⟨u, hu⟩ := Option.isSome_iff_exists.1 tc
   simp only [Nat.zero_add] at hu tf
   have hlen : (qz8 ptrC (qz3i Q6o 5 k)).length = k := by rw [qzz (sz := 1) (fun _ => rfl), qz3d]; omega
   have G := qz6t R (by rw [hlen, Nat.zero_add, hu]; rfl) (.pointer (some ⟨Q6o, k * 5, none⟩))
   rw [hlen, Nat.zero_add] at G
   have e1 : qz8 ptrC (qz3i Q6o 5 (k + 1)) = qz8 ptrC (qz3i Q6o 5 k) ++ [.pointer (some ⟨Q6o, k * 5, none⟩)] := by rw [qz6i, qz1p]; rfl
   rw [<- e1] at G
   clear e1 hlen R
   go_wp2
   go_roundw
   case rel => exact ⟨k + 1, by omega, by go_num, G, T.setCell _ _, O.setCell (Or.inl rfl) _⟩
   case measure => simp [intOf]; omega
  ·obtain rfl : k = l.length := by omega
   have BB : But (fun q => q = Q6y) (w1.alloc Q5j) wr := But.of_only O rfl
   have hne : ¬ (Q6o = Q6y) := by omega
   have KF : Below Q6o w wr := K2.trans (O.below (by omega) (by simp; omega))
   go_wp2
   go_ret
   exact ⟨_, rfl, ⟨Q6y, _, rfl, by omega, T, R, qz7y (fun _ => rfl) (Q6v _) (B1'.but BB hne) (BB.range R1' (by simp; omega) hne)⟩, KF⟩
def qzal (lo : Nat) (l : List Int) (v : Value) (w : World) : Prop := ∃ b, v = .slice (some ⟨b, 0, none⟩) l.length l.length /\ lo <= b /\ Blk w b 2 l.length /\ w.rangeAt b 0 (qz8 intC l)
theorem qzal.kept {lo : Nat} {l : List Int} {v : Value} {w w' : World} (h : qzal lo l v w) (hb : Below Q6o w w') : qzal lo l v w' := by
 obtain ⟨b, h1, h2, h3, h4⟩ := h
 exact ⟨b, h1, h2, h3.grown hb, qz0 h4 hb h3.lt⟩
structure qzed (lo : Nat) (A : Ar) (s g n r : Value) (w : World) : Prop where
 ss : qzal lo A.slots s w
 sg : qzal lo A.guides g w
 sn : qz8e lo A.nodes n w
 sr : qzei lo A.vers r w
 ne : ∀ b, qz3e s = some b -> qz3e g ≠ some b
theorem qzed.kept {lo : Nat} {A : Ar} {s g n r : Value} {w w' : World} (h : qzed lo A s g n r w) (hb : Below Q6o w w') : qzed lo A s g n r w' := ⟨h.ss.kept hb, h.sg.kept hb, h.sn.kept hb, h.sr.kept hb, h.ne⟩
structure qz2c (base : Nat) (w : World) (cb : Nat) (s g n r : Value) (ps qs : List Addr) (A : Ar) : Prop where
 row : w.rangeAt cb 0 Q2t
 blk : Blk w cb 131 5
 lo : base <= cb
 ss : w.ownsRow base 2 1 s Q74 (qz8 intC A.slots)
 sg : w.ownsRow base 2 1 g Q75 (qz8 intC A.guides)
 sn : w.ownsRow base 132 1 n Q6q (qz8 ptrC ps)
 sr : w.ownsRow base 135 1 r Q6r (qz8 ptrC qs)
 np : qz31 base 42 3 w ndC ps A.nodes
 vp : qz31 base 40 5 w vrC qs A.vers
 ne : ∀ b, s.ownBlock = some b -> g.ownBlock ≠ some b
theorem qz4z {w : World} {base : Nat} {e : TypeId} {size n : Nat} {v : Value} {xs : List Value} (h : w.ownsRow base e size v n xs) {b : Nat} (hv : v.ownBlock = some b) : ∃ m, base <= b /\ Blk w b e m := by
 rcases h.2 with ⟨rfl, -⟩ | ⟨g, cap, cur, rfl, hg, hh, -, -, hs, -⟩
 ·cases hv
 ·simp [Value.ownBlock] at hv
  subst hv
  exact ⟨cap * size, hg, cur, hh, hs⟩
theorem qz3h {S : Nat -> Prop} {w w' : World} {base : Nat} {e : TypeId} {size n : Nat} {v : Value} {xs : List Value} (h : w.ownsRow base e size v n xs) (O : But S w w') (hS : ∀ b m, base <= b -> Blk w b e m -> ¬ S b) : w'.ownsRow base e size v n xs := by
 refine ⟨h.1, ?_⟩
 rcases h.2 with h0 | ⟨g, cap, cur, rfl, hg, hh, h1, h2, hs, h3⟩
 ·exact Or.inl h0
 ·have hb : Blk w g e (cap * size) := ⟨cur, hh, hs⟩
  exact Or.inr ⟨g, cap, cur, rfl, hg, (O.block g hb.lt (hS g _ hg hb)).trans hh, h1, h2, hs, h3⟩
theorem qz2c.but {S : Nat -> Prop} {base : Nat} {w w' : World} {cb : Nat} {s g n r : Value} {ps qs : List Addr} {A : Ar} (h : qz2c base w cb s g n r ps qs A) (O : But S w w') (hS : ∀ b, base <= b -> b < Q6o -> ¬ S b) : qz2c base w' cb s g n r ps qs A :=
 ⟨O.range h.row h.blk.lt (hS cb h.lo h.blk.lt), h.blk.but O (hS cb h.lo h.blk.lt), h.lo, qz3h h.ss O (fun b m hb hm => hS b hb hm.lt), qz3h h.sg O (fun b m hb hm => hS b hb hm.lt), qz3h h.sn O (fun b m hb hm => hS b hb hm.lt), qz3h h.sr O (fun b m hb hm => hS b hb hm.lt), h.np.but O (fun b m hb hm => hS b hb hm.lt), h.vp.but O (fun b m hb hm => hS b hb hm.lt), h.ne⟩
theorem qz2c.grown {base : Nat} {w w' : World} {cb : Nat} {s g n r : Value} {ps qs : List Addr} {A : Ar} (h : qz2c base w cb s g n r ps qs A) (hb : Below Q6o w w') : qz2c base w' cb s g n r ps qs A :=
 h.but (But.of_below (S := fun q => Q6o <= q) hb) (fun b _ hl hg => by omega)
theorem qz87 {w : World} {base : Nat} {e : TypeId} {size n : Nat} {v : Value} {xs : List Value} (h : w.ownsRow base e size v n xs) : qzu Q6o w v n xs := by
 rcases h.2 with ⟨rfl, rfl⟩ | ⟨g, cap, cur, rfl, hg, hh, h1, h2, hs, h3⟩
 ·exact ⟨_, _, rfl, Or.inl rfl⟩
 ·refine ⟨_, _, rfl, ?_⟩
  rcases Nat.eq_zero_or_pos n with h0 | h0
  ·exact Or.inl h0
  ·obtain ⟨g', e', hg', hb, -, R⟩ := qzbe ⟨h.1, Or.inr ⟨g, cap, cur, rfl, hg, hh, h1, h2, hs, h3⟩⟩ h0
   exact Or.inr ⟨g', 0, e', hb.lt, R⟩
theorem qz2c.cells {base : Nat} {w : World} {cb : Nat} {s g n r : Value} {ps qs : List Addr} {A : Ar} (h : qz2c base w cb s g n r ps qs A) : qz9o Q6o w cb s g n r A :=
 ⟨h.row, h.blk.lt, qz87 h.ss, qz87 h.sg, ⟨ps, qz87 h.sn, h.np.ptrs⟩, ⟨qs, qz87 h.sr, h.vp.ptrs⟩⟩
theorem qz2c.node {base : Nat} {w : World} {cb : Nat} {s g n r : Value} {ps qs : List Addr} {A : Ar} (h : qz2c base w cb s g n r ps qs A) (i : Nat) (hi : i < Q6q) (b o : Nat) (hp : ps[i]? = some ⟨b, o, none⟩) (k : Nat) (hk : k < 3) (v : Value) (x : Nd) (hx : (ndC A.nodes[i]).set k v = ndC x) : qz2c base (w.setCell ⟨b, o + k, none⟩ v) cb s g n r ps qs { A with nodes := A.nodes.set i x } := by
 obtain ⟨b', o', m, h1, h2, h3, h4, h5⟩ := h.np.at' i hi
 rw [hp] at h1
 injection h1 with h1
 injection h1 with h1 h1'
 subst h1 h1'
 have O : But (fun q => q = b) w (w.setCell ⟨b, o + k, none⟩ v) := But.of_only ((Only.refl b w).setCell (Or.inl rfl) v) rfl
 refine ⟨O.range h.row h.blk.lt (h.blk.ne h3 (by decide)), h.blk.setCell _ _, h.lo, qz3h h.ss O (fun c m _ hc => hc.ne h3 (by decide)), qz3h h.sg O (fun c m _ hc => hc.ne h3 (by decide)), ?_, qz3h h.sr O (fun c m _ hc => hc.ne h3 (by decide)), h.np.set (sz := 3) (fun _ => rfl) i hi b o hp k hk v x hx, h.vp.but O (fun c m _ hc => hc.ne h3 (by decide)), h.ne⟩
 rw [List.length_set]
 exact qz3h h.sn O (fun c m _ hc => hc.ne h3 (by decide))
def qzfv (lo b0 : Nat) (A : Ar) (a0 a1 a2 a3 : Option Addr) (c0 c1 c2 c3 : Nat) : Nat -> Value -> World -> Prop
 | 0, x, _ => x = .pointer (some ⟨b0, 0, none⟩)
 | 1, x, _ => x = .int .i64 Q6w
 | 2, x, _ => x = .pointer (some ⟨b0, 1, none⟩)
 | 3, x, _ => x = .slice a0 Q74 c0
 | 4, x, w => qzal lo A.slots x w
 | 5, x, _ => x = .pointer (some ⟨b0, 2, none⟩)
 | 6, x, _ => x = .slice a1 Q75 c1
 | 7, x, w => qzal lo A.guides x w
 | 8, x, _ => x = .pointer (some ⟨b0, 3, none⟩)
 | 9, x, _ => x = .slice a2 Q6q c2
 | 10, x, w => qz8e lo A.nodes x w
 | 11, x, _ => x = .pointer (some ⟨b0, 4, none⟩)
 | 12, x, _ => x = .slice a3 Q6r c3
 | 13, x, w => qzei lo A.vers x w
 | 14, x, w => ∃ s g n r, x = .agg Q1t /\ qzed lo A s g n r w
 | 15, x, w => ∃ b s g n r, x = .pointer (some ⟨b, 0, none⟩) /\ lo <= b /\ Blk w b 131 5 /\ w.rangeAt b 0 Q2t /\ qzed lo A s g n r w
 | 16, x, w => ∃ b s g n r, x = .pointer (some ⟨b, 0, none⟩) /\ lo <= b /\ Blk w b 131 5 /\ w.rangeAt b 0 Q2t /\ qzed lo A s g n r w
 | _, _, _ => True
theorem qzcs {lo b0 : Nat} {A : Ar} {a0 a1 a2 a3 : Option Addr} {c0 c1 c2 c3 : Nat} (i : Nat) (x : Value) (w w' : World) (hq : qzfv lo b0 A a0 a1 a2 a3 c0 c1 c2 c3 i x w) (hb : Below Q6o w w') : qzfv lo b0 A a0 a1 a2 a3 c0 c1 c2 c3 i x w' := by
 match i, hq with
 | 0, h | 1, h | 2, h | 3, h | 5, h | 6, h | 8, h | 9, h | 11, h | 12, h => exact h
 | 4, h => exact qzal.kept h hb
 | 7, h => exact qzal.kept h hb
 | 10, h => exact qz8e.kept h hb
 | 13, h => exact qzei.kept h hb
 | 14, h => obtain ⟨s, g, n, r, e, F⟩ := h; exact ⟨s, g, n, r, e, F.kept hb⟩
 | 15, h => obtain ⟨b, s, g, n, r, e, h1, h2, h3, F⟩ := h; exact ⟨b, s, g, n, r, e, h1, h2.grown hb, qz0 h3 hb h2.lt, F.kept hb⟩
 | 16, h => obtain ⟨b, s, g, n, r, e, h1, h2, h3, F⟩ := h; exact ⟨b, s, g, n, r, e, h1, h2.grown hb, qz0 h3 hb h2.lt, F.kept hb⟩
 | n + 17, h => exact trivial
theorem qzcq (B : Nat) (A : Ar) (a0 a1 a2 a3 : Option Addr) (c0 c1 c2 c3 : Nat) (w : World) (hB : B <= Q6o) (hA : A.size <= 1048576) (I : qz1j B w Q0x Q0w Q0t Q11 A) :
  Calls Tryz.prog 33 #[.agg Q02] w fun e w' => ∃ cb s g n r ps qs, e = .returned (.pointer (some ⟨cb, 0, none⟩)) /\ qz2c Q6o w' cb s g n r ps qs A /\ Below Q6o w w' := by
 unfold Ar.size at hA
 have X0 := qz6 w Q0j 30
 have K0 := (Q6s Q6o w).alloc (Q6v _) (.cells Q02 30)
 have hz0 : Q6o < (Q35).heap.size := by simp
 go_enter Tryz.func33, Tryz.ntmps33
 go_wp2_with fail
 have I0 := I.below (K0.mono hB)
 generalize hw0 : w.alloc (.cells Q02 30) = w0 at *
 clear hw0 I
 refine qz7f (by kernel_rfl) (qzfv Q73 Q6o A a0 a1 a2 a3 c0 c1 c2 c3) (fun i => i == 4 || i == 7) (by kernel_rfl) (by kernel_rfl) (by kernel_rfl) (by rfl) (fun i v w w' _ hq hb => qzcs i v w w' hq hb) ?blk ?step ?final
 case blk =>
  intro i v w b hf hG hb
  have : i = 4 ∨ i = 7 := by simpa using hf
  rcases this with rfl | rfl
  ·obtain ⟨c, rfl, _, h3, _⟩ := (show qzal _ _ _ _ from hG)
   cases hb
   exact h3.lt
  ·obtain ⟨c, rfl, _, h3, _⟩ := (show qzal _ _ _ _ from hG)
   cases hb
   exact h3.lt
 case step =>
  intro i o ho a V hb hn hd hq K hK
  obtain ⟨x0, x1, x2, x3, x4⟩ := row5 (qz0 X0 hb (by omega))
  have IV := I0.below (hb.mono (Q77 hB K0.size))
  have hBV : B <= V.heap.size := Q77 (Q77 hB K0.size) hb.size
  match i, ho with
  | 0, ho =>
   obtain rfl := Q6p ho
   have e1 : a.eval (.tmp 1) = .pointer (some ⟨Q6o, 0, none⟩) := hn 1 rfl
   refine qz1 (v := .pointer (some ⟨Q6o, 0, none⟩)) (w' := V) ?_ (hK _ _ rfl (Q6s _ _) (fun h => by cases h))
   generalize a.eval = ev at *
   go_simp
  | 1, ho =>
   obtain rfl := Q6p ho
   have e1 : a.eval (.tmp 3) = .pointer (some ⟨Q6o, 0, none⟩) := hd ⟨0, .data⟩ (by simp) rfl 3 rfl
   refine qz1 (v := .int .i64 Q6w) (w' := V) ?_ (hK _ _ rfl (Q6s _ _) (fun h => by cases h))
   generalize a.eval = ev at *
   go_simp
  | 2, ho =>
   obtain rfl := Q6p ho
   have e1 : a.eval (.tmp 1) = .pointer (some ⟨Q6o, 0, none⟩) := hn 1 rfl
   refine qz1 (v := .pointer (some ⟨Q6o, 1, none⟩)) (w' := V) ?_ (hK _ _ rfl (Q6s _ _) (fun h => by cases h))
   generalize a.eval = ev at *
   go_simp
  | 3, ho =>
   obtain rfl := Q6p ho
   have e1 : a.eval (.tmp 5) = .pointer (some ⟨Q6o, 1, none⟩) := hd ⟨2, .data⟩ (by simp) rfl 5 rfl
   refine qz1 (v := .slice a0 Q74 c0) (w' := V) ?_ (hK _ _ rfl (Q6s _ _) (fun h => by cases h))
   generalize a.eval = ev at *
   go_simp
  | 4, ho =>
   obtain rfl := Q6p ho
   have e1 : a.eval (.tmp 6) = .slice a0 Q74 c0 := hd ⟨3, .data⟩ (by simp) rfl 6 rfl
   have ef : a.eval (.func 72) = .func (.func 72) #[] #[] := rfl
   refine qz19 (f := 72) (args := #[.slice a0 Q74 c0]) (R := (fun v w' => (qzal V.heap.size A.slots v w' /\ Below V.heap.size V w') /\ (∀ b, qz3e v = some b -> V.heap.size <= b))) ?_ ((qz4l B Q0x A.slots V hBV (by omega) IV.s).mono (fun e w' h => ⟨_, h.1, ⟨⟨⟨V.heap.size, rfl, Q6v _, h.2.1, h.2.2.1⟩, h.2.2.2⟩, fun b hb => by cases hb; exact Q6v _⟩⟩)) (fun v w' h => hK v w' (by obtain ⟨b, h1, h2, h3⟩ := h.1.1; exact ⟨b, h1, Q77 hb.size h2, h3⟩) h.1.2 (fun _ => h.2))
   clear IV
   generalize a.eval = ev at *
   go_simp
  | 5, ho =>
   obtain rfl := Q6p ho
   have e1 : a.eval (.tmp 1) = .pointer (some ⟨Q6o, 0, none⟩) := hn 1 rfl
   refine qz1 (v := .pointer (some ⟨Q6o, 2, none⟩)) (w' := V) ?_ (hK _ _ rfl (Q6s _ _) (fun h => by cases h))
   generalize a.eval = ev at *
   go_simp
  | 6, ho =>
   obtain rfl := Q6p ho
   have e1 : a.eval (.tmp 8) = .pointer (some ⟨Q6o, 2, none⟩) := hd ⟨5, .data⟩ (by simp) rfl 8 rfl
   refine qz1 (v := .slice a1 Q75 c1) (w' := V) ?_ (hK _ _ rfl (Q6s _ _) (fun h => by cases h))
   generalize a.eval = ev at *
   go_simp
  | 7, ho =>
   obtain rfl := Q6p ho
   have e1 : a.eval (.tmp 9) = .slice a1 Q75 c1 := hd ⟨6, .data⟩ (by simp) rfl 9 rfl
   have ef : a.eval (.func 72) = .func (.func 72) #[] #[] := rfl
   refine qz19 (f := 72) (args := #[.slice a1 Q75 c1]) (R := (fun v w' => (qzal V.heap.size A.guides v w' /\ Below V.heap.size V w') /\ (∀ b, qz3e v = some b -> V.heap.size <= b))) ?_ ((qz4l B Q0w A.guides V hBV (by omega) IV.g).mono (fun e w' h => ⟨_, h.1, ⟨⟨⟨V.heap.size, rfl, Q6v _, h.2.1, h.2.2.1⟩, h.2.2.2⟩, fun b hb => by cases hb; exact Q6v _⟩⟩)) (fun v w' h => hK v w' (by obtain ⟨b, h1, h2, h3⟩ := h.1.1; exact ⟨b, h1, Q77 hb.size h2, h3⟩) h.1.2 (fun _ => h.2))
   clear IV
   generalize a.eval = ev at *
   go_simp
  | 8, ho =>
   obtain rfl := Q6p ho
   have e1 : a.eval (.tmp 1) = .pointer (some ⟨Q6o, 0, none⟩) := hn 1 rfl
   refine qz1 (v := .pointer (some ⟨Q6o, 3, none⟩)) (w' := V) ?_ (hK _ _ rfl (Q6s _ _) (fun h => by cases h))
   generalize a.eval = ev at *
   go_simp
  | 9, ho =>
   obtain rfl := Q6p ho
   have e1 : a.eval (.tmp 11) = .pointer (some ⟨Q6o, 3, none⟩) := hd ⟨8, .data⟩ (by simp) rfl 11 rfl
   refine qz1 (v := .slice a2 Q6q c2) (w' := V) ?_ (hK _ _ rfl (Q6s _ _) (fun h => by cases h))
   generalize a.eval = ev at *
   go_simp
  | 10, ho =>
   obtain rfl := Q6p ho
   have e1 : a.eval (.tmp 12) = .slice a2 Q6q c2 := hd ⟨9, .data⟩ (by simp) rfl 12 rfl
   have ef : a.eval (.func 73) = .func (.func 73) #[] #[] := rfl
   refine qz19 (f := 73) (args := #[.slice a2 Q6q c2]) (R := (fun v w' => qz8e V.heap.size A.nodes v w' /\ Below V.heap.size V w')) ?_ ((qz6j B Q0t A.nodes V hBV (by omega) IV.n).mono (fun e w' h => by obtain ⟨v', h1, h2, h3⟩ := h; exact ⟨v', h1, h2, h3⟩)) (fun v w' h => hK v w' (by obtain ⟨b, ps, h1, h2, h3, h4, h5⟩ := h.1; exact ⟨b, ps, h1, Q77 hb.size h2, h3, h4, h5.lo hb.size⟩) h.2 (fun h => by cases h))
   clear IV
   generalize a.eval = ev at *
   go_simp
  | 11, ho =>
   obtain rfl := Q6p ho
   have e1 : a.eval (.tmp 1) = .pointer (some ⟨Q6o, 0, none⟩) := hn 1 rfl
   refine qz1 (v := .pointer (some ⟨Q6o, 4, none⟩)) (w' := V) ?_ (hK _ _ rfl (Q6s _ _) (fun h => by cases h))
   generalize a.eval = ev at *
   go_simp
  | 12, ho =>
   obtain rfl := Q6p ho
   have e1 : a.eval (.tmp 14) = .pointer (some ⟨Q6o, 4, none⟩) := hd ⟨11, .data⟩ (by simp) rfl 14 rfl
   refine qz1 (v := .slice a3 Q6r c3) (w' := V) ?_ (hK _ _ rfl (Q6s _ _) (fun h => by cases h))
   generalize a.eval = ev at *
   go_simp
  | 13, ho =>
   obtain rfl := Q6p ho
   have e1 : a.eval (.tmp 15) = .slice a3 Q6r c3 := hd ⟨12, .data⟩ (by simp) rfl 15 rfl
   have ef : a.eval (.func 74) = .func (.func 74) #[] #[] := rfl
   refine qz19 (f := 74) (args := #[.slice a3 Q6r c3]) (R := (fun v w' => qzei V.heap.size A.vers v w' /\ Below V.heap.size V w')) ?_ ((qz7j B Q11 A.vers V hBV (by omega) IV.r).mono (fun e w' h => by obtain ⟨v', h1, h2, h3⟩ := h; exact ⟨v', h1, h2, h3⟩)) (fun v w' h => hK v w' (by obtain ⟨b, ps, h1, h2, h3, h4, h5⟩ := h.1; exact ⟨b, ps, h1, Q77 hb.size h2, h3, h4, h5.lo hb.size⟩) h.2 (fun h => by cases h))
   clear IV
   generalize a.eval = ev at *
   go_simp
  | 14, ho =>
   obtain rfl := Q6p ho
   have e0 : a.eval (.tmp 4) = .int .i64 Q6w := hd ⟨1, .data⟩ (by simp) rfl 4 rfl
   have g1 : qzal Q73 A.slots (a.eval (.tmp 7)) V := hd ⟨4, .data⟩ (by simp) rfl 7 rfl
   have g2 : qzal Q73 A.guides (a.eval (.tmp 10)) V := hd ⟨7, .data⟩ (by simp) rfl 10 rfl
   have g3 : qz8e Q73 A.nodes (a.eval (.tmp 13)) V := hd ⟨10, .data⟩ (by simp) rfl 13 rfl
   have g4 : qzei Q73 A.vers (a.eval (.tmp 16)) V := hd ⟨13, .data⟩ (by simp) rfl 16 rfl
   have g5 : ∀ b, qz3e (a.eval (.tmp 7)) = some b -> qz3e (a.eval (.tmp 10)) ≠ some b := fun b hbb => hq ⟨4, .data⟩ (by simp) rfl ⟨7, .data⟩ (by simp) rfl (by decide) rfl rfl 7 10 b rfl rfl hbb
   obtain ⟨b1, e1, -⟩ := id g1
   obtain ⟨b2, e2, -⟩ := id g2
   obtain ⟨b3, s3, e3, -⟩ := id g3
   obtain ⟨b4, s4, e4, -⟩ := id g4
   refine qz1 (v := .agg #[.int .i64 Q6w, a.eval (.tmp 7), a.eval (.tmp 10), a.eval (.tmp 13), a.eval (.tmp 16)]) (w' := V) ?_ (hK _ _ ⟨_, _, _, _, rfl, g1, g2, g3, g4, g5⟩ (Q6s _ _) (fun h => by cases h))
   clear g1 g2 g3 g4 g5
   generalize a.eval = ev at *
   go_simp
  | 15, ho =>
   obtain rfl := Q6p ho
   obtain ⟨s, g, n, r, e1, F⟩ := (show ∃ s g n r, a.eval (.tmp 17) = .agg Q1t /\ qzed Q73 A s g n r V from hd ⟨14, .data⟩ (by simp) rfl 17 rfl)
   have al := (Q6s V.heap.size V).alloc (Q6v _) (.cells Q1t 131)
   refine qz1 (v := .pointer (some ⟨V.heap.size, 0, none⟩)) (w' := V.alloc (.cells Q1t 131)) ?_ (hK _ _ ⟨V.heap.size, s, g, n, r, rfl, hb.size, Blk.new _ _ _, qz6 V Q2t _, F.kept al⟩ al (fun h => by cases h))
   clear F
   generalize a.eval = ev at *
   go_simp
  | 16, ho =>
   obtain rfl := Q6p ho
   obtain ⟨b, s, g, n, r, e1, h1, h2, h3, F⟩ := (show ∃ b s g n r, a.eval (.tmp 18) = .pointer (some ⟨b, 0, none⟩) /\ Q73 <= b /\ Blk V b 131 5 /\ V.rangeAt b 0 Q2t /\ qzed Q73 A s g n r V from hd ⟨15, .data⟩ (by simp) rfl 18 rfl)
   refine qz1 (v := .pointer (some ⟨b, 0, none⟩)) (w' := V) ?_ (hK _ _ ⟨b, s, g, n, r, rfl, h1, h2, h3, F⟩ (Q6s _ _) (fun h => by cases h))
   clear F h1 h2 h3
   generalize a.eval = ev at *
   go_simp
  | n + 17, ho => exact absurd ho (by simp)
 case final =>
  intro vs V hb hG hD
  obtain ⟨cb, s, g, n, r, e16, hlo, hbk, hrow, F⟩ := (show ∃ b s g n r, vs 16 = .pointer (some ⟨b, 0, none⟩) /\ Q73 <= b /\ Blk V b 131 5 /\ V.rangeAt b 0 Q2t /\ qzed Q73 A s g n r V from hG 16 (by decide))
  obtain ⟨sb, rfl, ls, bs, rs⟩ := F.ss
  obtain ⟨gb, rfl, lg, bg, rg⟩ := F.sg
  obtain ⟨nb, ps, rfl, ln, bn, rn, pn⟩ := F.sn
  obtain ⟨rb, qs, rfl, lr, br, rr, pr⟩ := F.sr
  have hne := F.ne
  have z0 := K0.size
  have KK : Below Q6o w V := K0.trans (hb.mono K0.size)
  have OC : qz2c Q6o V cb (.slice (some ⟨sb, 0, none⟩) Q74 Q74) (.slice (some ⟨gb, 0, none⟩) Q75 Q75) (.slice (some ⟨nb, 0, none⟩) Q6q Q6q) (.slice (some ⟨rb, 0, none⟩) Q6r Q6r) ps qs A :=
   ⟨hrow, hbk, by omega, bs.own rs (by rw [qzz (sz := 1) (fun _ => rfl)]; omega) (by omega) (by unfold maxLen; omega), bg.own rg (by rw [qzz (sz := 1) (fun _ => rfl)]; omega) (by omega) (by unfold maxLen; omega), bn.own rn (by rw [qzz (sz := 1) (fun _ => rfl), pn.len]; omega) (by omega) (by unfold maxLen; omega), br.own rr (by rw [qzz (sz := 1) (fun _ => rfl), pr.len]; omega) (by omega) (by unfold maxLen; omega), pn.lo (by omega), pr.lo (by omega), fun b h1 h2 => hne b h1 h2⟩
  clear hG hD hb F hlo hbk hrow bs bg bn br rs rg rn rr pn pr hne
  generalize hl : laid _ vs _ _ _ = A'
  have hA' : A' = { tmps := #[.agg Q02, .pointer (some ⟨Q6o, 0, none⟩), vs 16, vs 0, vs 1, vs 2, vs 3, vs 4, vs 5, vs 6, vs 7, vs 8, vs 9, vs 10, vs 11, vs 12, vs 13, vs 14, vs 15], defers := [] } := by
   rw [<- hl]
   kernel_rfl
  subst hA'
  clear hl
  rw [e16]
  go_wp2
  go_ret
  exact ⟨_, _, _, _, _, _, _, rfl, OC, KK⟩
end
section
attribute [local go_sem ↓] Go.wp_at_zero Go.wp_at_succ
theorem qz41 {B : Nat} {a w : World} (h : Below B a w) (n : Nat) : Below B a (w.drewN n) := ⟨h.os, h.tape, h.output, h.size, h.block⟩
end
end Go.Proofs.YthjkdnlmopafkaaGreatDoor
