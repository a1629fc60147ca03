/-
  What the law's proof goes by, part 42.
-/
import Derived.Test.YthjkdnlmopafkaaGreatFnSealed00
import Derived.Test.YthjkdnlmopafkaaGreatFnSealed01
import Derived.Test.YthjkdnlmopafkaaGreatFnSealed02
import Derived.Test.YthjkdnlmopafkaaGreatFnSealed40
namespace Go.Proofs.YthjkdnlmopafkaaGreat
open Go.ChangeShapes Go.WideShapes Go.ChangeAt Go.RowKit
set_option maxRecDepth 100000
set_option maxHeartbeats 16000000
set_option linter.unusedVariables false
set_option linter.unusedSimpArgs false
set_option linter.unnecessarySimpa false
set_option linter.unusedSectionVars false
section
attribute [local go_sem ↓] Go.wp_at_zero Go.wp_at_succ
theorem qz6l {α : Type} {f : α -> List Value} (hf : ∀ x, ∀ v ∈ f x, v.oneCell' = true) (l : List α) : ∀ v ∈ qzf f l, v.oneCell' = true := by
 intro v hv
 obtain ⟨x, _, hx⟩ := List.mem_flatMap.1 hv
 exact hf x v hx
theorem qzgv (x : Int) : ∀ v ∈ intC x, v.oneCell' = true := by intro v hv; simp [intC] at hv; subst hv; rfl
theorem qzha (x : Nd) : ∀ v ∈ ndC x, v.oneCell' = true := by intro v hv; simp [ndC] at hv; rcases hv with rfl | rfl | rfl <;> rfl
theorem qzh8 (x : Vr) : ∀ v ∈ vrC x, v.oneCell' = true := by intro v hv; simp [vrC] at hv; rcases hv with rfl | rfl | rfl | rfl | rfl <;> rfl
theorem qzhc : (Tryz.prog.info? 2).map (·.size) = some 1 := by kernel_rfl
theorem qz54 (B : Nat) (v : Value) (l : List Int) (w : World) (hB : B <= Q7b) (hl : l.length <= 1048576) (S : qzq B w v l.length (qzf intC l)) :
  Calls Tryz.prog 89 #[v] w fun e w' => e = .returned Q2a /\ Blk w' Q7b 2 l.length /\ w'.rangeAt Q7b 0 (qzf intC l) /\ Below Q7b w w' := by
 obtain ⟨a, cap, rfl, hS⟩ := S
 have hmk : ∀ w : World, (Instr.makeSlice 29 (.int .i64 (l.length : Int)) (.int .i64 (l.length : Int))).run Tryz.prog w = .ok Q2a (w.alloc Q70) := fun w => run_make_row' (P := Tryz.prog) 29 2 (.int .i64 0) 8 Tryz.underlying29 qzhs rfl .i64 .i64 l.length (by omega) (by omega) w
 have al := (Q7g Q7b w).alloc (Q7l _) Q70
 have B1 := Blk.new w (madeCells #[Value.int IntKind.i64 0] l.length) 2
 rw [size_madeCells] at B1
 have hlen : (qzf intC l).length = l.length * 1 := qz12 (sz := 1) (fun _ => rfl) l
 have T1 := B1.there 0 (l.length * 1) (by omega)
 have hsrc : 0 < l.length -> ∃ ad, a = some ad /\ ∀ j v, (qzf intC l)[j]? = some v -> (w.alloc Q70).cell? (ad.add j) = some v := by
  intro hp
  rcases hS with h0 | ⟨bb, off, rfl, hbb, R0⟩
  ·omega
  ·refine ⟨_, rfl, fun j v hj => ?_⟩
   have := (qz0 R0 (al.mono hB) hbb) j v hj
   have ea : (⟨bb, off, none⟩ : Addr).add j = ⟨bb, off + j, none⟩ := by unfold Addr.add; split <;> simp_all
   rw [ea]
   exact this
 have hone := qz6l qzgv l
 go_enter Tryz.func89, Tryz.ntmps89
 obtain ⟨cs, hcs⟩ : ∃ cs, cs = qzf intC l := ⟨_, rfl⟩
 rw [<- hcs] at hlen hsrc hone ⊢
 clear hcs hS
 go_wp2_with (refine qz45 rfl (.tmp 7) (.tmp 8) 29 29 rfl 2 Tryz.underlying29 1 qzhc a Q7b l.length l.length cap ?kd ?ks cs hlen ?kc ?kt hone ?_)
 try (case kd => rfl)
 try (case ks => rfl)
 try (case kc => exact hsrc)
 try (case kt => exact T1)
 go_wp2
 go_ret
 refine ⟨rfl, B1.setCells _ _ _, Q7c _ _ _ _ (by rw [hlen]; exact T1), Below.setCells (Q7l _) _ _ _ al⟩
theorem qz9d (B : Nat) (v : Value) (l : List Nd) (w : World) (hB : B <= Q7b) (hl : l.length <= 1048576) (S : qzq B w v l.length (qzf ndC l)) :
  Calls Tryz.prog 129 #[v] w fun e w' => e = .returned Q2a /\ Blk w' Q7b 99 (l.length * 3) /\ w'.rangeAt Q7b 0 (qzf ndC l) /\ Below Q7b w w' := by
 obtain ⟨a, cap, rfl, hS⟩ := S
 obtain ⟨i0, hi, hz0, hz1, hz2⟩ := info_parts qz8w
 have hmk : ∀ w : World, (Instr.makeSlice 30 (.int .i64 (l.length : Int)) (.int .i64 (l.length : Int))).run Tryz.prog w = .ok Q2a (w.alloc (.cells (madeCells (.agg Q4k : Value).cells (l.length * 3)) 99)) := by
  intro w
  have h := run_make (P := Tryz.prog) w 30 99 i0 _ Tryz.underlying30 hi hz0 .i64 .i64 l.length l.length (by omega) (by omega) (by rw [hz2]; omega) (by omega)
  simpa [hz1] using h
 clear hi hz0 hz1 hz2
 have al := (Q7g Q7b w).alloc (Q7l _) (.cells (madeCells (.agg Q4k : Value).cells (l.length * 3)) 99)
 have B1 := Blk.new w (madeCells (.agg Q4k : Value).cells (l.length * 3)) 99
 rw [size_madeCells] at B1
 have hlen : (qzf ndC l).length = l.length * 3 := qz12 (sz := 3) (fun _ => rfl) l
 have T1 := B1.there 0 (l.length * 3) (by omega)
 have hsrc : 0 < l.length -> ∃ ad, a = some ad /\ ∀ j v, (qzf ndC l)[j]? = some v -> (w.alloc (.cells (madeCells (.agg Q4k : Value).cells (l.length * 3)) 99)).cell? (ad.add j) = some v := by
  intro hp
  rcases hS with h0 | ⟨bb, off, rfl, hbb, R0⟩
  ·omega
  ·refine ⟨_, rfl, fun j v hj => ?_⟩
   have := (qz0 R0 (al.mono hB) hbb) j v hj
   have ea : (⟨bb, off, none⟩ : Addr).add j = ⟨bb, off + j, none⟩ := by unfold Addr.add; split <;> simp_all
   rw [ea]
   exact this
 have hone := qz6l qzha l
 go_enter Tryz.func129, Tryz.ntmps129
 obtain ⟨cs, hcs⟩ : ∃ cs, cs = qzf ndC l := ⟨_, rfl⟩
 rw [<- hcs] at hlen hsrc hone ⊢
 clear hcs hS
 go_wp2_with (refine qz45 rfl (.tmp 7) (.tmp 8) 30 30 rfl 99 Tryz.underlying30 3 (qzbo ⟨0, 0, 0⟩) a Q7b l.length l.length cap ?kd ?ks cs hlen ?kc ?kt hone ?_)
 try (case kd => rfl)
 try (case ks => rfl)
 try (case kc => exact hsrc)
 try (case kt => exact T1)
 go_wp2
 go_ret
 refine ⟨rfl, B1.setCells _ _ _, Q7c _ _ _ _ (by rw [hlen]; exact T1), Below.setCells (Q7l _) _ _ _ al⟩
theorem qz9k (B : Nat) (v : Value) (l : List Vr) (w : World) (hB : B <= Q7b) (hl : l.length <= 1048576) (S : qzq B w v l.length (qzf vrC l)) :
  Calls Tryz.prog 130 #[v] w fun e w' => e = .returned Q2a /\ Blk w' Q7b 65 (l.length * 5) /\ w'.rangeAt Q7b 0 (qzf vrC l) /\ Below Q7b w w' := by
 obtain ⟨a, cap, rfl, hS⟩ := S
 obtain ⟨i0, hi, hz0, hz1, hz2⟩ := info_parts qza2
 have hmk : ∀ w : World, (Instr.makeSlice 31 (.int .i64 (l.length : Int)) (.int .i64 (l.length : Int))).run Tryz.prog w = .ok Q2a (w.alloc (.cells (madeCells (.agg Q24 : Value).cells (l.length * 5)) 65)) := by
  intro w
  have h := run_make (P := Tryz.prog) w 31 65 i0 _ Tryz.underlying31 hi hz0 .i64 .i64 l.length l.length (by omega) (by omega) (by rw [hz2]; omega) (by omega)
  simpa [hz1] using h
 clear hi hz0 hz1 hz2
 have al := (Q7g Q7b w).alloc (Q7l _) (.cells (madeCells (.agg Q24 : Value).cells (l.length * 5)) 65)
 have B1 := Blk.new w (madeCells (.agg Q24 : Value).cells (l.length * 5)) 65
 rw [size_madeCells] at B1
 have hlen : (qzf vrC l).length = l.length * 5 := qz12 (sz := 5) (fun _ => rfl) l
 have T1 := B1.there 0 (l.length * 5) (by omega)
 have hsrc : 0 < l.length -> ∃ ad, a = some ad /\ ∀ j v, (qzf vrC l)[j]? = some v -> (w.alloc (.cells (madeCells (.agg Q24 : Value).cells (l.length * 5)) 65)).cell? (ad.add j) = some v := by
  intro hp
  rcases hS with h0 | ⟨bb, off, rfl, hbb, R0⟩
  ·omega
  ·refine ⟨_, rfl, fun j v hj => ?_⟩
   have := (qz0 R0 (al.mono hB) hbb) j v hj
   have ea : (⟨bb, off, none⟩ : Addr).add j = ⟨bb, off + j, none⟩ := by unfold Addr.add; split <;> simp_all
   rw [ea]
   exact this
 have hone := qz6l qzh8 l
 go_enter Tryz.func130, Tryz.ntmps130
 obtain ⟨cs, hcs⟩ : ∃ cs, cs = qzf vrC l := ⟨_, rfl⟩
 rw [<- hcs] at hlen hsrc hone ⊢
 clear hcs hS
 go_wp2_with (refine qz45 rfl (.tmp 7) (.tmp 8) 31 31 rfl 65 Tryz.underlying31 5 (qz5u ⟨0, false, 0, 0, 0⟩) a Q7b l.length l.length cap ?kd ?ks cs hlen ?kc ?kt hone ?_)
 try (case kd => rfl)
 try (case ks => rfl)
 try (case kc => exact hsrc)
 try (case kt => exact T1)
 go_wp2
 go_ret
 refine ⟨rfl, B1.setCells _ _ _, Q7c _ _ _ _ (by rw [hlen]; exact T1), Below.setCells (Q7l _) _ _ _ al⟩
theorem qzen : (Tryz.prog.info? 177).map (fun i => (i.zero, i.size, i.bytes)) = some (some (.pointer none), 1, 8) := by kernel_rfl
def qz98 (lo : Nat) (l : List Nd) (v : Value) (w : World) : Prop := ∃ b ps, v = .slice (some ⟨b, 0, none⟩) l.length l.length /\ lo <= b /\ Blk w b 177 l.length /\ w.rangeAt b 0 (qzf ptrC ps) /\ qz3u lo 99 3 w ndC ps l
theorem qz98.kept {lo : Nat} {l : List Nd} {v : Value} {w w' : World} (h : qz98 lo l v w) (hb : Below Q7b w w') : qz98 lo l v w' := by
 obtain ⟨b, ps, h1, h2, h3, h4, h5⟩ := h
 exact ⟨b, ps, h1, h2, h3.grown hb, qz0 h4 hb h3.lt, h5.grown hb⟩
theorem qz7i (B : Nat) (v : Value) (l : List Nd) (w : World) (hB : B <= Q7b) (hl : l.length <= 1048576) (S : qzq B w v l.length (qzf ndC l)) :
  Calls Tryz.prog 90 #[v] w fun e w' => ∃ v', e = .returned v' /\ qz98 Q7b l v' w' /\ Below Q7b w w' := by
 obtain ⟨a, cap, rfl, hS⟩ := id S
 have hmk : ∀ w : World, (Instr.makeSlice 142 (.int .i64 (l.length : Int)) (.int .i64 (l.length : Int))).run Tryz.prog w = .ok Q2a (w.alloc Q66) := fun w => run_make_row' (P := Tryz.prog) 142 177 (.pointer none) 8 Tryz.underlying142 qzen rfl .i64 .i64 l.length (by omega) (by omega) w
 clear hS
 go_enter Tryz.func90, Tryz.ntmps90
 go_wp2_with fail
 refine (qz9d B _ l w hB hl S).mono ?_
 rintro e w1 ⟨rfl, B1, R1, K1⟩
 have hz1 := B1.lt
 have al := (Q7g Q7k w1).alloc (Q7l _) Q66
 have B2 := Blk.new w1 (madeCells #[.pointer none] l.length) 177
 rw [size_madeCells] at B2
 have B1' := B1.grown al
 have R1' := qz0 R1 al hz1
 have K2 := K1.trans (al.mono (by omega))
 go_wp2
 clear B1 R1 K1 S hmk
 go_loopw [13] (fun i wr => ∃ k : Nat, k <= l.length /\ i = .int .i64 k /\ wr.rangeAt Q7k 0 (qzf ptrC (qz3x Q7b 3 k)) /\ Blk wr Q7k 177 l.length /\ Only Q7k (w1.alloc Q66) wr) (fun i _ => l.length - (intOf i).toNat)
 case atStart => exact ⟨0, Nat.zero_le _, rfl, by simp [qzf, qz3x, World.rangeAt], B2, Only.refl _ _⟩
 case round =>
  obtain ⟨k, hk, rfl, R, T, O⟩ := hrel
  by_cases hlt : k < l.length
  ·obtain ⟨tc, tf⟩ := T.there 0 l.length (by omega) k hlt
   obtain ⟨u, hu⟩ := Option.isSome_iff_exists.1 tc
   simp only [Nat.zero_add] at hu tf
   have hlen : (qzf ptrC (qz3x Q7b 3 k)).length = k := by rw [qz12 (sz := 1) (fun _ => rfl), qz3t]; omega
   have G := qz76 R (by rw [hlen, Nat.zero_add, hu]; rfl) (.pointer (some ⟨Q7b, k * 3, none⟩))
   rw [hlen, Nat.zero_add] at G
   have e1 : qzf ptrC (qz3x Q7b 3 (k + 1)) = qzf ptrC (qz3x Q7b 3 k) ++ [.pointer (some ⟨Q7b, k * 3, none⟩)] := by rw [qz7f, qz29]; rfl
   rw [<- e1] at G
   clear e1 hlen R
   go_wp2
   go_roundw
   case rel => exact ⟨k + 1, by omega, by go_num, G, T.setCell _ _, O.setCell (Or.inl rfl) _⟩
   case measure => simp [intOf]; omega
  ·obtain rfl : k = l.length := by omega
   have BB : But (fun q => q = Q7k) (w1.alloc Q66) wr := But.of_only O rfl
   have hne : ¬ (Q7b = Q7k) := by omega
   have KF : Below Q7b w wr := K2.trans (O.below (by omega) (by simp; omega))
   go_wp2
   go_ret
   exact ⟨_, rfl, ⟨Q7k, _, rfl, by omega, T, R, qz8e (fun _ => rfl) (Q7l _) (B1'.but BB hne) (BB.range R1' (by simp; omega) hne)⟩, KF⟩
theorem qzg8 : (Tryz.prog.info? 149).map (fun i => (i.zero, i.size, i.bytes)) = some (some (.pointer none), 1, 8) := by kernel_rfl
def qzef (lo : Nat) (l : List Vr) (v : Value) (w : World) : Prop := ∃ b ps, v = .slice (some ⟨b, 0, none⟩) l.length l.length /\ lo <= b /\ Blk w b 149 l.length /\ w.rangeAt b 0 (qzf ptrC ps) /\ qz3u lo 65 5 w vrC ps l
theorem qzef.kept {lo : Nat} {l : List Vr} {v : Value} {w w' : World} (h : qzef lo l v w) (hb : Below Q7b w w') : qzef lo l v w' := by
 obtain ⟨b, ps, h1, h2, h3, h4, h5⟩ := h
 exact ⟨b, ps, h1, h2, h3.grown hb, qz0 h4 hb h3.lt, h5.grown hb⟩
theorem qz82 (B : Nat) (v : Value) (l : List Vr) (w : World) (hB : B <= Q7b) (hl : l.length <= 1048576) (S : qzq B w v l.length (qzf vrC l)) :
  Calls Tryz.prog 91 #[v] w fun e w' => ∃ v', e = .returned v' /\ qzef Q7b l v' w' /\ Below Q7b w w' := by
 obtain ⟨a, cap, rfl, hS⟩ := id S
 have hmk : ∀ w : World, (Instr.makeSlice 144 (.int .i64 (l.length : Int)) (.int .i64 (l.length : Int))).run Tryz.prog w = .ok Q2a (w.alloc Q67) := fun w => run_make_row' (P := Tryz.prog) 144 149 (.pointer none) 8 Tryz.underlying144 qzg8 rfl .i64 .i64 l.length (by omega) (by omega) w
 clear hS
 go_enter Tryz.func91, Tryz.ntmps91
 go_wp2_with fail
 refine (qz9k B _ l w hB hl S).mono ?_
 rintro e w1 ⟨rfl, B1, R1, K1⟩
 have hz1 := B1.lt
 have al := (Q7g Q7k w1).alloc (Q7l _) Q67
 have B2 := Blk.new w1 (madeCells #[.pointer none] l.length) 149
 rw [size_madeCells] at B2
 have B1' := B1.grown al
 have R1' := qz0 R1 al hz1
 have K2 := K1.trans (al.mono (by omega))
 go_wp2
 clear B1 R1 K1 S hmk
 go_loopw [13] (fun i wr => ∃ k : Nat, k <= l.length /\ i = .int .i64 k /\ wr.rangeAt Q7k 0 (qzf ptrC (qz3x Q7b 5 k)) /\ Blk wr Q7k 149 l.length /\ Only Q7k (w1.alloc Q67) wr) (fun i _ => l.length - (intOf i).toNat)
 case atStart => exact ⟨0, Nat.zero_le _, rfl, by simp [qzf, qz3x, World.rangeAt], B2, Only.refl _ _⟩
 case round =>
  obtain ⟨k, hk, rfl, R, T, O⟩ := hrel
  by_cases hlt : k < l.length
  ·obtain ⟨tc, tf⟩ := T.there 0 l.length (by omega) k hlt
   obtain ⟨u, hu⟩ := Option.isSome_iff_exists.1 tc
   simp only [Nat.zero_add] at hu tf
   have hlen : (qzf ptrC (qz3x Q7b 5 k)).length = k := by rw [qz12 (sz := 1) (fun _ => rfl), qz3t]; omega
   have G := qz76 R (by rw [hlen, Nat.zero_add, hu]; rfl) (.pointer (some ⟨Q7b, k * 5, none⟩))
   rw [hlen, Nat.zero_add] at G
   have e1 : qzf ptrC (qz3x Q7b 5 (k + 1)) = qzf ptrC (qz3x Q7b 5 k) ++ [.pointer (some ⟨Q7b, k * 5, none⟩)] := by rw [qz7f, qz29]; rfl
   rw [<- e1] at G
   clear e1 hlen R
   go_wp2
   go_roundw
   case rel => exact ⟨k + 1, by omega, by go_num, G, T.setCell _ _, O.setCell (Or.inl rfl) _⟩
   case measure => simp [intOf]; omega
  ·obtain rfl : k = l.length := by omega
   have BB : But (fun q => q = Q7k) (w1.alloc Q67) wr := But.of_only O rfl
   have hne : ¬ (Q7b = Q7k) := by omega
   have KF : Below Q7b w wr := K2.trans (O.below (by omega) (by simp; omega))
   go_wp2
   go_ret
   exact ⟨_, rfl, ⟨Q7k, _, rfl, by omega, T, R, qz8e (fun _ => rfl) (Q7l _) (B1'.but BB hne) (BB.range R1' (by simp; omega) hne)⟩, KF⟩
def qzay (lo : Nat) (l : List Int) (v : Value) (w : World) : Prop := ∃ b, v = .slice (some ⟨b, 0, none⟩) l.length l.length /\ lo <= b /\ Blk w b 2 l.length /\ w.rangeAt b 0 (qzf intC l)
theorem qzay.kept {lo : Nat} {l : List Int} {v : Value} {w w' : World} (h : qzay lo l v w) (hb : Below Q7b w w') : qzay lo l v w' := by
 obtain ⟨b, h1, h2, h3, h4⟩ := h
 exact ⟨b, h1, h2, h3.grown hb, qz0 h4 hb h3.lt⟩
structure qzev (lo : Nat) (A : Ar) (s g n r : Value) (w : World) : Prop where
 ss : qzay lo A.slots s w
 sg : qzay lo A.guides g w
 sn : qz98 lo A.nodes n w
 sr : qzef lo A.vers r w
 ne : ∀ b, qz32 s = some b -> qz32 g ≠ some b
theorem qzev.kept {lo : Nat} {A : Ar} {s g n r : Value} {w w' : World} (h : qzev lo A s g n r w) (hb : Below Q7b w w') : qzev lo A s g n r w' := ⟨h.ss.kept hb, h.sg.kept hb, h.sn.kept hb, h.sr.kept hb, h.ne⟩
structure qz2k (base : Nat) (w : World) (cb : Nat) (s g n r : Value) (ps qs : List Addr) (A : Ar) : Prop where
 row : w.rangeAt cb 0 Q58
 blk : Blk w cb 147 5
 lo : base <= cb
 ss : w.ownsRow base 2 1 s Q7w (qzf intC A.slots)
 sg : w.ownsRow base 2 1 g Q7v (qzf intC A.guides)
 sn : w.ownsRow base 177 1 n Q7f (qzf ptrC ps)
 sr : w.ownsRow base 149 1 r Q7h (qzf ptrC qs)
 np : qz3u base 99 3 w ndC ps A.nodes
 vp : qz3u base 65 5 w vrC qs A.vers
 ne : ∀ b, s.ownBlock = some b -> g.ownBlock ≠ some b
theorem qz55 {S : Nat -> Prop} {w w' : World} {base : Nat} {e : TypeId} {size n : Nat} {v : Value} {xs : List Value} (h : w.ownsRow base e size v n xs) (O : But S w w') (hS : ∀ b m, base <= b -> Blk w b e m -> ¬ S b) : w'.ownsRow base e size v n xs := by
 refine ⟨h.1, ?_⟩
 rcases h.2 with h0 | ⟨g, cap, cur, rfl, hg, hh, h1, h2, hs, h3⟩
 ·exact Or.inl h0
 ·have hb : Blk w g e (cap * size) := ⟨cur, hh, hs⟩
  exact Or.inr ⟨g, cap, cur, rfl, hg, (O.block g hb.lt (hS g _ hg hb)).trans hh, h1, h2, hs, h3⟩
theorem qz2k.but {S : Nat -> Prop} {base : Nat} {w w' : World} {cb : Nat} {s g n r : Value} {ps qs : List Addr} {A : Ar} (h : qz2k base w cb s g n r ps qs A) (O : But S w w') (hS : ∀ b, base <= b -> b < Q7b -> ¬ S b) : qz2k base w' cb s g n r ps qs A :=
 ⟨O.range h.row h.blk.lt (hS cb h.lo h.blk.lt), h.blk.but O (hS cb h.lo h.blk.lt), h.lo, qz55 h.ss O (fun b m hb hm => hS b hb hm.lt), qz55 h.sg O (fun b m hb hm => hS b hb hm.lt), qz55 h.sn O (fun b m hb hm => hS b hb hm.lt), qz55 h.sr O (fun b m hb hm => hS b hb hm.lt), h.np.but O (fun b m hb hm => hS b hb hm.lt), h.vp.but O (fun b m hb hm => hS b hb hm.lt), h.ne⟩
theorem qz2k.grown {base : Nat} {w w' : World} {cb : Nat} {s g n r : Value} {ps qs : List Addr} {A : Ar} (h : qz2k base w cb s g n r ps qs A) (hb : Below Q7b w w') : qz2k base w' cb s g n r ps qs A :=
 h.but (But.of_below (S := fun q => Q7b <= q) hb) (fun b _ hl hg => by omega)
theorem qz2k.aside {base : Nat} {w w' : World} {cb : Nat} {s g n r : Value} {ps qs : List Addr} {A : Ar} (h : qz2k base w cb s g n r ps qs A) {q m : Nat} {t : TypeId} (hq : Blk w q t m) (h1 : 147 ≠ t) (h2 : 2 ≠ t) (h3 : 177 ≠ t) (h4 : 149 ≠ t) (h5 : 99 ≠ t) (h6 : 65 ≠ t) (k : Only q w w') : qz2k base w' cb s g n r ps qs A := by
 have O : But (fun c => c = q) w w' := But.of_only k rfl
 exact ⟨O.range h.row h.blk.lt (h.blk.ne hq h1), h.blk.but O (h.blk.ne hq h1), h.lo, qz55 h.ss O (fun c m _ hc => hc.ne hq h2), qz55 h.sg O (fun c m _ hc => hc.ne hq h2), qz55 h.sn O (fun c m _ hc => hc.ne hq h3), qz55 h.sr O (fun c m _ hc => hc.ne hq h4), h.np.but O (fun c m _ hc => hc.ne hq h5), h.vp.but O (fun c m _ hc => hc.ne hq h6), h.ne⟩
theorem qz8s {w : World} {base : Nat} {e : TypeId} {size n : Nat} {v : Value} {xs : List Value} (h : w.ownsRow base e size v n xs) : qzq Q7b w v n xs := by
 rcases h.2 with ⟨rfl, rfl⟩ | ⟨g, cap, cur, rfl, hg, hh, h1, h2, hs, h3⟩
 ·exact ⟨_, _, rfl, Or.inl rfl⟩
 ·refine ⟨_, _, rfl, ?_⟩
  rcases Nat.eq_zero_or_pos n with h0 | h0
  ·exact Or.inl h0
  ·obtain ⟨g', e', hg', hb, -, R⟩ := qz9x ⟨h.1, Or.inr ⟨g, cap, cur, rfl, hg, hh, h1, h2, hs, h3⟩⟩ h0
   exact Or.inr ⟨g', 0, e', hb.lt, R⟩
theorem qz2k.cells {base : Nat} {w : World} {cb : Nat} {s g n r : Value} {ps qs : List Addr} {A : Ar} (h : qz2k base w cb s g n r ps qs A) : qza5 Q7b w cb s g n r A :=
 ⟨h.row, h.blk.lt, qz8s h.ss, qz8s h.sg, ⟨ps, qz8s h.sn, h.np.ptrs⟩, ⟨qs, qz8s h.sr, h.vp.ptrs⟩⟩
theorem qz2k.ver {base : Nat} {w : World} {cb : Nat} {s g n r : Value} {ps qs : List Addr} {A : Ar} (h : qz2k base w cb s g n r ps qs A) (i : Nat) (hi : i < Q7h) (b o : Nat) (hp : qs[i]? = some ⟨b, o, none⟩) (k : Nat) (hk : k < 5) (v : Value) (x : Vr) (hx : (vrC A.vers[i]).set k v = vrC x) : qz2k base (w.setCell ⟨b, o + k, none⟩ v) cb s g n r ps qs { A with vers := A.vers.set i x } := by
 obtain ⟨b', o', m, h1, h2, h3, h4, h5⟩ := h.vp.at' i hi
 rw [hp] at h1
 injection h1 with h1
 injection h1 with h1 h1'
 subst h1 h1'
 have O : But (fun q => q = b) w (w.setCell ⟨b, o + k, none⟩ v) := But.of_only ((Only.refl b w).setCell (Or.inl rfl) v) rfl
 refine ⟨O.range h.row h.blk.lt (h.blk.ne h3 (by decide)), h.blk.setCell _ _, h.lo, qz55 h.ss O (fun c m _ hc => hc.ne h3 (by decide)), qz55 h.sg O (fun c m _ hc => hc.ne h3 (by decide)), qz55 h.sn O (fun c m _ hc => hc.ne h3 (by decide)), ?_, h.np.but O (fun c m _ hc => hc.ne h3 (by decide)), h.vp.set (sz := 5) (fun _ => rfl) i hi b o hp k hk v x hx, h.ne⟩
 rw [List.length_set]
 exact qz55 h.sr O (fun c m _ hc => hc.ne h3 (by decide))
def qzgb (lo b0 : Nat) (A : Ar) (a0 a1 a2 a3 : Option Addr) (c0 c1 c2 c3 : Nat) : Nat -> Value -> World -> Prop
 | 0, x, _ => x = .pointer (some ⟨b0, 0, none⟩)
 | 1, x, _ => x = .int .i64 Q7m
 | 2, x, _ => x = .pointer (some ⟨b0, 1, none⟩)
 | 3, x, _ => x = .slice a0 Q7w c0
 | 4, x, w => qzay lo A.slots x w
 | 5, x, _ => x = .pointer (some ⟨b0, 2, none⟩)
 | 6, x, _ => x = .slice a1 Q7v c1
 | 7, x, w => qzay lo A.guides x w
 | 8, x, _ => x = .pointer (some ⟨b0, 3, none⟩)
 | 9, x, _ => x = .slice a2 Q7f c2
 | 10, x, w => qz98 lo A.nodes x w
 | 11, x, _ => x = .pointer (some ⟨b0, 4, none⟩)
 | 12, x, _ => x = .slice a3 Q7h c3
 | 13, x, w => qzef lo A.vers x w
 | 14, x, w => ∃ s g n r, x = .agg Q2w /\ qzev lo A s g n r w
 | 15, x, w => ∃ b s g n r, x = .pointer (some ⟨b, 0, none⟩) /\ lo <= b /\ Blk w b 147 5 /\ w.rangeAt b 0 Q58 /\ qzev lo A s g n r w
 | 16, x, w => ∃ b s g n r, x = .pointer (some ⟨b, 0, none⟩) /\ lo <= b /\ Blk w b 147 5 /\ w.rangeAt b 0 Q58 /\ qzev lo A s g n r w
 | _, _, _ => True
theorem qzcp {lo b0 : Nat} {A : Ar} {a0 a1 a2 a3 : Option Addr} {c0 c1 c2 c3 : Nat} (i : Nat) (x : Value) (w w' : World) (hq : qzgb lo b0 A a0 a1 a2 a3 c0 c1 c2 c3 i x w) (hb : Below Q7b w w') : qzgb lo b0 A a0 a1 a2 a3 c0 c1 c2 c3 i x w' := by
 match i, hq with
 | 0, h | 1, h | 2, h | 3, h | 5, h | 6, h | 8, h | 9, h | 11, h | 12, h => exact h
 | 4, h => exact qzay.kept h hb
 | 7, h => exact qzay.kept h hb
 | 10, h => exact qz98.kept h hb
 | 13, h => exact qzef.kept h hb
 | 14, h => obtain ⟨s, g, n, r, e, F⟩ := h; exact ⟨s, g, n, r, e, F.kept hb⟩
 | 15, h => obtain ⟨b, s, g, n, r, e, h1, h2, h3, F⟩ := h; exact ⟨b, s, g, n, r, e, h1, h2.grown hb, qz0 h3 hb h2.lt, F.kept hb⟩
 | 16, h => obtain ⟨b, s, g, n, r, e, h1, h2, h3, F⟩ := h; exact ⟨b, s, g, n, r, e, h1, h2.grown hb, qz0 h3 hb h2.lt, F.kept hb⟩
 | n + 17, h => exact trivial
theorem qzc9 (B : Nat) (A : Ar) (a0 a1 a2 a3 : Option Addr) (c0 c1 c2 c3 : Nat) (w : World) (hB : B <= Q7b) (hA : A.size <= 1048576) (I : qzv B w Q0u Q0s Q0v Q14 A) :
  Calls Tryz.prog 47 #[.agg Q02] w fun e w' => ∃ cb s g n r ps qs, e = .returned (.pointer (some ⟨cb, 0, none⟩)) /\ qz2k Q7b w' cb s g n r ps qs A /\ Below Q7b w w' := by
 unfold Ar.size at hA
 have X0 := qz6 w Q0j 33
 have K0 := (Q7g Q7b w).alloc (Q7l _) (.cells Q02 33)
 have hz0 : Q7b < (Q26).heap.size := by simp
 go_enter Tryz.func47, Tryz.ntmps47
 go_wp2_with fail
 have I0 := I.below (K0.mono hB)
 generalize hw0 : w.alloc (.cells Q02 33) = w0 at *
 clear hw0 I
 refine qz7t (by kernel_rfl) (qzgb Q7r Q7b A a0 a1 a2 a3 c0 c1 c2 c3) (fun i => i == 4 || i == 7) (by kernel_rfl) (by kernel_rfl) (by kernel_rfl) (by rfl) (fun i v w w' _ hq hb => qzcp i v w w' hq hb) ?blk ?step ?final
 case blk =>
  intro i v w b hf hG hb
  have : i = 4 ∨ i = 7 := by simpa using hf
  rcases this with rfl | rfl
  ·obtain ⟨c, rfl, _, h3, _⟩ := (show qzay _ _ _ _ from hG)
   cases hb
   exact h3.lt
  ·obtain ⟨c, rfl, _, h3, _⟩ := (show qzay _ _ _ _ from hG)
   cases hb
   exact h3.lt
 case step =>
  intro i o ho a V hb hn hd hq K hK
  obtain ⟨x0, x1, x2, x3, x4⟩ := row5 (qz0 X0 hb (by omega))
  have IV := I0.below (hb.mono (Q7u hB K0.size))
  have hBV : B <= V.heap.size := Q7u (Q7u hB K0.size) hb.size
  match i, ho with
  | 0, ho =>
   obtain rfl := Q7i ho
   have e1 : a.eval (.tmp 1) = .pointer (some ⟨Q7b, 0, none⟩) := hn 1 rfl
   refine qz4 (v := .pointer (some ⟨Q7b, 0, none⟩)) (w' := V) ?_ (hK _ _ rfl (Q7g _ _) (fun h => by cases h))
   generalize a.eval = ev at *
   go_simp
  | 1, ho =>
   obtain rfl := Q7i ho
   have e1 : a.eval (.tmp 3) = .pointer (some ⟨Q7b, 0, none⟩) := hd ⟨0, .data⟩ (by simp) rfl 3 rfl
   refine qz4 (v := .int .i64 Q7m) (w' := V) ?_ (hK _ _ rfl (Q7g _ _) (fun h => by cases h))
   generalize a.eval = ev at *
   go_simp
  | 2, ho =>
   obtain rfl := Q7i ho
   have e1 : a.eval (.tmp 1) = .pointer (some ⟨Q7b, 0, none⟩) := hn 1 rfl
   refine qz4 (v := .pointer (some ⟨Q7b, 1, none⟩)) (w' := V) ?_ (hK _ _ rfl (Q7g _ _) (fun h => by cases h))
   generalize a.eval = ev at *
   go_simp
  | 3, ho =>
   obtain rfl := Q7i ho
   have e1 : a.eval (.tmp 5) = .pointer (some ⟨Q7b, 1, none⟩) := hd ⟨2, .data⟩ (by simp) rfl 5 rfl
   refine qz4 (v := .slice a0 Q7w c0) (w' := V) ?_ (hK _ _ rfl (Q7g _ _) (fun h => by cases h))
   generalize a.eval = ev at *
   go_simp
  | 4, ho =>
   obtain rfl := Q7i ho
   have e1 : a.eval (.tmp 6) = .slice a0 Q7w c0 := hd ⟨3, .data⟩ (by simp) rfl 6 rfl
   have ef : a.eval (.func 89) = .func (.func 89) #[] #[] := rfl
   refine qz1u (f := 89) (args := #[.slice a0 Q7w c0]) (R := (fun v w' => (qzay V.heap.size A.slots v w' /\ Below V.heap.size V w') /\ (∀ b, qz32 v = some b -> V.heap.size <= b))) ?_ ((qz54 B Q0u A.slots V hBV (by omega) IV.s).mono (fun e w' h => ⟨_, h.1, ⟨⟨⟨V.heap.size, rfl, Q7l _, h.2.1, h.2.2.1⟩, h.2.2.2⟩, fun b hb => by cases hb; exact Q7l _⟩⟩)) (fun v w' h => hK v w' (by obtain ⟨b, h1, h2, h3⟩ := h.1.1; exact ⟨b, h1, Q7u hb.size h2, h3⟩) h.1.2 (fun _ => h.2))
   clear IV
   generalize a.eval = ev at *
   go_simp
  | 5, ho =>
   obtain rfl := Q7i ho
   have e1 : a.eval (.tmp 1) = .pointer (some ⟨Q7b, 0, none⟩) := hn 1 rfl
   refine qz4 (v := .pointer (some ⟨Q7b, 2, none⟩)) (w' := V) ?_ (hK _ _ rfl (Q7g _ _) (fun h => by cases h))
   generalize a.eval = ev at *
   go_simp
  | 6, ho =>
   obtain rfl := Q7i ho
   have e1 : a.eval (.tmp 8) = .pointer (some ⟨Q7b, 2, none⟩) := hd ⟨5, .data⟩ (by simp) rfl 8 rfl
   refine qz4 (v := .slice a1 Q7v c1) (w' := V) ?_ (hK _ _ rfl (Q7g _ _) (fun h => by cases h))
   generalize a.eval = ev at *
   go_simp
  | 7, ho =>
   obtain rfl := Q7i ho
   have e1 : a.eval (.tmp 9) = .slice a1 Q7v c1 := hd ⟨6, .data⟩ (by simp) rfl 9 rfl
   have ef : a.eval (.func 89) = .func (.func 89) #[] #[] := rfl
   refine qz1u (f := 89) (args := #[.slice a1 Q7v c1]) (R := (fun v w' => (qzay V.heap.size A.guides v w' /\ Below V.heap.size V w') /\ (∀ b, qz32 v = some b -> V.heap.size <= b))) ?_ ((qz54 B Q0s A.guides V hBV (by omega) IV.g).mono (fun e w' h => ⟨_, h.1, ⟨⟨⟨V.heap.size, rfl, Q7l _, h.2.1, h.2.2.1⟩, h.2.2.2⟩, fun b hb => by cases hb; exact Q7l _⟩⟩)) (fun v w' h => hK v w' (by obtain ⟨b, h1, h2, h3⟩ := h.1.1; exact ⟨b, h1, Q7u hb.size h2, h3⟩) h.1.2 (fun _ => h.2))
   clear IV
   generalize a.eval = ev at *
   go_simp
  | 8, ho =>
   obtain rfl := Q7i ho
   have e1 : a.eval (.tmp 1) = .pointer (some ⟨Q7b, 0, none⟩) := hn 1 rfl
   refine qz4 (v := .pointer (some ⟨Q7b, 3, none⟩)) (w' := V) ?_ (hK _ _ rfl (Q7g _ _) (fun h => by cases h))
   generalize a.eval = ev at *
   go_simp
  | 9, ho =>
   obtain rfl := Q7i ho
   have e1 : a.eval (.tmp 11) = .pointer (some ⟨Q7b, 3, none⟩) := hd ⟨8, .data⟩ (by simp) rfl 11 rfl
   refine qz4 (v := .slice a2 Q7f c2) (w' := V) ?_ (hK _ _ rfl (Q7g _ _) (fun h => by cases h))
   generalize a.eval = ev at *
   go_simp
  | 10, ho =>
   obtain rfl := Q7i ho
   have e1 : a.eval (.tmp 12) = .slice a2 Q7f c2 := hd ⟨9, .data⟩ (by simp) rfl 12 rfl
   have ef : a.eval (.func 90) = .func (.func 90) #[] #[] := rfl
   refine qz1u (f := 90) (args := #[.slice a2 Q7f c2]) (R := (fun v w' => qz98 V.heap.size A.nodes v w' /\ Below V.heap.size V w')) ?_ ((qz7i B Q0v A.nodes V hBV (by omega) IV.n).mono (fun e w' h => by obtain ⟨v', h1, h2, h3⟩ := h; exact ⟨v', h1, h2, h3⟩)) (fun v w' h => hK v w' (by obtain ⟨b, ps, h1, h2, h3, h4, h5⟩ := h.1; exact ⟨b, ps, h1, Q7u hb.size h2, h3, h4, h5.lo hb.size⟩) h.2 (fun h => by cases h))
   clear IV
   generalize a.eval = ev at *
   go_simp
  | 11, ho =>
   obtain rfl := Q7i ho
   have e1 : a.eval (.tmp 1) = .pointer (some ⟨Q7b, 0, none⟩) := hn 1 rfl
   refine qz4 (v := .pointer (some ⟨Q7b, 4, none⟩)) (w' := V) ?_ (hK _ _ rfl (Q7g _ _) (fun h => by cases h))
   generalize a.eval = ev at *
   go_simp
  | 12, ho =>
   obtain rfl := Q7i ho
   have e1 : a.eval (.tmp 14) = .pointer (some ⟨Q7b, 4, none⟩) := hd ⟨11, .data⟩ (by simp) rfl 14 rfl
   refine qz4 (v := .slice a3 Q7h c3) (w' := V) ?_ (hK _ _ rfl (Q7g _ _) (fun h => by cases h))
   generalize a.eval = ev at *
   go_simp
  | 13, ho =>
   obtain rfl := Q7i ho
   have e1 : a.eval (.tmp 15) = .slice a3 Q7h c3 := hd ⟨12, .data⟩ (by simp) rfl 15 rfl
   have ef : a.eval (.func 91) = .func (.func 91) #[] #[] := rfl
   refine qz1u (f := 91) (args := #[.slice a3 Q7h c3]) (R := (fun v w' => qzef V.heap.size A.vers v w' /\ Below V.heap.size V w')) ?_ ((qz82 B Q14 A.vers V hBV (by omega) IV.r).mono (fun e w' h => by obtain ⟨v', h1, h2, h3⟩ := h; exact ⟨v', h1, h2, h3⟩)) (fun v w' h => hK v w' (by obtain ⟨b, ps, h1, h2, h3, h4, h5⟩ := h.1; exact ⟨b, ps, h1, Q7u hb.size h2, h3, h4, h5.lo hb.size⟩) h.2 (fun h => by cases h))
   clear IV
   generalize a.eval = ev at *
   go_simp
  | 14, ho =>
   obtain rfl := Q7i ho
   have e0 : a.eval (.tmp 4) = .int .i64 Q7m := hd ⟨1, .data⟩ (by simp) rfl 4 rfl
   have g1 : qzay Q7r A.slots (a.eval (.tmp 7)) V := hd ⟨4, .data⟩ (by simp) rfl 7 rfl
   have g2 : qzay Q7r A.guides (a.eval (.tmp 10)) V := hd ⟨7, .data⟩ (by simp) rfl 10 rfl
   have g3 : qz98 Q7r A.nodes (a.eval (.tmp 13)) V := hd ⟨10, .data⟩ (by simp) rfl 13 rfl
   have g4 : qzef Q7r A.vers (a.eval (.tmp 16)) V := hd ⟨13, .data⟩ (by simp) rfl 16 rfl
   have g5 : ∀ b, qz32 (a.eval (.tmp 7)) = some b -> qz32 (a.eval (.tmp 10)) ≠ some b := fun b hbb => hq ⟨4, .data⟩ (by simp) rfl ⟨7, .data⟩ (by simp) rfl (by decide) rfl rfl 7 10 b rfl rfl hbb
   obtain ⟨b1, e1, -⟩ := id g1
   obtain ⟨b2, e2, -⟩ := id g2
   obtain ⟨b3, s3, e3, -⟩ := id g3
   obtain ⟨b4, s4, e4, -⟩ := id g4
   refine qz4 (v := .agg #[.int .i64 Q7m, a.eval (.tmp 7), a.eval (.tmp 10), a.eval (.tmp 13), a.eval (.tmp 16)]) (w' := V) ?_ (hK _ _ ⟨_, _, _, _, rfl, g1, g2, g3, g4, g5⟩ (Q7g _ _) (fun h => by cases h))
   clear g1 g2 g3 g4 g5
   generalize a.eval = ev at *
   go_simp
  | 15, ho =>
   obtain rfl := Q7i ho
   obtain ⟨s, g, n, r, e1, F⟩ := (show ∃ s g n r, a.eval (.tmp 17) = .agg Q2w /\ qzev Q7r A s g n r V from hd ⟨14, .data⟩ (by simp) rfl 17 rfl)
   have al := (Q7g V.heap.size V).alloc (Q7l _) (.cells Q2w 147)
   refine qz4 (v := .pointer (some ⟨V.heap.size, 0, none⟩)) (w' := V.alloc (.cells Q2w 147)) ?_ (hK _ _ ⟨V.heap.size, s, g, n, r, rfl, hb.size, Blk.new _ _ _, qz6 V Q58 _, F.kept al⟩ al (fun h => by cases h))
   clear F
   generalize a.eval = ev at *
   go_simp
  | 16, ho =>
   obtain rfl := Q7i ho
   obtain ⟨b, s, g, n, r, e1, h1, h2, h3, F⟩ := (show ∃ b s g n r, a.eval (.tmp 18) = .pointer (some ⟨b, 0, none⟩) /\ Q7r <= b /\ Blk V b 147 5 /\ V.rangeAt b 0 Q58 /\ qzev Q7r A s g n r V from hd ⟨15, .data⟩ (by simp) rfl 18 rfl)
   refine qz4 (v := .pointer (some ⟨b, 0, none⟩)) (w' := V) ?_ (hK _ _ ⟨b, s, g, n, r, rfl, h1, h2, h3, F⟩ (Q7g _ _) (fun h => by cases h))
   clear F h1 h2 h3
   generalize a.eval = ev at *
   go_simp
  | n + 17, ho => exact absurd ho (by simp)
 case final =>
  intro vs V hb hG hD
  obtain ⟨cb, s, g, n, r, e16, hlo, hbk, hrow, F⟩ := (show ∃ b s g n r, vs 16 = .pointer (some ⟨b, 0, none⟩) /\ Q7r <= b /\ Blk V b 147 5 /\ V.rangeAt b 0 Q58 /\ qzev Q7r A s g n r V from hG 16 (by decide))
  obtain ⟨sb, rfl, ls, bs, rs⟩ := F.ss
  obtain ⟨gb, rfl, lg, bg, rg⟩ := F.sg
  obtain ⟨nb, ps, rfl, ln, bn, rn, pn⟩ := F.sn
  obtain ⟨rb, qs, rfl, lr, br, rr, pr⟩ := F.sr
  have hne := F.ne
  have z0 := K0.size
  have KK : Below Q7b w V := K0.trans (hb.mono K0.size)
  have OC : qz2k Q7b V cb (.slice (some ⟨sb, 0, none⟩) Q7w Q7w) (.slice (some ⟨gb, 0, none⟩) Q7v Q7v) (.slice (some ⟨nb, 0, none⟩) Q7f Q7f) (.slice (some ⟨rb, 0, none⟩) Q7h Q7h) ps qs A :=
   ⟨hrow, hbk, by omega, bs.own rs (by rw [qz12 (sz := 1) (fun _ => rfl)]; omega) (by omega) (by unfold maxLen; omega), bg.own rg (by rw [qz12 (sz := 1) (fun _ => rfl)]; omega) (by omega) (by unfold maxLen; omega), bn.own rn (by rw [qz12 (sz := 1) (fun _ => rfl), pn.len]; omega) (by omega) (by unfold maxLen; omega), br.own rr (by rw [qz12 (sz := 1) (fun _ => rfl), pr.len]; omega) (by omega) (by unfold maxLen; omega), pn.lo (by omega), pr.lo (by omega), fun b h1 h2 => hne b h1 h2⟩
  clear hG hD hb F hlo hbk hrow bs bg bn br rs rg rn rr pn pr hne
  generalize hl : laid _ vs _ _ _ = A'
  have hA' : A' = { tmps := #[.agg Q02, .pointer (some ⟨Q7b, 0, none⟩), vs 16, vs 0, vs 1, vs 2, vs 3, vs 4, vs 5, vs 6, vs 7, vs 8, vs 9, vs 10, vs 11, vs 12, vs 13, vs 14, vs 15], defers := [] } := by
   rw [<- hl]
   kernel_rfl
  subst hA'
  clear hl
  rw [e16]
  go_wp2
  go_ret
  exact ⟨_, _, _, _, _, _, _, rfl, OC, KK⟩
end
section
attribute [local go_sem ↓] Go.wp_at_zero Go.wp_at_succ
theorem qz49 {B : Nat} {a w : World} (h : Below B a w) (n : Nat) : Below B a (w.drewN n) := ⟨h.os, h.tape, h.output, h.size, h.block⟩
end
end Go.Proofs.YthjkdnlmopafkaaGreat
