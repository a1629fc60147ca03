/-
  What the law's proof goes by, part 53.
-/
import Derived.Test.YthjkdnlmopafkaaGreatFnSealed00
import Derived.Test.YthjkdnlmopafkaaGreatFnSealed05
import Derived.Test.YthjkdnlmopafkaaGreatFnSealed08
import Derived.Test.YthjkdnlmopafkaaGreatFnSealed11
import Derived.Test.YthjkdnlmopafkaaGreatFnSealed41
namespace Go.Proofs.YthjkdnlmopafkaaGreat
open Go.ChangeShapes Go.WideShapes Go.ChangeAt Go.RowKit
set_option maxRecDepth 100000
set_option maxHeartbeats 16000000
set_option linter.unusedVariables false
set_option linter.unusedSimpArgs false
set_option linter.unnecessarySimpa false
set_option linter.unusedSectionVars false
section
attribute [local go_sem ↓] Go.wp_at_zero Go.wp_at_succ
structure TypA (w : World) (A : Ar) (b0 b1 b2 b3 : Nat) : Prop where
 t0 : 0 < Q7w -> ∃ m, Blk w b0 2 m
 t1 : 0 < Q7v -> ∃ m, Blk w b1 2 m
 t2 : 0 < Q7f -> ∃ m, Blk w b2 99 m
 t3 : 0 < Q7h -> ∃ m, Blk w b3 65 m
theorem TypA.kept {w w' : World} {A : Ar} {b0 b1 b2 b3 : Nat} (h : TypA w A b0 b1 b2 b3) (hb : Below Q7b w w') : TypA w' A b0 b1 b2 b3 :=
 ⟨fun p => by obtain ⟨m, h⟩ := h.t0 p; exact ⟨m, h.grown hb⟩, fun p => by obtain ⟨m, h⟩ := h.t1 p; exact ⟨m, h.grown hb⟩, fun p => by obtain ⟨m, h⟩ := h.t2 p; exact ⟨m, h.grown hb⟩, fun p => by obtain ⟨m, h⟩ := h.t3 p; exact ⟨m, h.grown hb⟩⟩
theorem TypA.setCells {w : World} {A : Ar} {b0 b1 b2 b3 : Nat} (h : TypA w A b0 b1 b2 b3) (c o : Nat) (vs : List Value) : TypA (w.setCells c o vs) A b0 b1 b2 b3 :=
 ⟨fun p => by obtain ⟨m, h⟩ := h.t0 p; exact ⟨m, h.setCells _ _ _⟩, fun p => by obtain ⟨m, h⟩ := h.t1 p; exact ⟨m, h.setCells _ _ _⟩, fun p => by obtain ⟨m, h⟩ := h.t2 p; exact ⟨m, h.setCells _ _ _⟩, fun p => by obtain ⟨m, h⟩ := h.t3 p; exact ⟨m, h.setCells _ _ _⟩⟩
theorem qz7l (B : Nat) (v : Value) (l : List Nd) (w : World) (hB : B <= Q7b) (hl : l.length <= 1048576) (S : qzb9 B w v ndC l) :
  Calls Tryz.prog 97 #[v] w fun e w' => e = .returned Q2a /\ w'.rangeAt Q7b 0 (qzf ndC l) /\ Blk w' Q7b 99 (l.length * 3) /\ Q7b < w'.heap.size /\ Below Q7b w w' := by
 obtain ⟨ps, ⟨a, cap, rfl, hS⟩, Q⟩ := S
 obtain ⟨i0, hi, hz0, hz1, hz2⟩ := info_parts qz8w
 have hmk : ∀ w : World, (Instr.makeSlice 30 (.int .i64 (l.length : Int)) (.int .i64 (l.length : Int))).run Tryz.prog w = .ok Q2a (w.alloc (.cells (madeCells (.agg Q4k : Value).cells (l.length * 3)) 99)) := by
  intro w
  have h := run_make (P := Tryz.prog) w 30 99 i0 _ Tryz.underlying30 hi hz0 .i64 .i64 l.length l.length (by omega) (by omega) (by rw [hz2]; omega) (by omega)
  simpa [hz1] using h
 clear hi hz0 hz1 hz2
 have BN : Blk (w.alloc (.cells (madeCells (.agg Q4k : Value).cells (l.length * 3)) 99)) Q7b 99 (l.length * 3) := by
  have h := Blk.new w (madeCells (.agg Q4k : Value).cells (l.length * 3)) 99
  rwa [size_madeCells] at h
 go_enter Tryz.func97, Tryz.ntmps97
 go_wp2
 clear hmk
 go_loopw [11] (fun i wr => ∃ k : Nat, k <= l.length /\ i = .int .i64 k /\ wr.rangeAt Q7b 0 (qzf ndC (l.take k)) /\ Blk wr Q7b 99 (l.length * 3) /\ Q7b < wr.heap.size /\ Below Q7b w wr) (fun i _ => l.length - (intOf i).toNat)
 case atStart => exact ⟨0, Nat.zero_le _, rfl, by simp [qzf, World.rangeAt], BN, by simp, (Below.refl _ _).alloc (Nat.le_refl _) _⟩
 case round =>
  obtain ⟨k, hk, rfl, R, TB, hz, bel⟩ := hrel
  have T := TB.there 0 (l.length * 3) (by omega)
  by_cases hlt : k < l.length
  ·rcases hS with h0 | ⟨bb, off, rfl, hbb, R0⟩
   ·omega
   ·obtain ⟨pb, po, hp1, hp2, hp3⟩ := (Q.below (bel.mono hB)).at' k hlt
    have hkp : k < ps.length := by rw [Q.len]; exact hlt
    have hc : wr.cell? ⟨bb, off + k, none⟩ = some (.pointer (some ⟨pb, po, none⟩)) := by
     have h1 := (qze (sz := 1) (f := ptrC) (fun _ => rfl) (qz0 R0 (bel.mono hB) hbb) k hkp) 0 (.pointer (some ps[k])) rfl
     rw [List.getElem?_eq_getElem hkp] at hp1
     rw [Option.some.inj hp1, Nat.mul_one, Nat.add_zero] at h1
     exact h1
    clear R0 hp1 hkp
    have hk3 : k * 3 + 3 <= l.length * 3 := by omega
    have hlen : (qzf ndC (l.take k)).length = k * 3 := by rw [qz12 (sz := 3) (fun _ => rfl), List.length_take]; omega
    have T2 := qz19 T (k * 3) 3 hk3
    have G := qz7b R (vs := ndC l[k]) (by rw [hlen]; exact T2)
    rw [hlen, <- qz29, <- List.take_succ_eq_append_getElem hlt] at G
    simp only [Nat.zero_add] at G T2
    clear R hlen
    go_wp2_with (first | (refine Q7j rfl 99 (.tmp 19) rfl pb po rfl (ndC l[k]) _ ?hc Tryz.underlying99 rfl (qzbo _) ?_) | (refine Q7e rfl 99 (.tmp 21) (.tmp 20) rfl Q7b (k * 3) _ rfl rfl ?ht ?hi ?h1 ?_))
    case hc => exact hp3
    case ht => exact T2
    case hi => exact qzg6 _
    case h1 => simp [ndC, Value.oneCell']
    go_roundw
    case rel => exact ⟨k + 1, by omega, by go_num, G, TB.setCells _ _ _, by rw [qzn]; omega, Below.setCells (Nat.le_refl _) _ _ _ bel⟩
    case measure => simp [intOf]; omega
  ·obtain rfl : k = l.length := by omega
   go_wp2
   go_ret
   exact ⟨rfl, by simpa using R, TB, hz, bel⟩
theorem qz80 (B : Nat) (v : Value) (l : List Vr) (w : World) (hB : B <= Q7b) (hl : l.length <= 1048576) (S : qzb9 B w v vrC l) :
  Calls Tryz.prog 98 #[v] w fun e w' => e = .returned Q2a /\ w'.rangeAt Q7b 0 (qzf vrC l) /\ Blk w' Q7b 65 (l.length * 5) /\ Q7b < w'.heap.size /\ Below Q7b w w' := by
 obtain ⟨ps, ⟨a, cap, rfl, hS⟩, Q⟩ := S
 obtain ⟨i0, hi, hz0, hz1, hz2⟩ := info_parts qza2
 have hmk : ∀ w : World, (Instr.makeSlice 31 (.int .i64 (l.length : Int)) (.int .i64 (l.length : Int))).run Tryz.prog w = .ok Q2a (w.alloc (.cells (madeCells (.agg Q24 : Value).cells (l.length * 5)) 65)) := by
  intro w
  have h := run_make (P := Tryz.prog) w 31 65 i0 _ Tryz.underlying31 hi hz0 .i64 .i64 l.length l.length (by omega) (by omega) (by rw [hz2]; omega) (by omega)
  simpa [hz1] using h
 clear hi hz0 hz1 hz2
 have BN : Blk (w.alloc (.cells (madeCells (.agg Q24 : Value).cells (l.length * 5)) 65)) Q7b 65 (l.length * 5) := by
  have h := Blk.new w (madeCells (.agg Q24 : Value).cells (l.length * 5)) 65
  rwa [size_madeCells] at h
 go_enter Tryz.func98, Tryz.ntmps98
 go_wp2
 clear hmk
 go_loopw [11] (fun i wr => ∃ k : Nat, k <= l.length /\ i = .int .i64 k /\ wr.rangeAt Q7b 0 (qzf vrC (l.take k)) /\ Blk wr Q7b 65 (l.length * 5) /\ Q7b < wr.heap.size /\ Below Q7b w wr) (fun i _ => l.length - (intOf i).toNat)
 case atStart => exact ⟨0, Nat.zero_le _, rfl, by simp [qzf, World.rangeAt], BN, by simp, (Below.refl _ _).alloc (Nat.le_refl _) _⟩
 case round =>
  obtain ⟨k, hk, rfl, R, TB, hz, bel⟩ := hrel
  have T := TB.there 0 (l.length * 5) (by omega)
  by_cases hlt : k < l.length
  ·rcases hS with h0 | ⟨bb, off, rfl, hbb, R0⟩
   ·omega
   ·obtain ⟨pb, po, hp1, hp2, hp3⟩ := (Q.below (bel.mono hB)).at' k hlt
    have hkp : k < ps.length := by rw [Q.len]; exact hlt
    have hc : wr.cell? ⟨bb, off + k, none⟩ = some (.pointer (some ⟨pb, po, none⟩)) := by
     have h1 := (qze (sz := 1) (f := ptrC) (fun _ => rfl) (qz0 R0 (bel.mono hB) hbb) k hkp) 0 (.pointer (some ps[k])) rfl
     rw [List.getElem?_eq_getElem hkp] at hp1
     rw [Option.some.inj hp1, Nat.mul_one, Nat.add_zero] at h1
     exact h1
    clear R0 hp1 hkp
    have hk5 : k * 5 + 5 <= l.length * 5 := by omega
    have hlen : (qzf vrC (l.take k)).length = k * 5 := by rw [qz12 (sz := 5) (fun _ => rfl), List.length_take]; omega
    have T2 := qz19 T (k * 5) 5 hk5
    have G := qz7b R (vs := vrC l[k]) (by rw [hlen]; exact T2)
    rw [hlen, <- qz29, <- List.take_succ_eq_append_getElem hlt] at G
    simp only [Nat.zero_add] at G T2
    clear R hlen
    go_wp2_with (first | (refine Q7j rfl 65 (.tmp 19) rfl pb po rfl (vrC l[k]) _ ?hc Tryz.underlying65 rfl (qz5u _) ?_) | (refine Q7e rfl 65 (.tmp 21) (.tmp 20) rfl Q7b (k * 5) _ rfl rfl ?ht ?hi ?h1 ?_))
    case hc => exact hp3
    case ht => exact T2
    case hi => exact qzfi _
    case h1 => simp [vrC, Value.oneCell']
    go_roundw
    case rel => exact ⟨k + 1, by omega, by go_num, G, TB.setCells _ _ _, by rw [qzn]; omega, Below.setCells (Nat.le_refl _) _ _ _ bel⟩
    case measure => simp [intOf]; omega
  ·obtain rfl : k = l.length := by omega
   go_wp2
   go_ret
   exact ⟨rfl, by simpa using R, TB, hz, bel⟩
theorem qz5m (B : Nat) (v : Value) (l : List Int) (w : World) (hB : B <= Q7b) (hl : l.length <= 1048576) (S : qzq B w v l.length (qzf intC l)) :
  Calls Tryz.prog 89 #[v] w fun e w' => e = .returned Q2a /\ w'.rangeAt Q7b 0 (qzf intC l) /\ Blk w' Q7b 2 l.length /\ Q7b < w'.heap.size /\ Below Q7b w w' :=
 (qz54 B v l w hB hl S).mono (fun e w' h => ⟨h.1, h.2.2.1, h.2.1, h.2.1.lt, h.2.2.2⟩)
theorem qzdk (B : Nat) (cb : Nat) (s g n r : Value) (A : Ar) (w : World) (hB : B <= Q7b) (hA : A.size <= 1048576) (C : qza5 B w cb s g n r A) :
  Calls Tryz.prog 51 #[.pointer (some ⟨cb, 0, none⟩)] w fun e w' => ∃ s' g' n' r' b0 b1 b2 b3, e = .returned (.agg #[.int .i64 Q7m, s', g', n', r']) /\ qz30 Q7b w' s' g' n' r' A b0 b1 b2 b3 /\ TypA w' A b0 b1 b2 b3 /\ Below Q7b w w' := by
 unfold Ar.size at hA
 have hne : cb ≠ Q7b := by have := C.blk; omega
 have hne' : Q7b ≠ cb := hne.symm
 have K0 : Below Q7b w (w.alloc (Obj.cells Q0h 33)) := (Q7g _ _).alloc (Q7l _) _
 have Z0 : (w.alloc (Obj.cells Q0h 33)).rangeAt Q7b 0 [.int .i64 0, .slice none 0 0, .slice none 0 0, .slice none 0 0, .slice none 0 0] := qz6 w [.int .i64 0, .slice none 0 0, .slice none 0 0, .slice none 0 0, .slice none 0 0] 33
 have F0 : (w.alloc (Obj.cells Q0h 33)).there Q7b 0 5 := qza w Q0h 33 5 (by decide)
 have hz0 : Q7b < (w.alloc (Obj.cells Q0h 33)).heap.size := by simp
 have tk0 : True := trivial
 go_enter Tryz.func51, Tryz.ntmps51
 go_wp2
 generalize w.alloc (Obj.cells Q0h 33) = w0 at K0 Z0 F0 hz0 ⊢
 obtain ⟨x0, x1, x2, x3, x4⟩ := row5 (C.below (K0.mono hB)).row
 go_region_held3 (fun w' => w'.cell? ⟨cb, 0, none⟩ = some (.int .i64 Q7m) /\ w'.cell? ⟨cb, 1, none⟩ = some s /\ w'.cell? ⟨cb, 2, none⟩ = some g /\ w'.cell? ⟨cb, 3, none⟩ = some n /\ w'.cell? ⟨cb, 4, none⟩ = some r) (go_keep) (first
  | (clear tk0; go_at_call 89; refine (qz5m B s A.slots _ (by exact (Q7u hB K0.size)) (by omega) (by exact (C.below ((K0.drew).mono hB)).s)).mono ?_; rintro e w1 ⟨rfl, R1, U1, z1, b1⟩; have tk1 : True := trivial; have L1 : Below Q7r w0 w1 := (by exact ⟨b1.os, b1.tape, b1.output, b1.size, b1.block⟩); have K1 : Below Q7b w w1 := (by exact K0.trans (L1.mono (by exact K0.size))); have Z1 := qz0 Z0 L1 hz0; have F1 := qz2 F0 L1 hz0; have hz1 := Q7o hz0 L1.size; obtain ⟨y0, y1, y2, y3, y4⟩ := row5 (C.below (K1.mono hB)).row)
  | (clear tk1; go_at_call 89; refine (qz5m B g A.guides _ (by exact (Q7u hB K1.size)) (by omega) (by exact (C.below (K1.mono hB)).g)).mono ?_; rintro e w2 ⟨rfl, R2, U2, z2, b2⟩; have tk2 : True := trivial; have K2 : Below Q7b w w2 := (by exact K1.trans (b2.mono (by exact K1.size))); have Z2 := qz0 Z1 b2 hz1; have F2 := qz2 F1 b2 hz1; have hz2 := Q7o hz1 b2.size; obtain ⟨y0, y1, y2, y3, y4⟩ := row5 (C.below (K2.mono hB)).row)
  | (clear tk2; go_at_call 97; refine (qz7l B n A.nodes _ (by exact (Q7u hB K2.size)) (by omega) (by exact (C.below (K2.mono hB)).n)).mono ?_; rintro e w3 ⟨rfl, R3, U3, z3, b3⟩; have tk3 : True := trivial; have K3 : Below Q7b w w3 := (by exact K2.trans (b3.mono (by exact K2.size))); have Z3 := qz0 Z2 b3 hz2; have F3 := qz2 F2 b3 hz2; have hz3 := Q7o hz2 b3.size; obtain ⟨y0, y1, y2, y3, y4⟩ := row5 (C.below (K3.mono hB)).row)
  | (clear tk3; go_at_call 98; refine (qz80 B r A.vers _ (by exact (Q7u hB K3.size)) (by omega) (by exact (C.below (K3.mono hB)).r)).mono ?_; rintro e w4 ⟨rfl, R4, U4, z4, b4⟩; have tk4 : True := trivial; have K4 : Below Q7b w w4 := (by exact K3.trans (b4.mono (by exact K3.size))); have Z4 := qz0 Z3 b4 hz3; have F4 := qz2 F3 b4 hz3; have hz4 := Q7o hz3 b4.size; obtain ⟨y0, y1, y2, y3, y4⟩ := row5 (C.below (K4.mono hB)).row; obtain ⟨u0, u1, u2, u3, u4⟩ := row5 Z4; have v0 : w4.frozen? ⟨Q7b, 0, none⟩ = false := (by have := (F4 0 (by omega)).2; simpa using this); have v1 : w4.frozen? ⟨Q7b, 1, none⟩ = false := (by have := (F4 1 (by omega)).2; simpa using this); have v2 : w4.frozen? ⟨Q7b, 2, none⟩ = false := (by have := (F4 2 (by omega)).2; simpa using this); have v3 : w4.frozen? ⟨Q7b, 3, none⟩ = false := (by have := (F4 3 (by omega)).2; simpa using this); have v4 : w4.frozen? ⟨Q7b, 4, none⟩ = false := (by have := (F4 4 (by omega)).2; simpa using this)))
 obtain ⟨vs, hvs⟩ : ∃ vs : List Value, vs = Q3o := ⟨_, rfl⟩
 have hW : ((((w4.setCell ⟨Q7b, 0, none⟩ (.int .i64 Q7m)).setCell ⟨Q7b, 1, none⟩ (.slice (some ⟨Q7r, 0, none⟩) Q7w Q7w)).setCell ⟨Q7b, 2, none⟩ (.slice (some ⟨Q7k, 0, none⟩) Q7v Q7v)).setCell ⟨Q7b, 3, none⟩ (.slice (some ⟨Q7x, 0, none⟩) Q7f Q7f)).setCell ⟨Q7b, 4, none⟩ (.slice (some ⟨w3.heap.size, 0, none⟩) Q7h Q7h) = w4.setCells Q7b 0 vs := by rw [hvs]; rfl
 rw [hW]
 have e0 : w0.drew.heap.size = Q7r := rfl
 rw [e0] at R1 U1 z1
 have T1 := U1.there 0 Q7w (by omega)
 have T2 := U2.there 0 Q7v (by omega)
 have T3 := U3.there 0 (Q7f * 3) (by omega)
 have T4 := U4.there 0 (Q7h * 5) (by omega)
 have V0 : TypA Q6h A Q7r Q7k Q7x w3.heap.size := ⟨fun _ => ⟨_, ((U1.below b2 U1.lt).grown b3 |>.grown b4).setCells _ _ _⟩, fun _ => ⟨_, ((U2.grown b3).grown b4).setCells _ _ _⟩, fun _ => ⟨_, (U3.grown b4).setCells _ _ _⟩, fun _ => ⟨_, U4.setCells _ _ _⟩⟩
 have k1 := K1.size
 have k2 := b2.size
 have k3 := b3.size
 have k4 := b4.size
 have l1 := L1.size
 have RR : (Q6h).rangeAt Q7b 0 vs := Q7c _ _ _ _ (by rw [hvs]; exact F4)
 have N0 : qz31 Q7b Q6h (.slice (some ⟨Q7r, 0, none⟩) Q7w Q7w) Q7w 1 (qzf intC A.slots) Q7r :=
  ⟨_, _, 0, rfl, Or.inr ⟨rfl, by omega, by rw [qzn]; omega, World.rangeAt_setCells_apart (qz0 (qz0 (qz0 R1 b2 (by omega)) b3 (by omega)) b4 (by omega)) _ _ _ (Or.inl (by omega)), by rw [Nat.mul_one]; exact World.there_setCells (qz2 (qz2 (qz2 T1 b2 (by omega)) b3 (by omega)) b4 (by omega)) _ _ _⟩⟩
 have N1 : qz31 Q7b Q6h (.slice (some ⟨Q7k, 0, none⟩) Q7v Q7v) Q7v 1 (qzf intC A.guides) Q7k :=
  ⟨_, _, 0, rfl, Or.inr ⟨rfl, by omega, by rw [qzn]; omega, World.rangeAt_setCells_apart (qz0 (qz0 R2 b3 (by omega)) b4 (by omega)) _ _ _ (Or.inl (by omega)), by rw [Nat.mul_one]; exact World.there_setCells (qz2 (qz2 T2 b3 (by omega)) b4 (by omega)) _ _ _⟩⟩
 have N2 : qz31 Q7b Q6h (.slice (some ⟨Q7x, 0, none⟩) Q7f Q7f) Q7f 3 (qzf ndC A.nodes) Q7x :=
  ⟨_, _, 0, rfl, Or.inr ⟨rfl, by omega, by rw [qzn]; omega, World.rangeAt_setCells_apart (qz0 R3 b4 (by omega)) _ _ _ (Or.inl (by omega)), World.there_setCells (qz2 T3 b4 (by omega)) _ _ _⟩⟩
 have N3 : qz31 Q7b Q6h (.slice (some ⟨w3.heap.size, 0, none⟩) Q7h Q7h) Q7h 5 (qzf vrC A.vers) w3.heap.size :=
  ⟨_, _, 0, rfl, Or.inr ⟨rfl, by omega, by rw [qzn]; omega, World.rangeAt_setCells_apart R4 _ _ _ (Or.inl (by omega)), World.there_setCells T4 _ _ _⟩⟩
 have KF := Below.setCells (Q7l Q7b) vs 0 _ K4
 clear hW R1 R2 R3 R4 T1 T2 T3 T4 u0 u1 u2 u3 u4 v0 v1 v2 v3 v4 F0 F1 F2 F3 F4 Z0 Z1 Z2 Z3 Z4
 go_wp2
 refine bodyPost_ret (v := .agg #[.int .i64 Q7m, .slice (some ⟨Q7r, 0, none⟩) Q7w Q7w, .slice (some ⟨Q7k, 0, none⟩) Q7v Q7v, .slice (some ⟨Q7x, 0, none⟩) Q7f Q7f, .slice (some ⟨w3.heap.size, 0, none⟩) Q7h Q7h]) ?_ rfl ⟨_, _, _, _, _, _, _, _, rfl, ⟨N0, N1, N2, N3, by omega, by omega, by omega, by omega, by omega, by omega⟩, V0, KF⟩
 subst hvs
 exact qz3 Tryz.results51 _ _ Q7b 0 rfl Q3o _ RR Tryz.underlying33 rfl qz2r
end
section
def qzge : Ar := ⟨0, [], [], [], []⟩
theorem qzf4 (lo : Nat) (w : World) : qz30 lo w (.slice none 0 0) (.slice none 0 0) (.slice none 0 0) (.slice none 0 0) qzge 0 1 2 3 :=
 ⟨⟨_, _, 0, rfl, Or.inl rfl⟩, ⟨_, _, 0, rfl, Or.inl rfl⟩, ⟨_, _, 0, rfl, Or.inl rfl⟩, ⟨_, _, 0, rfl, Or.inl rfl⟩, by decide, by decide, by decide, by decide, by decide, by decide⟩
theorem qzer (w : World) : TypA w qzge 0 1 2 3 := ⟨fun p => absurd p (Nat.lt_irrefl 0), fun p => absurd p (Nat.lt_irrefl 0), fun p => absurd p (Nat.lt_irrefl 0), fun p => absurd p (Nat.lt_irrefl 0)⟩
theorem qz30.elder' {lo c : Nat} {w w' : World} {s g n r : Value} {A : Ar} {b0 b1 b2 b3 : Nat} (N : qz30 lo w s g n r A b0 b1 b2 b3) (hc : c < lo) (k : Only c w w') : qz30 lo w' s g n r A b0 b1 b2 b3 := by
 have O : But (fun q => q = c) w w' := But.of_only k rfl
 exact ⟨N.s.but O (fun h e => by have := N.s.lt h; omega), N.g.but O (fun h e => by have := N.g.lt h; omega), N.n.but O (fun h e => by have := N.n.lt h; omega), N.r.but O (fun h e => by have := N.r.lt h; omega), N.d01, N.d02, N.d03, N.d12, N.d13, N.d23⟩
/- 59 -/
def qz8j (w : World) (R : Ar × Hd × Dd) (ok : Bool) (e : Ending) (w' : World) : Prop := ∃ s g n r b0 b1 b2 b3, e = .returned (.tuple #[.agg (qzc R.1.camera s g n r R.2.1 R.2.2 false).toArray, .bool ok]) /\ qz30 Q7b w' s g n r R.1 b0 b1 b2 b3 /\ TypA w' R.1 b0 b1 b2 b3 /\ Below Q7b w w'
theorem qz8j.of {w w' : World} {A : Ar} {h : Hd} {d : Dd} {ok : Bool} {e : Ending} {s g n r : Value} {b0 b1 b2 b3 : Nat} (h1 : e = .returned (.tuple #[.agg (qzc Q7m s g n r h d false).toArray, .bool ok])) (h2 : qz30 Q7b w' s g n r A b0 b1 b2 b3) (h4 : TypA w' A b0 b1 b2 b3) (h3 : Below Q7b w w') : qz8j w (A, h, d) ok e w' := ⟨s, g, n, r, b0, b1, b2, b3, h1, h2, h4, h3⟩
def NewA (lo : Nat) (A : Ar) (x : Value) (w : World) : Prop := ∃ s g n r b0 b1 b2 b3, x = .agg Q2w /\ qz30 lo w s g n r A b0 b1 b2 b3 /\ TypA w A b0 b1 b2 b3
theorem NewA.kept {lo : Nat} {A : Ar} {x : Value} {w w' : World} (h : NewA lo A x w) (hb : Below Q7b w w') : NewA lo A x w' := by
 obtain ⟨s, g, n, r, b0, b1, b2, b3, e, N, Ty⟩ := h
 exact ⟨s, g, n, r, b0, b1, b2, b3, e, N.below hb, Ty.kept hb⟩
/- 59 -/
def qz93 (lo cb : Nat) (A : Ar) (h : Hd) (d : Dd) : Nat -> Value -> World -> Prop
 | 0, x, _ => x = .pointer (some ⟨cb, 0, none⟩)
 | 1, x, w => NewA lo A x w
 | 2, x, _ => x = .agg (hdC h).toArray
 | 3, x, _ => x = .agg (ddC d).toArray
 | 4, x, w => ∃ a0 a1 a2 a3 c0 c1 c2 c3 b0 b1 b2 b3, x = .agg (qzc Q7m Q0u Q0s Q0v Q14 h d false).toArray /\ qz30 lo w Q0u Q0s Q0v Q14 A b0 b1 b2 b3 /\ TypA w A b0 b1 b2 b3
 | _, _, _ => True
theorem qz6n {lo cb : Nat} {A : Ar} {h : Hd} {d : Dd} (i : Nat) (x : Value) (w w' : World) (hq : qz93 lo cb A h d i x w) (hb : Below Q7b w w') : qz93 lo cb A h d i x w' := by
 match i, hq with
 | 0, h | 2, h | 3, h => exact h
 | 1, h => exact NewA.kept h hb
 | 4, h =>
  obtain ⟨a0, a1, a2, a3, c0, c1, c2, c3, b0, b1, b2, b3, e, N, Ty⟩ := h
  exact ⟨a0, a1, a2, a3, c0, c1, c2, c3, b0, b1, b2, b3, e, N.below hb, Ty.kept hb⟩
 | n + 5, h => exact trivial
theorem qz1y {lo : Nat} {w : World} {v : Value} {len sz : Nat} {cs : List Value} {b : Nat} (N : qz31 lo w v len sz cs b) : ∃ a c, v = .slice a len c := by
 obtain ⟨a, c, o, e, -⟩ := N
 exact ⟨a, c, e⟩
/- 59 -/
def qz87 (w : World) (R : Ar × Hd × Dd) (ok : Bool) (e : Ending) (w' : World) : Prop := ∃ s g n r, e = .returned (.tuple #[.agg (qzc R.1.camera s g n r R.2.1 R.2.2 false).toArray, .bool ok]) /\ qz33 Q7b w' s g n r R.1 /\ Below Q7b w w'
theorem qz87.of {w w' : World} {A : Ar} {h : Hd} {d : Dd} {ok : Bool} {e : Ending} {s g n r : Value} (h1 : e = .returned (.tuple #[.agg (qzc Q7m s g n r h d false).toArray, .bool ok])) (h2 : qz33 Q7b w' s g n r A) (h3 : Below Q7b w w') : qz87 w (A, h, d) ok e w' := ⟨s, g, n, r, h1, h2, h3⟩
theorem qzf9 (base : Nat) (w : World) : qz33 base w (.slice none 0 0) (.slice none 0 0) (.slice none 0 0) (.slice none 0 0) qzge :=
 ⟨⟨rfl, Or.inl ⟨rfl, rfl⟩⟩, ⟨rfl, Or.inl ⟨rfl, rfl⟩⟩, ⟨rfl, Or.inl ⟨rfl, rfl⟩⟩, ⟨rfl, Or.inl ⟨rfl, rfl⟩⟩, fun b h => by cases h⟩
theorem qzd8 {x y z u : Int} {A : Ar} (h : qz1a x y z u A = true) : 0 < Q7w /\ 0 < Q7v /\ 0 < Q7f /\ 0 < Q7h := by
 obtain ⟨h1, -⟩ := qz2a h
 simp only [qz8m, qz42, Bool.and_eq_true, qz18, beq_iff_eq] at h1
 omega
theorem qzbu {w : World} {base : Nat} {e : TypeId} {sz : Nat} {v : Value} {n : Nat} {xs : List Value} (h : w.ownsRow base e sz v n xs) {j : Nat} (hj : v.ownBlock = some j) : base <= j := by
 rcases h.2 with ⟨rfl, -⟩ | ⟨g, cap, cur, rfl, hg, -⟩
 ·cases hj
 ·simp [Value.ownBlock] at hj
  omega
theorem qz2j.lower {base : Nat} {w w' : World} {s g n r s' g' n' r' : Value} {A A' : Ar} (E : qz2j base w w' s g n r s' g' n' r' A') (O : qz33 base w s g n r A) (hb : base <= Q7b) : Below base w w' :=
 E.but.below hb (fun k hk => by rcases hk with hk | hk | hk | hk; exact qzbu O.rs hk; exact qzbu O.rg hk; exact qzbu O.rn hk; exact qzbu O.rr hk)
end
end Go.Proofs.YthjkdnlmopafkaaGreat
