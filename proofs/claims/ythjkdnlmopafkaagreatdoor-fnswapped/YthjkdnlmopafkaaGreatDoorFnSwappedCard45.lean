/-
  What the law's proof goes by, part 46.
-/
import Derived.Deep.Cut
import Derived.Test.YthjkdnlmopafkaaGreatDoorFnSwappedCard00
import Derived.Test.YthjkdnlmopafkaaGreatDoorFnSwappedCard06
import Derived.Test.YthjkdnlmopafkaaGreatDoorFnSwappedCard08
import Derived.Test.YthjkdnlmopafkaaGreatDoorFnSwappedCard11
import Derived.Test.YthjkdnlmopafkaaGreatDoorFnSwappedCard42
import Derived.Test.YthjkdnlmopafkaaGreatDoorFnSwappedCard44
namespace Go.Proofs.YthjkdnlmopafkaaGreatDoor
open Go.ChangeShapes Go.WideShapes Go.ChangeAt Go.RowKit
set_option maxRecDepth 100000
set_option maxHeartbeats 16000000
set_option linter.unusedVariables false
set_option linter.unusedSimpArgs false
set_option linter.unnecessarySimpa false
set_option linter.unusedSectionVars false
section
attribute [local go_sem ↓] Go.wp_at_zero Go.wp_at_succ
structure TypA (w : World) (A : Ar) (b0 b1 b2 b3 : Nat) : Prop where
 t0 : 0 < Q74 -> ∃ m, Blk w b0 2 m
 t1 : 0 < Q75 -> ∃ m, Blk w b1 2 m
 t2 : 0 < Q6q -> ∃ m, Blk w b2 42 m
 t3 : 0 < Q6r -> ∃ m, Blk w b3 40 m
theorem TypA.kept {w w' : World} {A : Ar} {b0 b1 b2 b3 : Nat} (h : TypA w A b0 b1 b2 b3) (hb : Below Q6o w w') : TypA w' A b0 b1 b2 b3 :=
 ⟨fun p => by obtain ⟨m, h⟩ := h.t0 p; exact ⟨m, h.grown hb⟩, fun p => by obtain ⟨m, h⟩ := h.t1 p; exact ⟨m, h.grown hb⟩, fun p => by obtain ⟨m, h⟩ := h.t2 p; exact ⟨m, h.grown hb⟩, fun p => by obtain ⟨m, h⟩ := h.t3 p; exact ⟨m, h.grown hb⟩⟩
theorem TypA.setCells {w : World} {A : Ar} {b0 b1 b2 b3 : Nat} (h : TypA w A b0 b1 b2 b3) (c o : Nat) (vs : List Value) : TypA (w.setCells c o vs) A b0 b1 b2 b3 :=
 ⟨fun p => by obtain ⟨m, h⟩ := h.t0 p; exact ⟨m, h.setCells _ _ _⟩, fun p => by obtain ⟨m, h⟩ := h.t1 p; exact ⟨m, h.setCells _ _ _⟩, fun p => by obtain ⟨m, h⟩ := h.t2 p; exact ⟨m, h.setCells _ _ _⟩, fun p => by obtain ⟨m, h⟩ := h.t3 p; exact ⟨m, h.setCells _ _ _⟩⟩
theorem qz6m (B : Nat) (v : Value) (l : List Nd) (w : World) (hB : B <= Q6o) (hl : l.length <= 1048576) (S : qzao B w v ndC l) :
  Calls Tryz.prog 76 #[v] w fun e w' => e = .returned Q1z /\ w'.rangeAt Q6o 0 (qz8 ndC l) /\ Blk w' Q6o 42 (l.length * 3) /\ Q6o < w'.heap.size /\ Below Q6o w w' := by
 obtain ⟨ps, ⟨a, cap, rfl, hS⟩, Q⟩ := S
 obtain ⟨i0, hi, hz0, hz1, hz2⟩ := info_parts qz6u
 have hmk : ∀ w : World, (Instr.makeSlice 27 (.int .i64 (l.length : Int)) (.int .i64 (l.length : Int))).run Tryz.prog w = .ok Q1z (w.alloc (.cells (madeCells (.agg Q4a : Value).cells (l.length * 3)) 42)) := by
  intro w
  have h := run_make (P := Tryz.prog) w 27 42 i0 _ Tryz.underlying27 hi hz0 .i64 .i64 l.length l.length (by omega) (by omega) (by rw [hz2]; omega) (by omega)
  simpa [hz1] using h
 clear hi hz0 hz1 hz2
 have BN : Blk (w.alloc (.cells (madeCells (.agg Q4a : Value).cells (l.length * 3)) 42)) Q6o 42 (l.length * 3) := by
  have h := Blk.new w (madeCells (.agg Q4a : Value).cells (l.length * 3)) 42
  rwa [size_madeCells] at h
 go_enter Tryz.func76, Tryz.ntmps76
 go_wp2
 clear hmk
 go_loopw [11] (fun i wr => ∃ k : Nat, k <= l.length /\ i = .int .i64 k /\ wr.rangeAt Q6o 0 (qz8 ndC (l.take k)) /\ Blk wr Q6o 42 (l.length * 3) /\ Q6o < wr.heap.size /\ Below Q6o w wr) (fun i _ => l.length - (intOf i).toNat)
 case atStart => exact ⟨0, Nat.zero_le _, rfl, by simp [qz8, World.rangeAt], BN, by simp, (Below.refl _ _).alloc (Nat.le_refl _) _⟩
 case round =>
  obtain ⟨k, hk, rfl, R, TB, hz, bel⟩ := hrel
  have T := TB.there 0 (l.length * 3) (by omega)
  by_cases hlt : k < l.length
  ·rcases hS with h0 | ⟨bb, off, rfl, hbb, R0⟩
   ·omega
   ·obtain ⟨pb, po, hp1, hp2, hp3⟩ := (Q.below (bel.mono hB)).at' k hlt
    have hkp : k < ps.length := by rw [Q.len]; exact hlt
    have hc : wr.cell? ⟨bb, off + k, none⟩ = some (.pointer (some ⟨pb, po, none⟩)) := by
     have h1 := (qzi (sz := 1) (f := ptrC) (fun _ => rfl) (qz0 R0 (bel.mono hB) hbb) k hkp) 0 (.pointer (some ps[k])) rfl
     rw [List.getElem?_eq_getElem hkp] at hp1
     rw [Option.some.inj hp1, Nat.mul_one, Nat.add_zero] at h1
     exact h1
    clear R0 hp1 hkp
    have hk3 : k * 3 + 3 <= l.length * 3 := by omega
    have hlen : (qz8 ndC (l.take k)).length = k * 3 := by rw [qzz (sz := 3) (fun _ => rfl), List.length_take]; omega
    have T2 := qz1d T (k * 3) 3 hk3
    have G := qz6k R (vs := ndC l[k]) (by rw [hlen]; exact T2)
    rw [hlen, <- qz1p, <- List.take_succ_eq_append_getElem hlt] at G
    simp only [Nat.zero_add] at G T2
    clear R hlen
    go_wp2_with (first | (refine Q6z rfl 42 (.tmp 19) rfl pb po rfl (ndC l[k]) _ ?hc Tryz.underlying42 rfl (qzbk _) ?_) | (refine Q6t rfl 42 (.tmp 21) (.tmp 20) rfl Q6o (k * 3) _ rfl rfl ?ht ?hi ?h1 ?_))
    case hc => exact hp3
    case ht => exact T2
    case hi => exact qzfs _
    case h1 => simp [ndC, Value.oneCell']
    go_roundw
    case rel => exact ⟨k + 1, by omega, by go_num, G, TB.setCells _ _ _, by rw [qzp]; omega, Below.setCells (Nat.le_refl _) _ _ _ bel⟩
    case measure => simp [intOf]; omega
  ·obtain rfl : k = l.length := by omega
   go_wp2
   go_ret
   exact ⟨rfl, by simpa using R, TB, hz, bel⟩
theorem qz7e (B : Nat) (v : Value) (l : List Vr) (w : World) (hB : B <= Q6o) (hl : l.length <= 1048576) (S : qzao B w v vrC l) :
  Calls Tryz.prog 77 #[v] w fun e w' => e = .returned Q1z /\ w'.rangeAt Q6o 0 (qz8 vrC l) /\ Blk w' Q6o 40 (l.length * 5) /\ Q6o < w'.heap.size /\ Below Q6o w w' := by
 obtain ⟨ps, ⟨a, cap, rfl, hS⟩, Q⟩ := S
 obtain ⟨i0, hi, hz0, hz1, hz2⟩ := info_parts qz9i
 have hmk : ∀ w : World, (Instr.makeSlice 28 (.int .i64 (l.length : Int)) (.int .i64 (l.length : Int))).run Tryz.prog w = .ok Q1z (w.alloc (.cells (madeCells (.agg Q1p : Value).cells (l.length * 5)) 40)) := by
  intro w
  have h := run_make (P := Tryz.prog) w 28 40 i0 _ Tryz.underlying28 hi hz0 .i64 .i64 l.length l.length (by omega) (by omega) (by rw [hz2]; omega) (by omega)
  simpa [hz1] using h
 clear hi hz0 hz1 hz2
 have BN : Blk (w.alloc (.cells (madeCells (.agg Q1p : Value).cells (l.length * 5)) 40)) Q6o 40 (l.length * 5) := by
  have h := Blk.new w (madeCells (.agg Q1p : Value).cells (l.length * 5)) 40
  rwa [size_madeCells] at h
 go_enter Tryz.func77, Tryz.ntmps77
 go_wp2
 clear hmk
 go_loopw [11] (fun i wr => ∃ k : Nat, k <= l.length /\ i = .int .i64 k /\ wr.rangeAt Q6o 0 (qz8 vrC (l.take k)) /\ Blk wr Q6o 40 (l.length * 5) /\ Q6o < wr.heap.size /\ Below Q6o w wr) (fun i _ => l.length - (intOf i).toNat)
 case atStart => exact ⟨0, Nat.zero_le _, rfl, by simp [qz8, World.rangeAt], BN, by simp, (Below.refl _ _).alloc (Nat.le_refl _) _⟩
 case round =>
  obtain ⟨k, hk, rfl, R, TB, hz, bel⟩ := hrel
  have T := TB.there 0 (l.length * 5) (by omega)
  by_cases hlt : k < l.length
  ·rcases hS with h0 | ⟨bb, off, rfl, hbb, R0⟩
   ·omega
   ·obtain ⟨pb, po, hp1, hp2, hp3⟩ := (Q.below (bel.mono hB)).at' k hlt
    have hkp : k < ps.length := by rw [Q.len]; exact hlt
    have hc : wr.cell? ⟨bb, off + k, none⟩ = some (.pointer (some ⟨pb, po, none⟩)) := by
     have h1 := (qzi (sz := 1) (f := ptrC) (fun _ => rfl) (qz0 R0 (bel.mono hB) hbb) k hkp) 0 (.pointer (some ps[k])) rfl
     rw [List.getElem?_eq_getElem hkp] at hp1
     rw [Option.some.inj hp1, Nat.mul_one, Nat.add_zero] at h1
     exact h1
    clear R0 hp1 hkp
    have hk5 : k * 5 + 5 <= l.length * 5 := by omega
    have hlen : (qz8 vrC (l.take k)).length = k * 5 := by rw [qzz (sz := 5) (fun _ => rfl), List.length_take]; omega
    have T2 := qz1d T (k * 5) 5 hk5
    have G := qz6k R (vs := vrC l[k]) (by rw [hlen]; exact T2)
    rw [hlen, <- qz1p, <- List.take_succ_eq_append_getElem hlt] at G
    simp only [Nat.zero_add] at G T2
    clear R hlen
    go_wp2_with (first | (refine Q6z rfl 40 (.tmp 19) rfl pb po rfl (vrC l[k]) _ ?hc Tryz.underlying40 rfl (qzah _) ?_) | (refine Q6t rfl 40 (.tmp 21) (.tmp 20) rfl Q6o (k * 5) _ rfl rfl ?ht ?hi ?h1 ?_))
    case hc => exact hp3
    case ht => exact T2
    case hi => exact qzfe _
    case h1 => simp [vrC, Value.oneCell']
    go_roundw
    case rel => exact ⟨k + 1, by omega, by go_num, G, TB.setCells _ _ _, by rw [qzp]; omega, Below.setCells (Nat.le_refl _) _ _ _ bel⟩
    case measure => simp [intOf]; omega
  ·obtain rfl : k = l.length := by omega
   go_wp2
   go_ret
   exact ⟨rfl, by simpa using R, TB, hz, bel⟩
theorem qz54 (B : Nat) (v : Value) (l : List Int) (w : World) (hB : B <= Q6o) (hl : l.length <= 1048576) (S : qzu B w v l.length (qz8 intC l)) :
  Calls Tryz.prog 72 #[v] w fun e w' => e = .returned Q1z /\ w'.rangeAt Q6o 0 (qz8 intC l) /\ Blk w' Q6o 2 l.length /\ Q6o < w'.heap.size /\ Below Q6o w w' :=
 (qz4l B v l w hB hl S).mono (fun e w' h => ⟨h.1, h.2.2.1, h.2.1, h.2.1.lt, h.2.2.2⟩)
def qzhi (v : Value) : Prop := ∀ q l c, v = .slice q l c -> l <= c
theorem qzga (B : Nat) (cb : Nat) (s g n r : Value) (A : Ar) (w : World) (hB : B <= Q6o) (hA : A.size <= 1048576) (C : qz9o B w cb s g n r A) :
  Calls Tryz.prog 35 #[.pointer (some ⟨cb, 0, none⟩)] w fun e w' => ∃ s' g' n' r' b0 b1 b2 b3, e = .returned (.agg #[.int .i64 Q6w, s', g', n', r']) /\ qz3f Q6o w' s' g' n' r' A b0 b1 b2 b3 /\ TypA w' A b0 b1 b2 b3 /\ Below Q6o w w' /\ qzhi r' := by
 unfold Ar.size at hA
 have hne : cb ≠ Q6o := by have := C.blk; omega
 have hne' : Q6o ≠ cb := hne.symm
 have K0 : Below Q6o w (w.alloc (Obj.cells Q09 30)) := (Q6s _ _).alloc (Q6v _) _
 have Z0 : (w.alloc (Obj.cells Q09 30)).rangeAt Q6o 0 Q4f := qz6 w Q4f 30
 have F0 : (w.alloc (Obj.cells Q09 30)).there Q6o 0 5 := qzg w Q09 30 5 (by decide)
 have hz0 : Q6o < (w.alloc (Obj.cells Q09 30)).heap.size := by simp
 have tk0 : True := trivial
 go_enter Tryz.func35, Tryz.ntmps35
 go_wp2
 generalize w.alloc (Obj.cells Q09 30) = w0 at K0 Z0 F0 hz0 ⊢
 obtain ⟨x0, x1, x2, x3, x4⟩ := row5 (C.below (K0.mono hB)).row
 go_region_held3 (fun w' => w'.cell? ⟨cb, 0, none⟩ = some (.int .i64 Q6w) /\ w'.cell? ⟨cb, 1, none⟩ = some s /\ w'.cell? ⟨cb, 2, none⟩ = some g /\ w'.cell? ⟨cb, 3, none⟩ = some n /\ w'.cell? ⟨cb, 4, none⟩ = some r) (go_keep) (first
  | (clear tk0; go_at_call 72; refine (qz54 B s A.slots _ (by exact (Q77 hB K0.size)) (by omega) (by exact (C.below ((K0.drew).mono hB)).s)).mono ?_; rintro e w1 ⟨rfl, R1, U1, z1, b1⟩; have tk1 : True := trivial; have L1 : Below Q73 w0 w1 := (by exact ⟨b1.os, b1.tape, b1.output, b1.size, b1.block⟩); have K1 : Below Q6o w w1 := (by exact K0.trans (L1.mono (by exact K0.size))); have Z1 := qz0 Z0 L1 hz0; have F1 := qz5 F0 L1 hz0; have hz1 := Q72 hz0 L1.size; obtain ⟨y0, y1, y2, y3, y4⟩ := row5 (C.below (K1.mono hB)).row)
  | (clear tk1; go_at_call 72; refine (qz54 B g A.guides _ (by exact (Q77 hB K1.size)) (by omega) (by exact (C.below (K1.mono hB)).g)).mono ?_; rintro e w2 ⟨rfl, R2, U2, z2, b2⟩; have tk2 : True := trivial; have K2 : Below Q6o w w2 := (by exact K1.trans (b2.mono (by exact K1.size))); have Z2 := qz0 Z1 b2 hz1; have F2 := qz5 F1 b2 hz1; have hz2 := Q72 hz1 b2.size; obtain ⟨y0, y1, y2, y3, y4⟩ := row5 (C.below (K2.mono hB)).row)
  | (clear tk2; go_at_call 76; refine (qz6m B n A.nodes _ (by exact (Q77 hB K2.size)) (by omega) (by exact (C.below (K2.mono hB)).n)).mono ?_; rintro e w3 ⟨rfl, R3, U3, z3, b3⟩; have tk3 : True := trivial; have K3 : Below Q6o w w3 := (by exact K2.trans (b3.mono (by exact K2.size))); have Z3 := qz0 Z2 b3 hz2; have F3 := qz5 F2 b3 hz2; have hz3 := Q72 hz2 b3.size; obtain ⟨y0, y1, y2, y3, y4⟩ := row5 (C.below (K3.mono hB)).row)
  | (clear tk3; go_at_call 77; refine (qz7e B r A.vers _ (by exact (Q77 hB K3.size)) (by omega) (by exact (C.below (K3.mono hB)).r)).mono ?_; rintro e w4 ⟨rfl, R4, U4, z4, b4⟩; have tk4 : True := trivial; have K4 : Below Q6o w w4 := (by exact K3.trans (b4.mono (by exact K3.size))); have Z4 := qz0 Z3 b4 hz3; have F4 := qz5 F3 b4 hz3; have hz4 := Q72 hz3 b4.size; obtain ⟨y0, y1, y2, y3, y4⟩ := row5 (C.below (K4.mono hB)).row; obtain ⟨u0, u1, u2, u3, u4⟩ := row5 Z4; have v0 : w4.frozen? ⟨Q6o, 0, none⟩ = false := (by have := (F4 0 (by omega)).2; simpa using this); have v1 : w4.frozen? ⟨Q6o, 1, none⟩ = false := (by have := (F4 1 (by omega)).2; simpa using this); have v2 : w4.frozen? ⟨Q6o, 2, none⟩ = false := (by have := (F4 2 (by omega)).2; simpa using this); have v3 : w4.frozen? ⟨Q6o, 3, none⟩ = false := (by have := (F4 3 (by omega)).2; simpa using this); have v4 : w4.frozen? ⟨Q6o, 4, none⟩ = false := (by have := (F4 4 (by omega)).2; simpa using this)))
 obtain ⟨vs, hvs⟩ : ∃ vs : List Value, vs = Q3j := ⟨_, rfl⟩
 have hW : ((((w4.setCell ⟨Q6o, 0, none⟩ (.int .i64 Q6w)).setCell ⟨Q6o, 1, none⟩ (.slice (some ⟨Q73, 0, none⟩) Q74 Q74)).setCell ⟨Q6o, 2, none⟩ (.slice (some ⟨Q6y, 0, none⟩) Q75 Q75)).setCell ⟨Q6o, 3, none⟩ (.slice (some ⟨Q78, 0, none⟩) Q6q Q6q)).setCell ⟨Q6o, 4, none⟩ (.slice (some ⟨w3.heap.size, 0, none⟩) Q6r Q6r) = w4.setCells Q6o 0 vs := by rw [hvs]; rfl
 rw [hW]
 have e0 : w0.drew.heap.size = Q73 := rfl
 rw [e0] at R1 U1 z1
 have T1 := U1.there 0 Q74 (by omega)
 have T2 := U2.there 0 Q75 (by omega)
 have T3 := U3.there 0 (Q6q * 3) (by omega)
 have T4 := U4.there 0 (Q6r * 5) (by omega)
 have V0 : TypA Q5y A Q73 Q6y Q78 w3.heap.size := ⟨fun _ => ⟨_, ((U1.below b2 U1.lt).grown b3 |>.grown b4).setCells _ _ _⟩, fun _ => ⟨_, ((U2.grown b3).grown b4).setCells _ _ _⟩, fun _ => ⟨_, (U3.grown b4).setCells _ _ _⟩, fun _ => ⟨_, U4.setCells _ _ _⟩⟩
 have k1 := K1.size
 have k2 := b2.size
 have k3 := b3.size
 have k4 := b4.size
 have l1 := L1.size
 have RR : (Q5y).rangeAt Q6o 0 vs := Q6u _ _ _ _ (by rw [hvs]; exact F4)
 have N0 : qz30 Q6o Q5y (.slice (some ⟨Q73, 0, none⟩) Q74 Q74) Q74 1 (qz8 intC A.slots) Q73 :=
  ⟨_, _, 0, rfl, Or.inr ⟨rfl, by omega, by rw [qzp]; omega, World.rangeAt_setCells_apart (qz0 (qz0 (qz0 R1 b2 (by omega)) b3 (by omega)) b4 (by omega)) _ _ _ (Or.inl (by omega)), by rw [Nat.mul_one]; exact World.there_setCells (qz5 (qz5 (qz5 T1 b2 (by omega)) b3 (by omega)) b4 (by omega)) _ _ _⟩⟩
 have N1 : qz30 Q6o Q5y (.slice (some ⟨Q6y, 0, none⟩) Q75 Q75) Q75 1 (qz8 intC A.guides) Q6y :=
  ⟨_, _, 0, rfl, Or.inr ⟨rfl, by omega, by rw [qzp]; omega, World.rangeAt_setCells_apart (qz0 (qz0 R2 b3 (by omega)) b4 (by omega)) _ _ _ (Or.inl (by omega)), by rw [Nat.mul_one]; exact World.there_setCells (qz5 (qz5 T2 b3 (by omega)) b4 (by omega)) _ _ _⟩⟩
 have N2 : qz30 Q6o Q5y (.slice (some ⟨Q78, 0, none⟩) Q6q Q6q) Q6q 3 (qz8 ndC A.nodes) Q78 :=
  ⟨_, _, 0, rfl, Or.inr ⟨rfl, by omega, by rw [qzp]; omega, World.rangeAt_setCells_apart (qz0 R3 b4 (by omega)) _ _ _ (Or.inl (by omega)), World.there_setCells (qz5 T3 b4 (by omega)) _ _ _⟩⟩
 have N3 : qz30 Q6o Q5y (.slice (some ⟨w3.heap.size, 0, none⟩) Q6r Q6r) Q6r 5 (qz8 vrC A.vers) w3.heap.size :=
  ⟨_, _, 0, rfl, Or.inr ⟨rfl, by omega, by rw [qzp]; omega, World.rangeAt_setCells_apart R4 _ _ _ (Or.inl (by omega)), World.there_setCells T4 _ _ _⟩⟩
 have KF := Below.setCells (Q6v Q6o) vs 0 _ K4
 clear hW R1 R2 R3 R4 T1 T2 T3 T4 u0 u1 u2 u3 u4 v0 v1 v2 v3 v4 F0 F1 F2 F3 F4 Z0 Z1 Z2 Z3 Z4
 go_wp2
 refine bodyPost_ret (v := .agg #[.int .i64 Q6w, .slice (some ⟨Q73, 0, none⟩) Q74 Q74, .slice (some ⟨Q6y, 0, none⟩) Q75 Q75, .slice (some ⟨Q78, 0, none⟩) Q6q Q6q, .slice (some ⟨w3.heap.size, 0, none⟩) Q6r Q6r]) ?_ rfl ⟨_, _, _, _, _, _, _, _, rfl, ⟨N0, N1, N2, N3, by omega, by omega, by omega, by omega, by omega, by omega⟩, V0, KF, fun q l c e => by cases e; exact Q6v _⟩
 subst hvs
 exact qz3 Tryz.results35 _ _ Q6o 0 rfl Q3j _ RR Q7g rfl qz1n
end
section
attribute [local go_sem ↓] Go.wp_at_zero Go.wp_at_succ
structure ErrT (base : Nat) (w : World) : Prop where
 g : w.cell? ⟨3, 0, none⟩ = some (.iface 195 (.agg Q61))
 lo : 3 < base
theorem ErrT.below {base : Nat} {w w' : World} (E : ErrT base w) (hb : Below base w w') : ErrT base w' := ⟨(World.cell?_of_block (w := w) (hb.block _ E.lo)).trans E.g, E.lo⟩
theorem ErrT.raise {base base' : Nat} {w : World} (E : ErrT base w) (hb : base <= base') : ErrT base' w := ⟨E.g, Q72 E.lo hb⟩
def qzek (made : Int) (c : Nat) : Int := if c = 3 then made else if c = 1 then -1 else -2
theorem qzap (base : Nat) (made : Int) (c : Nat) (hc : c < 4) (eN eF eU : Addr) (w : World) (hbase : base <= Q6o) (E : Errs base w eN eF eU) (ET : ErrT base w) :
  Calls Tryz.prog 36 #[.int .i64 made, errV eN eF eU c] w fun e w' => e = .returned (.int .i64 (qzek made c)) /\ Below Q6o w w' := by
 have K0 := (Q6s Q6o w).alloc (Q6v _) Q6f
 have T0 := qzg w #[.nilIface] 134 1 (by decide)
 have hz0 : Q6o < (w.alloc Q6f).heap.size := by simp
 have hc4 : c = 0 ∨ c = 1 ∨ c = 2 ∨ c = 3 := by omega
 rcases hc4 with rfl | rfl | rfl | rfl
 ·show Calls Tryz.prog 36 #[.int .i64 made, .iface 134 (.agg #[.iface 217 (.pointer (some eN))])] w _
  go_enter Tryz.func36, Tryz.ntmps36
  go_upto_region 2 with fail
  generalize hw0 : w.alloc Q6f = w0 at *
  clear hw0
  have E0 := E.below (K0.mono hbase)
  have ET0 := (ET.below (K0.mono hbase))
  go_wp2_with fail
  refine (qz8j eN Q6o .nilIface w0 ET0.g T0 (Q72 ET0.lo (Q77 hbase (by omega))) hz0).mono ?_
  rintro e w1 ⟨rfl, O1⟩
  have b1 : Below Q6o w0 w1 := O1.below (Q6v _) (by omega)
  have E1 := E0.below (b1.mono hbase)
  have K1 := K0.trans b1
  have hs1 := O1.size
  have hgF := E1.gF
  go_wp2_with fail
  refine (qz5c 0 (by decide) w1 E1).mono ?_
  rintro e w2 ⟨rfl, b2⟩
  go_wp2
  go_ret
  exact ⟨rfl, K1.trans (b2.mono (by omega))⟩
 ·show Calls Tryz.prog 36 #[.int .i64 made, .iface 134 (.agg #[.iface 217 (.pointer (some eF))])] w _
  go_enter Tryz.func36, Tryz.ntmps36
  go_upto_region 2 with fail
  generalize hw0 : w.alloc Q6f = w0 at *
  clear hw0
  have E0 := E.below (K0.mono hbase)
  have ET0 := (ET.below (K0.mono hbase))
  go_wp2_with fail
  refine (qz8j eF Q6o .nilIface w0 ET0.g T0 (Q72 ET0.lo (Q77 hbase (by omega))) hz0).mono ?_
  rintro e w1 ⟨rfl, O1⟩
  have b1 : Below Q6o w0 w1 := O1.below (Q6v _) (by omega)
  have E1 := E0.below (b1.mono hbase)
  have K1 := K0.trans b1
  have hs1 := O1.size
  have hgF := E1.gF
  go_wp2_with fail
  refine (qz5c 1 (by decide) w1 E1).mono ?_
  rintro e w2 ⟨rfl, b2⟩
  go_wp2
  go_ret
  exact ⟨rfl, K1.trans (b2.mono (by omega))⟩
 ·show Calls Tryz.prog 36 #[.int .i64 made, .iface 134 (.agg #[.iface 217 (.pointer (some eU))])] w _
  go_enter Tryz.func36, Tryz.ntmps36
  go_upto_region 2 with fail
  generalize hw0 : w.alloc Q6f = w0 at *
  clear hw0
  have E0 := E.below (K0.mono hbase)
  have ET0 := (ET.below (K0.mono hbase))
  go_wp2_with fail
  refine (qz8j eU Q6o .nilIface w0 ET0.g T0 (Q72 ET0.lo (Q77 hbase (by omega))) hz0).mono ?_
  rintro e w1 ⟨rfl, O1⟩
  have b1 : Below Q6o w0 w1 := O1.below (Q6v _) (by omega)
  have E1 := E0.below (b1.mono hbase)
  have K1 := K0.trans b1
  have hs1 := O1.size
  have hgF := E1.gF
  go_wp2_with fail
  refine (qz5c 2 (by decide) w1 E1).mono ?_
  rintro e w2 ⟨rfl, b2⟩
  go_wp2
  go_ret
  exact ⟨rfl, K1.trans (b2.mono (by omega))⟩
 ·show Calls Tryz.prog 36 #[.int .i64 made, .nilIface] w _
  go_enter Tryz.func36, Tryz.ntmps36
  go_upto_region 2 with fail
  generalize hw0 : w.alloc Q6f = w0 at *
  clear hw0
  go_wp2_with (go_at_call 78; refine (qzeq _ _).mono ?_; rintro e w' ⟨rfl, hw⟩; obtain rfl := hw.symm)
  go_ret
  exact ⟨rfl, K0⟩
def qz3n (x y z u : Int) (A : Ar) (node v nx : Int) (go : Bool) (kd : Int) : Ar × Int := if hasB x y z u A node = true then (qzar A node ⟨nx, go, -1, v, kd⟩ Q4c, qzek (qzgk A Q4c) Q4c) else (⟨0, [], [], [], []⟩, -2)
def qzdr (w : World) (R : Ar × Int) (e : Ending) (w' : World) : Prop := ∃ s g n r b0 b1 b2 b3, e = .returned (.tuple #[.agg #[.int .i64 R.1.camera, s, g, n, r], .int .i64 R.2]) /\ qz3f Q6o w' s g n r R.1 b0 b1 b2 b3 /\ TypA w' R.1 b0 b1 b2 b3 /\ Below Q6o w w' /\ qzhi r
theorem qzdr.of {w w' : World} {A : Ar} {k : Int} {e : Ending} {s g n r : Value} {b0 b1 b2 b3 : Nat} (h1 : e = .returned (.tuple #[.agg Q1t, .int .i64 k])) (h2 : qz3f Q6o w' s g n r A b0 b1 b2 b3) (h4 : TypA w' A b0 b1 b2 b3) (h3 : Below Q6o w w') (h5 : qzhi r) : qzdr w (A, k) e w' := ⟨s, g, n, r, b0, b1, b2, b3, h1, h2, h4, h3, h5⟩
theorem qzg7 (lo : Nat) (w : World) : qz3f lo w (.slice none 0 0) (.slice none 0 0) (.slice none 0 0) (.slice none 0 0) ⟨0, [], [], [], []⟩ 0 1 2 3 :=
 ⟨⟨_, _, 0, rfl, Or.inl rfl⟩, ⟨_, _, 0, rfl, Or.inl rfl⟩, ⟨_, _, 0, rfl, Or.inl rfl⟩, ⟨_, _, 0, rfl, Or.inl rfl⟩, by decide, by decide, by decide, by decide, by decide, by decide⟩
theorem qzfx (w : World) : TypA w ⟨0, [], [], [], []⟩ 0 1 2 3 := ⟨fun p => absurd p (Nat.lt_irrefl 0), fun p => absurd p (Nat.lt_irrefl 0), fun p => absurd p (Nat.lt_irrefl 0), fun p => absurd p (Nat.lt_irrefl 0)⟩
theorem qzdh {lo c : Nat} {w w' : World} {s g n r : Value} {A : Ar} {b0 b1 b2 b3 : Nat} (N : qz3f lo w s g n r A b0 b1 b2 b3) (hc : c < lo) (k : Only c w w') : qz3f lo w' s g n r A b0 b1 b2 b3 := by
 have O : But (fun q => q = c) w w' := But.of_only k rfl
 exact ⟨N.s.but O (fun h e => by have := N.s.lt h; omega), N.g.but O (fun h e => by have := N.g.lt h; omega), N.n.but O (fun h e => by have := N.n.lt h; omega), N.r.but O (fun h e => by have := N.r.lt h; omega), N.d01, N.d02, N.d03, N.d12, N.d13, N.d23⟩
theorem qz9r {x y z u : Int} {A : Ar} {node : Int} (h : hasB x y z u A node = true) : qz10 x y z u A = true /\ 0 <= node /\ node < (Q6q : Int) /\ qz93 x y z u A node ≠ -1 := by
 have h' := h
 unfold hasB at h
 simp only [Bool.and_eq_true, qz13] at h
 obtain ⟨h1, h2⟩ := h
 obtain ⟨k, hk⟩ : ∃ k : Nat, node = k := ⟨node.toNat, by omega⟩
 subst hk
 have hkl : k < Q6q := by omega
 have hnd := (qz1k _ _).1 (qz1r h1).2.2.2.1 k hkl
 unfold qz46 at hnd
 have hhd : 0 <= A.nodes[k].head := by
  split at hnd <;> (simp only [Bool.and_eq_true, qz13, beq_iff_eq] at hnd; omega)
 refine ⟨h1, by omega, by omega, ?_⟩
 rw [qz93, if_pos h', qz1l A k hkl]
 omega
theorem qzb3 {x y z u : Int} {A : Ar} (h : qz10 x y z u A = true) : A.size <= 1000 /\ 0 < Q6r := by
 have h1 := (qz1r h).1
 simp only [qz6r, Bool.and_eq_true, beq_iff_eq, qz13] at h1
 have h2 := (qz2n x y z u).1 h1.1.1.1.1.1
 unfold Ar.size
 omega
theorem qza0 (A : Ar) (node : Int) (W : Vr) (c : Nat) : (qzar A node W c).size <= A.size + 1 := by
 unfold qzar
 split
 ·simp only [Ar.size, List.length_append, List.length_set, List.length_singleton]; omega
 ·omega
theorem qzco (B : Nat) (A : Ar) (x y z u node v nx : Int) (go : Bool) (kd : Int) (a0 a1 a2 a3 : Option Addr) (c0 c1 c2 c3 : Nat) (eN eF eU : Addr) (w : World) (hB : B <= Q6o) (hA : A.size <= 1048576) (I : qz1j B w Q0x Q0w Q0t Q11 A) (E : Errs Q6o w eN eF eU) (ET : ErrT Q6o w) :
  Calls Tryz.prog 7 Q4z w fun e w' => qzdr w (qz3n x y z u A node v nx go kd) e w' := by
 have hA' := hA
 unfold Ar.size at hA
 have P0 := Q7b (Q7b (qz6 w Q0n 25) (.cells Q02 30)) (.cells Q09 30)
 have X0 := Q7b (qz6 Q44 Q0j 30) (.cells Q09 30)
 have F0 := qzg Q1s Q09 30 5 (by decide)
 have K0 := (((Q6s Q6o w).alloc (Q6v _) (.cells Q06 25)).alloc (by simp) (.cells Q02 30)).alloc (by simp; omega) (.cells Q09 30)
 have hz0 : Q6o + 1 + 1 < ((Q1s).alloc (.cells Q09 30)).heap.size := by simp
 simp only [World.size_alloc] at X0 F0
 have I0 := I.below (K0.mono hB)
 have E0 := E.below K0
 have ET0 := ET.below K0
 go_enter Tryz.func7, Tryz.ntmps7
 go_upto_region 1 with fail
 generalize hw0 : (Q1s).alloc (.cells Q09 30) = w0 at *
 clear hw0 I
 have hB0 : B <= Q73 := Q77 hB K0.size
 obtain ⟨x0, x1, x2, x3, x4⟩ := row5 X0
 obtain ⟨y0, y1, y2, y3⟩ : w0.cell? ⟨Q6o, 0, none⟩ = some (.int .i64 x) /\ w0.cell? ⟨Q6o, 1, none⟩ = some (.int .i64 y) /\ w0.cell? ⟨Q6o, 2, none⟩ = some (.int .i64 z) /\ w0.cell? ⟨Q6o, 3, none⟩ = some (.int .i64 u) := ⟨by simpa using P0 0 _ rfl, by simpa using P0 1 _ rfl, by simpa using P0 2 _ rfl, by simpa using P0 3 _ rfl⟩
 go_wp2_with fail
 refine (qz95 B A x y z u node a0 a1 a2 a3 c0 c1 c2 c3 w0 hB0 hA' I0).mono ?_
 rintro e w1 ⟨rfl, b0⟩
 have P1 := qz0 P0 b0 (by omega)
 have X1 := qz0 X0 b0 (by omega)
 have F1 := qz5 F0 b0 (by omega)
 have K1 := K0.trans (b0.mono (by omega))
 have I1 := I0.below (b0.mono hB0)
 have E1 := E0.below (b0.mono (by omega))
 have ET1 := ET0.below (b0.mono (by omega))
 have hz1 := Q72 hz0 b0.size
 have hB1 := Q77 hB0 b0.size
 clear P0 X0 F0 K0 I0 E0 ET0 hz0 hB0 b0 x0 x1 x2 x3 x4 y0 y1 y2 y3
 cases eh : hasB x y z u A node
 case false =>
  have hn : qz93 x y z u A node = -1 := by simp [qz93, eh]
  have hr : Hid (qz3n x y z u A node v nx go kd = (⟨0, [], [], [], []⟩, -2)) := by show _ = _; simp [qz3n, eh]
  rw [hn]
  clear eh hn
  go_wp2_with (refine wpList_store_mid rfl 30 (.tmp 14) (.tmp 24) rfl (w.heap.size + 1 + 1) 0 Q09 ?hx1 ?hy1 ?ht1 (by exact qz1n) (by simp [Value.oneCell']) ?_)
  try (case hx1 => rfl)
  try (case hy1 => rfl)
  try (case ht1 => exact F1)
  refine bodyPost_ret (v := .tuple #[.agg Q09, .int .i64 (-2)]) ?_ rfl (by rw [hr.out]; exact qzdr.of rfl (qzg7 _ _) (qzfx _) (Below.setCells (by omega) _ _ _ K1) (fun q l c e => by cases e; exact Q6v _))
  exact qzl Tryz.results7 _ _ (Q6o + 1 + 1) 0 rfl Q4f _ (Q6u _ _ _ _ F1) Q7g rfl qz1n
 obtain ⟨hOk, hn0, hn1, hne⟩ := qz9r eh
 have hr : Hid (qz3n x y z u A node v nx go kd = (qzar A node ⟨nx, go, -1, v, kd⟩ Q4c, qzek (qzgk A Q4c) Q4c)) := by show _ = _; simp [qz3n, eh]
 obtain ⟨hsm, hr0⟩ := qzb3 hOk
 have hbn : (qz93 x y z u A node == -1) = false := by simp [hne]
 obtain ⟨x0, x1, x2, x3, x4⟩ := row5 X1
 clear eh hne
 generalize qz93 x y z u A node = nw at *
 go_wp2_with fail
 refine (qzcq B A a0 a1 a2 a3 c0 c1 c2 c3 w1 hB1 hA' I1).mono ?_
 rintro e w2 ⟨cb, s, g, n, r, ps, qs, rfl, C2, b1⟩
 have P2 := qz0 P1 b1 (by omega)
 have F2 := qz5 F1 b1 (by omega)
 have K2 := K1.trans (b1.mono (by omega))
 have E2 := (E1.below (b1.mono (by omega))).raise (base' := Q6y) (by omega)
 have ET2 := (ET1.below (b1.mono (by omega))).raise (base' := Q6y) (by omega)
 have hs2 := b1.size
 clear P1 X1 F1 K1 I1 E1 ET1 b1 x0 x1 x2 x3 x4 hbn
 obtain ⟨y0, y1, y2, y3⟩ : w2.cell? ⟨Q6o, 0, none⟩ = some (.int .i64 x) /\ w2.cell? ⟨Q6o, 1, none⟩ = some (.int .i64 y) /\ w2.cell? ⟨Q6o, 2, none⟩ = some (.int .i64 z) /\ w2.cell? ⟨Q6o, 3, none⟩ = some (.int .i64 u) := ⟨by simpa using P2 0 _ rfl, by simpa using P2 1 _ rfl, by simpa using P2 2 _ rfl, by simpa using P2 3 _ rfl⟩
 go_wp2_with fail
 refine (qz9w Q6y cb s g n r ps qs A x y z u node ⟨nx, go, -1, v, kd⟩ eN eF eU w2 hs2 hA' C2 hn0 hn1 hr0 E2).mono ?_
 rintro e w3 ⟨r3, qs3, rfl, C3, b2, -⟩
 have F3 := qz5 F2 b2 (by omega)
 have K3 := K2.trans (b2.mono (by omega))
 have E3 := E2.below b2
 have ET3 := ET2.below b2
 have hs3 := b2.size
 have hcc := qzg0 z A node ⟨nx, go, -1, v, kd⟩
 have hsz := qza0 A node ⟨nx, go, -1, v, kd⟩ Q4c
 clear P2 F2 K2 E2 ET2 C2 b2 y0 y1 y2 y3
 generalize qz5a z A node ⟨nx, go, -1, v, kd⟩ = c at *
 generalize qzgk A c = made at *
 generalize qzar A node ⟨nx, go, -1, v, kd⟩ c = A9 at *
 have hA9 : A9.size <= 1048576 := by omega
 go_wp2_with fail
 refine (qzga w3.heap.size cb s g n r3 A9 w3 (Q6v _) hA9 C3.cells).mono ?_
 rintro e w4 ⟨s', g', n', r', q0, q1, q2, q3, rfl, N4, Ty4, b3, hcap⟩
 have F4 := qz5 F3 b3 (by omega)
 have K4 := K3.trans (b3.mono (by omega))
 have E4 := E3.below (b3.mono (by omega))
 have ET4 := ET3.below (b3.mono (by omega))
 have hs4 := b3.size
 clear F3 K3 E3 ET3 C3 b3
 go_wp2_with fail
 refine (qzap Q6y made c hcc eN eF eU w4 (by omega) E4 ET4).mono ?_
 rintro e w5 ⟨rfl, b4⟩
 have F5 := qz5 F4 b4 (by omega)
 have K5 := K4.trans (b4.mono (by omega))
 have N5 := N4.below b4
 have Ty5 := Ty4.kept b4
 have hs5 := b4.size
 clear F4 K4 E4 ET4 N4 Ty4 b4
 obtain ⟨t0, k0, rfl⟩ : ∃ a c, s' = .slice a A9.slots.length c := by obtain ⟨a, c, o, e, -⟩ := N5.s; exact ⟨a, c, e⟩
 obtain ⟨t1, k1, rfl⟩ : ∃ a c, g' = .slice a A9.guides.length c := by obtain ⟨a, c, o, e, -⟩ := N5.g; exact ⟨a, c, e⟩
 obtain ⟨t2, k2, rfl⟩ : ∃ a c, n' = .slice a A9.nodes.length c := by obtain ⟨a, c, o, e, -⟩ := N5.n; exact ⟨a, c, e⟩
 obtain ⟨t3, k3, rfl⟩ : ∃ a c, r' = .slice a A9.vers.length c := by obtain ⟨a, c, o, e, -⟩ := N5.r; exact ⟨a, c, e⟩
 go_wp2_with (refine wpList_store_mid rfl 30 (.tmp 14) (.tmp 40) rfl (w.heap.size + 1 + 1) 0 Q5l ?hx2 ?hy2 ?ht2 (by exact qz1n) (by simp [Value.oneCell']) ?_)
 try (case hx2 => rfl)
 try (case hy2 => rfl)
 try (case ht2 => exact F5)
 refine bodyPost_ret (v := .tuple #[.agg Q5l, .int .i64 (qzek made c)]) ?_ rfl (by rw [hr.out]; exact qzdr.of rfl ((qzdh N5 (by omega) (qze _ _ _ _)).lo (by omega)) (Ty5.setCells _ _ _) (Below.setCells (by omega) _ _ _ K5) hcap)
 exact qzl Tryz.results7 _ _ (Q6o + 1 + 1) 0 rfl [.int .i64 A9.camera, .slice t0 A9.slots.length k0, .slice t1 A9.guides.length k1, .slice t2 A9.nodes.length k2, .slice t3 A9.vers.length k3] _ (Q6u _ _ _ _ F5) Q7g rfl qz1n
end
section
def qzhx : Ar := ⟨0, [], [], [], []⟩
/- 60 -/
/- 60 -/
/- 60 -/
theorem qzem (base : Nat) (w : World) : qz1t base w (.slice none 0 0) (.slice none 0 0) (.slice none 0 0) (.slice none 0 0) qzhx :=
 ⟨⟨rfl, Or.inl ⟨rfl, rfl⟩⟩, ⟨rfl, Or.inl ⟨rfl, rfl⟩⟩, ⟨rfl, Or.inl ⟨rfl, rfl⟩⟩, ⟨rfl, Or.inl ⟨rfl, rfl⟩⟩, fun b h => by cases h⟩
theorem qz1t.aside {base : Nat} {w w' : World} {s g n r : Value} {A : Ar} (O : qz1t base w s g n r A) {q m : Nat} {t : TypeId} (hq : Blk w q t m) (h1 : 2 ≠ t) (h2 : 42 ≠ t) (h3 : 40 ≠ t) (k : Only q w w') : qz1t base w' s g n r A := by
 have B : But (fun c => c = q) w w' := But.of_only k rfl
 exact ⟨qz3h O.rs B (fun c m _ hc => hc.ne hq h1), qz3h O.rg B (fun c m _ hc => hc.ne hq h1), qz3h O.rn B (fun c m _ hc => hc.ne hq h2), qz3h O.rr B (fun c m _ hc => hc.ne hq h3), O.ne⟩
theorem qzd4 {x y z u : Int} {A : Ar} (h : qz10 x y z u A = true) : 0 < Q74 /\ 0 < Q75 /\ 0 < Q6q /\ 0 < Q6r := by
 obtain ⟨h1, -⟩ := qz1r h
 simp only [qz6r, qz3w, Bool.and_eq_true, qz13, beq_iff_eq] at h1
 omega
theorem qzbi {w : World} {base : Nat} {e : TypeId} {sz : Nat} {v : Value} {n : Nat} {xs : List Value} (h : w.ownsRow base e sz v n xs) {j : Nat} (hj : v.ownBlock = some j) : base <= j := by
 rcases h.2 with ⟨rfl, -⟩ | ⟨g, cap, cur, rfl, hg, -⟩
 ·cases hj
 ·simp [Value.ownBlock] at hj
  omega
theorem qz29.lower {base : Nat} {w w' : World} {s g n r s' g' n' r' : Value} {A A' : Ar} (E : qz29 base w w' s g n r s' g' n' r' A') (O : qz1t base w s g n r A) (hb : base <= Q6o) : Below base w w' :=
 E.but.below hb (fun k hk => by rcases hk with hk | hk | hk | hk; exact qzbi O.rs hk; exact qzbi O.rg hk; exact qzbi O.rn hk; exact qzbi O.rr hk)
end
end Go.Proofs.YthjkdnlmopafkaaGreatDoor
