/-
  The plan that the laws draw, as a contract: it is right, and the draw writes nothing but the dice. For every list of bytes.
-/
import Derived.Test.YtpehbhembfopeaaWorld
namespace Go.Proofs.Ytpehbhembfopeaa
open Go.ChangeShapes Go.WideShapes Go.ChangeAt Go.RowKit
set_option linter.unusedVariables false

/-- Two writes into blocks that the call itself made. -/
theorem only_two {b : Nat} {w w8 wa wb : World} (O8 : Only b w w8) (OA : Only w8.heap.size w8 wa) (h8 : w.heap.size ≤ w8.heap.size) {c : Nat} (OB : Only c wa wb) (hc : w.heap.size ≤ c) : Only b w wb := by
  have zA := OA.size
  refine ⟨OB.os.trans (OA.os.trans O8.os), OB.tape.trans (OA.tape.trans O8.tape), OB.output.trans (OA.output.trans O8.output), Nat.le_trans O8.size (Nat.le_trans zA OB.size), fun k hk hb => ?_⟩
  exact (OB.block k (by omega) (by omega)).trans ((OA.block k (by omega) (by omega)).trans (O8.block k hk hb))

/-- What is left of fresh behind the plan: a World is made and handed back. -/
def FreshEnd (B b : Nat) (a : Option Addr) (len cap : Nat) (w : World) (e : Ending) (w' : World) : Prop :=
  ∃ (xN uN sg sc gb nb vb hg hc : Nat) (y z i' h' : Int), e = .returned (.agg [.int .i64 xN, .int .i64 y, .int .i64 z, .int .i64 uN, .int .i64 0, .slice (some ⟨sg, 0, none⟩) xN sc, .slice (some ⟨gb, 0, none⟩) uN uN, .slice (some ⟨nb, 0, none⟩) 1 1, .slice (some ⟨vb, 0, none⟩) 1 1, .slice (some ⟨hg, 0, none⟩) xN hc, .slice none 0 0, .slice none 0 0, .slice none 0 0, .int .i64 0].toArray) ∧ planB xN y z uN = true ∧ DiceAt .u64 w' b a len cap i' h' ∧ BytesAt B w' a len ∧ Only b w w'

set_option maxRecDepth 100000 in
set_option maxHeartbeats 1000000 in
theorem fresh_any (B b : Nat) (a : Option Addr) (len cap : Nat) (i h : Int) (w : World) (hB : B ≤ b) (hlen : len ≤ 4096) (D : DiceAt .u64 w b a len cap i h) (C : BytesAt B w a len) :
    Calls Try.prog 6 #[.pointer (some ⟨b, 0, none⟩)] w (FreshEnd B b a len cap w) := by
  have blk := D.blk
  go_enter Try.func6, Try.ntmps6
  go_wp2_with fail
  have R0 := there_new w #[.int .i64 0, .int .i64 0, .int .i64 0, .int .i64 0, .int .i64 0, .slice none 0 0, .slice none 0 0, .slice none 0 0, .slice none 0 0, .slice none 0 0, .slice none 0 0, .slice none 0 0, .slice none 0 0, .int .i64 0] 38 14 (by decide)
  refine (below_any B b a len cap i h 3 _ hB hlen (D.alloc _) (C.alloc (by omega) _) (by omega) (by omega)).mono ?_
  rintro e w1 ⟨r1, i1, h1, rfl, r10, r11, D1, O1⟩
  have C1 := (C.alloc (by omega) _).below (O1.below hB (by simp; omega))
  have R1 := there_only R0 O1 (by simp) (by omega)
  have z1 := O1.size
  simp at z1
  obtain ⟨q1, rfl⟩ := Int.eq_ofNat_of_zero_le r10
  go_wp2_with fail
  refine (below_any B b a len cap i1 h1 5 _ hB hlen D1 C1 (by omega) (by omega)).mono ?_
  rintro e w2 ⟨r2, i2, h2, rfl, r20, r21, D2, O2⟩
  have C2 := C1.below (O2.below hB (by omega))
  have R2 := there_only R1 O2 (by omega) (by omega)
  have z2 := O2.size
  obtain ⟨q2, rfl⟩ := Int.eq_ofNat_of_zero_le r20
  have b2 := D2.blk
  go_wp2_with fail
  have P2 := planNew_alloc w2 (2 + q1) 30 200 (1 + q2) 28
  refine (below_any B b a len cap i2 h2 6 _ hB hlen (D2.alloc _) (C2.alloc (by omega) _) (by omega) (by omega)).mono ?_
  rintro e w3 ⟨r3, i3, h3, rfl, r30, r31, D3, O3⟩
  have C3 := (C2.alloc (by omega) _).below (O3.below hB (by simp; omega))
  have R3 := there_only (World.there_alloc R2 _) O3 (by simp; omega) (by omega)
  have P3 := P2.only O3 (by omega)
  have z3 := O3.size
  simp at z3
  have O03 := ((((Only.refl b w).alloc (Obj.cells #[.int .i64 0, .int .i64 0, .int .i64 0, .int .i64 0, .int .i64 0, .slice none 0 0, .slice none 0 0, .slice none 0 0, .slice none 0 0, .slice none 0 0, .slice none 0 0, .slice none 0 0, .slice none 0 0, .int .i64 0] 38)).trans O1).trans O2)
  have O04 := (O03.alloc _).trans O3
  have b3 := D3.blk
  clear R0 R1 R2 C1 C2 D1 D2 P2 O1 O2 O3 O03
  by_cases hr : r3 = 0
  · subst hr
    go_wp2_with fail
    refine (below_any B b a len cap i3 h3 20 _ hB hlen D3 C3 (by omega) (by omega)).mono ?_
    rintro e w4 ⟨r4, i4, h4, rfl, r40, r41, D4, O4⟩
    have C4 := C3.below (O4.below hB (by omega))
    have R4 := there_only R3 O4 (by omega) (by omega)
    have P4 := P3.only O4 (by omega)
    have O05 := O04.trans O4
    have z4 := O4.size
    have b4 := D4.blk
    clear D3 C3 R3 P3 O4 O04
    have P5 := P4.set2 (10 + r4)
    have D5 := D4.only ((Only.refl w2.heap.size w4).setCell (p := ⟨w2.heap.size, 2, none⟩) (Or.inl rfl) (.int .i64 (10 + r4))) (by omega)
    have C5 := C4.below ((Below.refl B w4).setCell (p := ⟨w2.heap.size, 2, none⟩) (by simp; omega) (.int .i64 (10 + r4)))
    have R5 := there_setCell R4 ⟨w2.heap.size, 2, none⟩ (.int .i64 (10 + r4))
    have O06 := O05.setCell (p := ⟨w2.heap.size, 2, none⟩) (Or.inr (by simp; omega)) (.int .i64 (10 + r4))
    obtain ⟨c0, c1, c2, c3, g0, g1, g2, g3, _⟩ := P4
    go_wp2_with fail
    refine (below_any B b a len cap i4 h4 6 _ hB hlen D5 C5 (by omega) (by omega)).mono ?_
    rintro e w6 ⟨r6, i6, h6, rfl, r60, r61, D6, O6⟩
    have z6 := O6.size
    simp at z6
    have C6 := C5.below (O6.below hB (by simp; omega))
    have R6 := there_only R5 O6 (by simp; omega) (by omega)
    have P6 := P5.only O6 (by omega)
    have O07 := O06.trans O6
    clear c0 c1 c2 c3 g0 g1 g2 g3 D4 C4 R4 O05 D5 C5 R5 P5 O06 O6
    have D7 := D6.only ((Only.refl w2.heap.size w6).setCell (p := ⟨w2.heap.size, 1, none⟩) (Or.inl rfl) (.int .i64 (3 + r6))) (by omega)
    have C7 := C6.below ((Below.refl B w6).setCell (p := ⟨w2.heap.size, 1, none⟩) (by simp; omega) (.int .i64 (3 + r6)))
    have R7 := there_setCell R6 ⟨w2.heap.size, 1, none⟩ (.int .i64 (3 + r6))
    have O08 := O07.setCell (p := ⟨w2.heap.size, 1, none⟩) (Or.inr (by simp; omega)) (.int .i64 (3 + r6))
    have b7 := D7.blk
    obtain ⟨c0, c1, c2, c3, g0, g1, g2, g3, _⟩ := P6
    clear D6 C6 R6 O07
    go_wp2_with fail
    have e1 : (2 + (q1 : Int)) = ((2 + q1 : Nat) : Int) := by omega
    have e2 : (1 + (q2 : Int)) = ((1 + q2 : Nat) : Int) := by omega
    rw [e1, e2]
    have hp : planB ((2 + q1 : Nat) : Int) (3 + r6) (10 + r4) ((1 + q2 : Nat) : Int) = true := (planB_iff _ _ _ _).2 ⟨by omega, by omega, by omega, by omega⟩
    clear e1 e2
    obtain ⟨xN, hxN⟩ : ∃ xN, xN = 2 + q1 := ⟨_, rfl⟩
    obtain ⟨uN, huN⟩ : ∃ uN, uN = 1 + q2 := ⟨_, rfl⟩
    rw [← hxN, ← huN] at hp ⊢
    clear hxN huN
    refine (specNewWorld_any xN uN (3 + r6) (10 + r4) _ hp).mono ?_
    rintro e w8 ⟨sg, sc, gb, nb, vb, hg, hc, rfl, b8⟩
    have R8 := there_below R7 b8 (by have := O08.size; (try simp only [World.size_setCell] at *); omega)
    have D8 := D7.below b8
    have C8 := C7.below (b8.mono (by have := O08.size; (try simp only [World.size_setCell] at *); omega))
    have O8 := O08.trans (Only.of_below b8)
    have z8 := O8.size
    have k8 := D8.blk
    clear b8
    have T9 := there_new w8 #[.int .i64 0, .int .i64 0, .int .i64 0, .int .i64 0, .int .i64 0, .slice none 0 0, .slice none 0 0, .slice none 0 0, .slice none 0 0, .slice none 0 0, .slice none 0 0, .slice none 0 0, .slice none 0 0, .int .i64 0] 38 14 (by decide)
    have G9 := World.rangeAt_setCells_same _ _ _ [.int .i64 xN, .int .i64 (3 + r6), .int .i64 (10 + r4), .int .i64 uN, .int .i64 0, .slice (some ⟨sg, 0, none⟩) xN sc, .slice (some ⟨gb, 0, none⟩) uN uN, .slice (some ⟨nb, 0, none⟩) 1 1, .slice (some ⟨vb, 0, none⟩) 1 1, .slice (some ⟨hg, 0, none⟩) xN hc, .slice none 0 0, .slice none 0 0, .slice none 0 0, .int .i64 0] T9
    have R9 : ((w8.alloc (Obj.cells #[.int .i64 0, .int .i64 0, .int .i64 0, .int .i64 0, .int .i64 0, .slice none 0 0, .slice none 0 0, .slice none 0 0, .slice none 0 0, .slice none 0 0, .slice none 0 0, .slice none 0 0, .slice none 0 0, .int .i64 0] 38)).setCells w8.heap.size 0 [.int .i64 xN, .int .i64 (3 + r6), .int .i64 (10 + r4), .int .i64 uN, .int .i64 0, .slice (some ⟨sg, 0, none⟩) xN sc, .slice (some ⟨gb, 0, none⟩) uN uN, .slice (some ⟨nb, 0, none⟩) 1 1, .slice (some ⟨vb, 0, none⟩) 1 1, .slice (some ⟨hg, 0, none⟩) xN hc, .slice none 0 0, .slice none 0 0, .slice none 0 0, .int .i64 0]).there w.heap.size 0 14 := World.there_setCells (World.there_alloc R8 _) _ _ _
    go_wp2_with (first | (refine wpList_store_mid rfl 38 (.tmp 4) (.tmp 27) rfl w8.heap.size 0 _ rfl rfl ?ht ?hi ?h1 ?_) | (refine wpList_load_mid rfl 38 (.tmp 4) rfl w8.heap.size 0 rfl [.int .i64 xN, .int .i64 (3 + r6), .int .i64 (10 + r4), .int .i64 uN, .int .i64 0, .slice (some ⟨sg, 0, none⟩) xN sc, .slice (some ⟨gb, 0, none⟩) uN uN, .slice (some ⟨nb, 0, none⟩) 1 1, .slice (some ⟨vb, 0, none⟩) 1 1, .slice (some ⟨hg, 0, none⟩) xN hc, .slice none 0 0, .slice none 0 0, .slice none 0 0, .int .i64 0] _ ?hc Try.underlying38 rfl infoWorld ?_) | (refine wpList_store_mid rfl 38 (.tmp 2) (.tmp 29) rfl w.heap.size 0 _ rfl rfl ?ht2 ?hi2 ?h12 ?_))
    case ht => exact T9
    case hc => exact G9
    case hi => exact infoWorld
    case h1 => simp [Value.oneCell']
    case ht2 => exact R9
    case hi2 => exact infoWorld
    case h12 => simp [Value.oneCell']
    have OA := ((Only.refl w8.heap.size w8).alloc (Obj.cells #[.int .i64 0, .int .i64 0, .int .i64 0, .int .i64 0, .int .i64 0, .slice none 0 0, .slice none 0 0, .slice none 0 0, .slice none 0 0, .slice none 0 0, .slice none 0 0, .slice none 0 0, .slice none 0 0, .int .i64 0] 38)).trans (only_setCells w8.heap.size [.int .i64 xN, .int .i64 (3 + r6), .int .i64 (10 + r4), .int .i64 uN, .int .i64 0, .slice (some ⟨sg, 0, none⟩) xN sc, .slice (some ⟨gb, 0, none⟩) uN uN, .slice (some ⟨nb, 0, none⟩) 1 1, .slice (some ⟨vb, 0, none⟩) 1 1, .slice (some ⟨hg, 0, none⟩) xN hc, .slice none 0 0, .slice none 0 0, .slice none 0 0, .int .i64 0] 0 _)
    have OB := only_setCells w.heap.size [.int .i64 xN, .int .i64 (3 + r6), .int .i64 (10 + r4), .int .i64 uN, .int .i64 0, .slice (some ⟨sg, 0, none⟩) xN sc, .slice (some ⟨gb, 0, none⟩) uN uN, .slice (some ⟨nb, 0, none⟩) 1 1, .slice (some ⟨vb, 0, none⟩) 1 1, .slice (some ⟨hg, 0, none⟩) xN hc, .slice none 0 0, .slice none 0 0, .slice none 0 0, .int .i64 0] 0 ((w8.alloc (Obj.cells #[.int .i64 0, .int .i64 0, .int .i64 0, .int .i64 0, .int .i64 0, .slice none 0 0, .slice none 0 0, .slice none 0 0, .slice none 0 0, .slice none 0 0, .slice none 0 0, .slice none 0 0, .slice none 0 0, .int .i64 0] 38)).setCells w8.heap.size 0 [.int .i64 xN, .int .i64 (3 + r6), .int .i64 (10 + r4), .int .i64 uN, .int .i64 0, .slice (some ⟨sg, 0, none⟩) xN sc, .slice (some ⟨gb, 0, none⟩) uN uN, .slice (some ⟨nb, 0, none⟩) 1 1, .slice (some ⟨vb, 0, none⟩) 1 1, .slice (some ⟨hg, 0, none⟩) xN hc, .slice none 0 0, .slice none 0 0, .slice none 0 0, .int .i64 0])
    refine bodyPost_ret (v := .agg [.int .i64 xN, .int .i64 (3 + r6), .int .i64 (10 + r4), .int .i64 uN, .int .i64 0, .slice (some ⟨sg, 0, none⟩) xN sc, .slice (some ⟨gb, 0, none⟩) uN uN, .slice (some ⟨nb, 0, none⟩) 1 1, .slice (some ⟨vb, 0, none⟩) 1 1, .slice (some ⟨hg, 0, none⟩) xN hc, .slice none 0 0, .slice none 0 0, .slice none 0 0, .int .i64 0].toArray) ?_ rfl ⟨xN, uN, sg, sc, gb, nb, vb, hg, hc, (3 + r6), (10 + r4), i6, h6, rfl, hp, ?_, ?_, ?_⟩
    · exact results_row Try.results6 _ _ w.heap.size 0 rfl [.int .i64 xN, .int .i64 (3 + r6), .int .i64 (10 + r4), .int .i64 uN, .int .i64 0, .slice (some ⟨sg, 0, none⟩) xN sc, .slice (some ⟨gb, 0, none⟩) uN uN, .slice (some ⟨nb, 0, none⟩) 1 1, .slice (some ⟨vb, 0, none⟩) 1 1, .slice (some ⟨hg, 0, none⟩) xN hc, .slice none 0 0, .slice none 0 0, .slice none 0 0, .int .i64 0] _ (World.rangeAt_setCells_same _ _ _ _ R9) Try.underlying38 rfl infoWorld
    · exact (D8.only OA (by omega)).only OB (by omega)
    · exact (C8.below (OA.below (B := B) (by omega) (by omega))).below (OB.below (B := B) (by omega) (by have := OA.size; omega))
    · exact only_two O8 OA (by omega) OB (Nat.le_refl _)
  · have hr' : (r3 == 0) = false := by simpa using hr
    have P3' := P3
    obtain ⟨c0, c1, c2, c3, g0, g1, g2, g3, _⟩ := P3'
    go_wp2_with fail
    have e1 : (2 + (q1 : Int)) = ((2 + q1 : Nat) : Int) := by omega
    have e2 : (1 + (q2 : Int)) = ((1 + q2 : Nat) : Int) := by omega
    rw [e1, e2]
    have hp : planB ((2 + q1 : Nat) : Int) 30 200 ((1 + q2 : Nat) : Int) = true := (planB_iff _ _ _ _).2 ⟨by omega, by omega, by omega, by omega⟩
    clear e1 e2
    obtain ⟨xN, hxN⟩ : ∃ xN, xN = 2 + q1 := ⟨_, rfl⟩
    obtain ⟨uN, huN⟩ : ∃ uN, uN = 1 + q2 := ⟨_, rfl⟩
    rw [← hxN, ← huN] at hp ⊢
    clear hxN huN
    refine (specNewWorld_any xN uN 30 200 _ hp).mono ?_
    rintro e w8 ⟨sg, sc, gb, nb, vb, hg, hc, rfl, b8⟩
    have R8 := there_below R3 b8 (by have := O04.size; (try simp only [World.size_setCell] at *); omega)
    have D8 := D3.below b8
    have C8 := C3.below (b8.mono (by have := O04.size; (try simp only [World.size_setCell] at *); omega))
    have O8 := O04.trans (Only.of_below b8)
    have z8 := O8.size
    have k8 := D8.blk
    clear b8
    have T9 := there_new w8 #[.int .i64 0, .int .i64 0, .int .i64 0, .int .i64 0, .int .i64 0, .slice none 0 0, .slice none 0 0, .slice none 0 0, .slice none 0 0, .slice none 0 0, .slice none 0 0, .slice none 0 0, .slice none 0 0, .int .i64 0] 38 14 (by decide)
    have G9 := World.rangeAt_setCells_same _ _ _ [.int .i64 xN, .int .i64 30, .int .i64 200, .int .i64 uN, .int .i64 0, .slice (some ⟨sg, 0, none⟩) xN sc, .slice (some ⟨gb, 0, none⟩) uN uN, .slice (some ⟨nb, 0, none⟩) 1 1, .slice (some ⟨vb, 0, none⟩) 1 1, .slice (some ⟨hg, 0, none⟩) xN hc, .slice none 0 0, .slice none 0 0, .slice none 0 0, .int .i64 0] T9
    have R9 : ((w8.alloc (Obj.cells #[.int .i64 0, .int .i64 0, .int .i64 0, .int .i64 0, .int .i64 0, .slice none 0 0, .slice none 0 0, .slice none 0 0, .slice none 0 0, .slice none 0 0, .slice none 0 0, .slice none 0 0, .slice none 0 0, .int .i64 0] 38)).setCells w8.heap.size 0 [.int .i64 xN, .int .i64 30, .int .i64 200, .int .i64 uN, .int .i64 0, .slice (some ⟨sg, 0, none⟩) xN sc, .slice (some ⟨gb, 0, none⟩) uN uN, .slice (some ⟨nb, 0, none⟩) 1 1, .slice (some ⟨vb, 0, none⟩) 1 1, .slice (some ⟨hg, 0, none⟩) xN hc, .slice none 0 0, .slice none 0 0, .slice none 0 0, .int .i64 0]).there w.heap.size 0 14 := World.there_setCells (World.there_alloc R8 _) _ _ _
    go_wp2_with (first | (refine wpList_store_mid rfl 38 (.tmp 4) (.tmp 27) rfl w8.heap.size 0 _ rfl rfl ?ht ?hi ?h1 ?_) | (refine wpList_load_mid rfl 38 (.tmp 4) rfl w8.heap.size 0 rfl [.int .i64 xN, .int .i64 30, .int .i64 200, .int .i64 uN, .int .i64 0, .slice (some ⟨sg, 0, none⟩) xN sc, .slice (some ⟨gb, 0, none⟩) uN uN, .slice (some ⟨nb, 0, none⟩) 1 1, .slice (some ⟨vb, 0, none⟩) 1 1, .slice (some ⟨hg, 0, none⟩) xN hc, .slice none 0 0, .slice none 0 0, .slice none 0 0, .int .i64 0] _ ?hc Try.underlying38 rfl infoWorld ?_) | (refine wpList_store_mid rfl 38 (.tmp 2) (.tmp 29) rfl w.heap.size 0 _ rfl rfl ?ht2 ?hi2 ?h12 ?_))
    case ht => exact T9
    case hc => exact G9
    case hi => exact infoWorld
    case h1 => simp [Value.oneCell']
    case ht2 => exact R9
    case hi2 => exact infoWorld
    case h12 => simp [Value.oneCell']
    have OA := ((Only.refl w8.heap.size w8).alloc (Obj.cells #[.int .i64 0, .int .i64 0, .int .i64 0, .int .i64 0, .int .i64 0, .slice none 0 0, .slice none 0 0, .slice none 0 0, .slice none 0 0, .slice none 0 0, .slice none 0 0, .slice none 0 0, .slice none 0 0, .int .i64 0] 38)).trans (only_setCells w8.heap.size [.int .i64 xN, .int .i64 30, .int .i64 200, .int .i64 uN, .int .i64 0, .slice (some ⟨sg, 0, none⟩) xN sc, .slice (some ⟨gb, 0, none⟩) uN uN, .slice (some ⟨nb, 0, none⟩) 1 1, .slice (some ⟨vb, 0, none⟩) 1 1, .slice (some ⟨hg, 0, none⟩) xN hc, .slice none 0 0, .slice none 0 0, .slice none 0 0, .int .i64 0] 0 _)
    have OB := only_setCells w.heap.size [.int .i64 xN, .int .i64 30, .int .i64 200, .int .i64 uN, .int .i64 0, .slice (some ⟨sg, 0, none⟩) xN sc, .slice (some ⟨gb, 0, none⟩) uN uN, .slice (some ⟨nb, 0, none⟩) 1 1, .slice (some ⟨vb, 0, none⟩) 1 1, .slice (some ⟨hg, 0, none⟩) xN hc, .slice none 0 0, .slice none 0 0, .slice none 0 0, .int .i64 0] 0 ((w8.alloc (Obj.cells #[.int .i64 0, .int .i64 0, .int .i64 0, .int .i64 0, .int .i64 0, .slice none 0 0, .slice none 0 0, .slice none 0 0, .slice none 0 0, .slice none 0 0, .slice none 0 0, .slice none 0 0, .slice none 0 0, .int .i64 0] 38)).setCells w8.heap.size 0 [.int .i64 xN, .int .i64 30, .int .i64 200, .int .i64 uN, .int .i64 0, .slice (some ⟨sg, 0, none⟩) xN sc, .slice (some ⟨gb, 0, none⟩) uN uN, .slice (some ⟨nb, 0, none⟩) 1 1, .slice (some ⟨vb, 0, none⟩) 1 1, .slice (some ⟨hg, 0, none⟩) xN hc, .slice none 0 0, .slice none 0 0, .slice none 0 0, .int .i64 0])
    refine bodyPost_ret (v := .agg [.int .i64 xN, .int .i64 30, .int .i64 200, .int .i64 uN, .int .i64 0, .slice (some ⟨sg, 0, none⟩) xN sc, .slice (some ⟨gb, 0, none⟩) uN uN, .slice (some ⟨nb, 0, none⟩) 1 1, .slice (some ⟨vb, 0, none⟩) 1 1, .slice (some ⟨hg, 0, none⟩) xN hc, .slice none 0 0, .slice none 0 0, .slice none 0 0, .int .i64 0].toArray) ?_ rfl ⟨xN, uN, sg, sc, gb, nb, vb, hg, hc, 30, 200, i3, h3, rfl, hp, ?_, ?_, ?_⟩
    · exact results_row Try.results6 _ _ w.heap.size 0 rfl [.int .i64 xN, .int .i64 30, .int .i64 200, .int .i64 uN, .int .i64 0, .slice (some ⟨sg, 0, none⟩) xN sc, .slice (some ⟨gb, 0, none⟩) uN uN, .slice (some ⟨nb, 0, none⟩) 1 1, .slice (some ⟨vb, 0, none⟩) 1 1, .slice (some ⟨hg, 0, none⟩) xN hc, .slice none 0 0, .slice none 0 0, .slice none 0 0, .int .i64 0] _ (World.rangeAt_setCells_same _ _ _ _ R9) Try.underlying38 rfl infoWorld
    · exact (D8.only OA (by omega)).only OB (by omega)
    · exact (C8.below (OA.below (B := B) (by omega) (by omega))).below (OB.below (B := B) (by omega) (by have := OA.size; omega))
    · exact only_two O8 OA (by omega) OB (Nat.le_refl _)

end Go.Proofs.Ytpehbhembfopeaa
