/-
  Hands that came in as arguments, opened.
-/
import Derived.Test.YtcgjkodpmloccaaHands
namespace Go.Proofs.Ytcgjkodpmloccaa
open Go.ChangeShapes Go.WideShapes Go.ChangeAt Go.RowKit
set_option linter.unusedVariables false

theorem list22 {α : Type} {l : List α} (h : l.length = 22) : ∃ c0 c1 c2 c3 c4 c5 c6 c7 c8 c9 c10 c11 c12 c13 c14 c15 c16 c17 c18 c19 c20 c21, l = [c0, c1, c2, c3, c4, c5, c6, c7, c8, c9, c10, c11, c12, c13, c14, c15, c16, c17, c18, c19, c20, c21] := by
  match l, h with
  | [c0, c1, c2, c3, c4, c5, c6, c7, c8, c9, c10, c11, c12, c13, c14, c15, c16, c17, c18, c19, c20, c21], _ => exact ⟨c0, c1, c2, c3, c4, c5, c6, c7, c8, c9, c10, c11, c12, c13, c14, c15, c16, c17, c18, c19, c20, c21, rfl⟩

set_option maxRecDepth 100000 in
set_option maxHeartbeats 1000000 in
/-- A Hand that came in: so many numbers, each an int64. -/
theorem open_hand {H : Type} {enc : TypeId × Value → H} {W : World} {r : Reach} {b0 base : Nat} {spare : Nat → Bool} {held : Bool} {v : Value} {d : DataW H} {p : List MemPlace} (hv : Value.okWide Try.prog W r b0 36 v) (h : DataW.Trod enc Try.prog W base spare held 36 v d p) :
    ∃ h : Hd, v = .agg (hdC h).toArray := by
  obtain ⟨cs, rfl, hsz⟩ := okWide_struct Try.underlying36 hv
  obtain ⟨fuel, hf⟩ := h
  have hcs : (Value.agg cs).cells.toList = cs.toList := rfl
  rw [hcs] at hf
  obtain ⟨xs, m, _, _, hl, hlen, hg⟩ := DataW.trod_struct Try.underlying36 hf
  obtain ⟨c0, c1, c2, c3, c4, c5, c6, c7, c8, c9, c10, c11, c12, c13, c14, c15, c16, c17, c18, c19, c20, c21, hc⟩ := list22 (hl.trans (show Try.prog.cellsOf 36 = 22 by kernel_rfl))
  have hx : xs.length = 22 := hlen
  rw [hc] at hg
  have g0 := hg 0 _ rfl
  rw [List.getElem?_eq_getElem (by omega)] at g0
  have k0 : DataW.trod enc Try.prog W base spare held m 2 [c0] = some xs[0] := g0
  obtain ⟨v0, d0, _⟩ := DataW.trod_int Try.underlying2 k0
  obtain rfl : c0 = .int .i64 v0 := by simpa using d0
  clear g0 k0 d0
  have g1 := hg 1 _ rfl
  rw [List.getElem?_eq_getElem (by omega)] at g1
  have k1 : DataW.trod enc Try.prog W base spare held m 2 [c1] = some xs[1] := g1
  obtain ⟨v1, d1, _⟩ := DataW.trod_int Try.underlying2 k1
  obtain rfl : c1 = .int .i64 v1 := by simpa using d1
  clear g1 k1 d1
  have g2 := hg 2 _ rfl
  rw [List.getElem?_eq_getElem (by omega)] at g2
  have k2 : DataW.trod enc Try.prog W base spare held m 2 [c2] = some xs[2] := g2
  obtain ⟨v2, d2, _⟩ := DataW.trod_int Try.underlying2 k2
  obtain rfl : c2 = .int .i64 v2 := by simpa using d2
  clear g2 k2 d2
  have g3 := hg 3 _ rfl
  rw [List.getElem?_eq_getElem (by omega)] at g3
  have k3 : DataW.trod enc Try.prog W base spare held m 2 [c3] = some xs[3] := g3
  obtain ⟨v3, d3, _⟩ := DataW.trod_int Try.underlying2 k3
  obtain rfl : c3 = .int .i64 v3 := by simpa using d3
  clear g3 k3 d3
  have g4 := hg 4 _ rfl
  rw [List.getElem?_eq_getElem (by omega)] at g4
  have k4 : DataW.trod enc Try.prog W base spare held m 2 [c4] = some xs[4] := g4
  obtain ⟨v4, d4, _⟩ := DataW.trod_int Try.underlying2 k4
  obtain rfl : c4 = .int .i64 v4 := by simpa using d4
  clear g4 k4 d4
  have g5 := hg 5 _ rfl
  rw [List.getElem?_eq_getElem (by omega)] at g5
  have k5 : DataW.trod enc Try.prog W base spare held m 2 [c5] = some xs[5] := g5
  obtain ⟨v5, d5, _⟩ := DataW.trod_int Try.underlying2 k5
  obtain rfl : c5 = .int .i64 v5 := by simpa using d5
  clear g5 k5 d5
  have g6 := hg 6 _ rfl
  rw [List.getElem?_eq_getElem (by omega)] at g6
  have k6 : DataW.trod enc Try.prog W base spare held m 2 [c6] = some xs[6] := g6
  obtain ⟨v6, d6, _⟩ := DataW.trod_int Try.underlying2 k6
  obtain rfl : c6 = .int .i64 v6 := by simpa using d6
  clear g6 k6 d6
  have g7 := hg 7 _ rfl
  rw [List.getElem?_eq_getElem (by omega)] at g7
  have k7 : DataW.trod enc Try.prog W base spare held m 2 [c7] = some xs[7] := g7
  obtain ⟨v7, d7, _⟩ := DataW.trod_int Try.underlying2 k7
  obtain rfl : c7 = .int .i64 v7 := by simpa using d7
  clear g7 k7 d7
  have g8 := hg 8 _ rfl
  rw [List.getElem?_eq_getElem (by omega)] at g8
  have k8 : DataW.trod enc Try.prog W base spare held m 2 [c8] = some xs[8] := g8
  obtain ⟨v8, d8, _⟩ := DataW.trod_int Try.underlying2 k8
  obtain rfl : c8 = .int .i64 v8 := by simpa using d8
  clear g8 k8 d8
  have g9 := hg 9 _ rfl
  rw [List.getElem?_eq_getElem (by omega)] at g9
  have k9 : DataW.trod enc Try.prog W base spare held m 2 [c9] = some xs[9] := g9
  obtain ⟨v9, d9, _⟩ := DataW.trod_int Try.underlying2 k9
  obtain rfl : c9 = .int .i64 v9 := by simpa using d9
  clear g9 k9 d9
  have g10 := hg 10 _ rfl
  rw [List.getElem?_eq_getElem (by omega)] at g10
  have k10 : DataW.trod enc Try.prog W base spare held m 2 [c10] = some xs[10] := g10
  obtain ⟨v10, d10, _⟩ := DataW.trod_int Try.underlying2 k10
  obtain rfl : c10 = .int .i64 v10 := by simpa using d10
  clear g10 k10 d10
  have g11 := hg 11 _ rfl
  rw [List.getElem?_eq_getElem (by omega)] at g11
  have k11 : DataW.trod enc Try.prog W base spare held m 2 [c11] = some xs[11] := g11
  obtain ⟨v11, d11, _⟩ := DataW.trod_int Try.underlying2 k11
  obtain rfl : c11 = .int .i64 v11 := by simpa using d11
  clear g11 k11 d11
  have g12 := hg 12 _ rfl
  rw [List.getElem?_eq_getElem (by omega)] at g12
  have k12 : DataW.trod enc Try.prog W base spare held m 2 [c12] = some xs[12] := g12
  obtain ⟨v12, d12, _⟩ := DataW.trod_int Try.underlying2 k12
  obtain rfl : c12 = .int .i64 v12 := by simpa using d12
  clear g12 k12 d12
  have g13 := hg 13 _ rfl
  rw [List.getElem?_eq_getElem (by omega)] at g13
  have k13 : DataW.trod enc Try.prog W base spare held m 2 [c13] = some xs[13] := g13
  obtain ⟨v13, d13, _⟩ := DataW.trod_int Try.underlying2 k13
  obtain rfl : c13 = .int .i64 v13 := by simpa using d13
  clear g13 k13 d13
  have g14 := hg 14 _ rfl
  rw [List.getElem?_eq_getElem (by omega)] at g14
  have k14 : DataW.trod enc Try.prog W base spare held m 2 [c14] = some xs[14] := g14
  obtain ⟨v14, d14, _⟩ := DataW.trod_int Try.underlying2 k14
  obtain rfl : c14 = .int .i64 v14 := by simpa using d14
  clear g14 k14 d14
  have g15 := hg 15 _ rfl
  rw [List.getElem?_eq_getElem (by omega)] at g15
  have k15 : DataW.trod enc Try.prog W base spare held m 2 [c15] = some xs[15] := g15
  obtain ⟨v15, d15, _⟩ := DataW.trod_int Try.underlying2 k15
  obtain rfl : c15 = .int .i64 v15 := by simpa using d15
  clear g15 k15 d15
  have g16 := hg 16 _ rfl
  rw [List.getElem?_eq_getElem (by omega)] at g16
  have k16 : DataW.trod enc Try.prog W base spare held m 2 [c16] = some xs[16] := g16
  obtain ⟨v16, d16, _⟩ := DataW.trod_int Try.underlying2 k16
  obtain rfl : c16 = .int .i64 v16 := by simpa using d16
  clear g16 k16 d16
  have g17 := hg 17 _ rfl
  rw [List.getElem?_eq_getElem (by omega)] at g17
  have k17 : DataW.trod enc Try.prog W base spare held m 2 [c17] = some xs[17] := g17
  obtain ⟨v17, d17, _⟩ := DataW.trod_int Try.underlying2 k17
  obtain rfl : c17 = .int .i64 v17 := by simpa using d17
  clear g17 k17 d17
  have g18 := hg 18 _ rfl
  rw [List.getElem?_eq_getElem (by omega)] at g18
  have k18 : DataW.trod enc Try.prog W base spare held m 2 [c18] = some xs[18] := g18
  obtain ⟨v18, d18, _⟩ := DataW.trod_int Try.underlying2 k18
  obtain rfl : c18 = .int .i64 v18 := by simpa using d18
  clear g18 k18 d18
  have g19 := hg 19 _ rfl
  rw [List.getElem?_eq_getElem (by omega)] at g19
  have k19 : DataW.trod enc Try.prog W base spare held m 2 [c19] = some xs[19] := g19
  obtain ⟨v19, d19, _⟩ := DataW.trod_int Try.underlying2 k19
  obtain rfl : c19 = .int .i64 v19 := by simpa using d19
  clear g19 k19 d19
  have g20 := hg 20 _ rfl
  rw [List.getElem?_eq_getElem (by omega)] at g20
  have k20 : DataW.trod enc Try.prog W base spare held m 2 [c20] = some xs[20] := g20
  obtain ⟨v20, d20, _⟩ := DataW.trod_int Try.underlying2 k20
  obtain rfl : c20 = .int .i64 v20 := by simpa using d20
  clear g20 k20 d20
  have g21 := hg 21 _ rfl
  rw [List.getElem?_eq_getElem (by omega)] at g21
  have k21 : DataW.trod enc Try.prog W base spare held m 2 [c21] = some xs[21] := g21
  obtain ⟨v21, d21, _⟩ := DataW.trod_int Try.underlying2 k21
  obtain rfl : c21 = .int .i64 v21 := by simpa using d21
  clear g21 k21 d21
  refine ⟨⟨v0, v1, v2, v3, v4, v5, v6, v7, v8, v9, v10, v11, v12, v13, v14, v15, v16, v17, v18, v19, v20, v21⟩, ?_⟩
  congr 1
  apply Array.toList_inj.1
  rw [hc]
  rfl

end Go.Proofs.Ytcgjkodpmloccaa
