/-
  How much room is left in an arena: RoomIn of the model and of the program (chapter 8), as contracts. For every plan, and every arena of at most 1048576 elements.
-/
import Derived.Test.YtknncnaikeinbaaSpecArena
import Derived.Test.YtknncnaikeinbaaSpecVersion
import Derived.Test.YtknncnaikeinbaaImplArena
import Derived.Deep.Cut
namespace Go.Proofs.Ytknncnaikeinbaa
open Go.ChangeShapes Go.WideShapes Go.ChangeAt Go.RowKit
set_option linter.unusedVariables false
set_option linter.unusedSimpArgs false
attribute [local go_sem ↓] Go.wp_at_zero Go.wp_at_succ

def roomN (x y z u : Int) (A : Ar) : Int := if arenaB x y z u A = true then y - A.nodes.length else -1
def roomV (x y z u : Int) (A : Ar) : Int := if arenaB x y z u A = true then z - A.vers.length else -1
theorem room_small {x y z u : Int} {A : Ar} (h : arenaB x y z u A = true) : 1 ≤ y ∧ y ≤ 60 ∧ 1 ≤ z ∧ z ≤ 400 := by
  obtain ⟨h1, -⟩ := arenaB_parts h
  simp only [headB, planB, Bool.and_eq_true, inB_iff, beq_iff_eq] at h1
  omega

set_option maxRecDepth 100000 in
set_option maxHeartbeats 2000000 in
theorem specRoomIn_any (B : Nat) (A : Ar) (x y z u : Int) (a0 a1 a2 a3 : Option Addr) (c0 c1 c2 c3 : Nat) (w : World) (hB : B ≤ w.heap.size) (hA : A.size ≤ 1048576) (I : ArenaIs B w (.slice a0 A.slots.length c0) (.slice a1 A.guides.length c1) (.slice a2 A.nodes.length c2) (.slice a3 A.vers.length c3) A) :
    Calls Try.prog 5 #[.agg #[.int .i64 x, .int .i64 y, .int .i64 z, .int .i64 u], .agg #[.int .i64 A.camera, .slice a0 A.slots.length c0, .slice a1 A.guides.length c1, .slice a2 A.nodes.length c2, .slice a3 A.vers.length c3]] w fun e w' => e = .returned (.tuple #[.int .i64 (roomN x y z u A), .int .i64 (roomV x y z u A)]) ∧ Below w.heap.size w w' := by
  have hA' := hA
  unfold Ar.size at hA
  have P0 := World.rangeAt_alloc (rangeAt_new w [.int .i64 x, .int .i64 y, .int .i64 z, .int .i64 u] 32) (.cells #[.int .i64 A.camera, .slice a0 A.slots.length c0, .slice a1 A.guides.length c1, .slice a2 A.nodes.length c2, .slice a3 A.vers.length c3] 37)
  have X0 := rangeAt_new (w.alloc (.cells #[.int .i64 x, .int .i64 y, .int .i64 z, .int .i64 u] 32)) [.int .i64 A.camera, .slice a0 A.slots.length c0, .slice a1 A.guides.length c1, .slice a2 A.nodes.length c2, .slice a3 A.vers.length c3] 37
  have K0 := ((Below.refl w.heap.size w).alloc (Nat.le_refl _) (.cells #[.int .i64 x, .int .i64 y, .int .i64 z, .int .i64 u] 32)).alloc (by simp) (.cells #[.int .i64 A.camera, .slice a0 A.slots.length c0, .slice a1 A.guides.length c1, .slice a2 A.nodes.length c2, .slice a3 A.vers.length c3] 37)
  have hz0 : w.heap.size + 1 < ((w.alloc (.cells #[.int .i64 x, .int .i64 y, .int .i64 z, .int .i64 u] 32)).alloc (.cells #[.int .i64 A.camera, .slice a0 A.slots.length c0, .slice a1 A.guides.length c1, .slice a2 A.nodes.length c2, .slice a3 A.vers.length c3] 37)).heap.size := by simp
  simp only [World.size_alloc] at X0
  have I0 := I.below (K0.mono hB)
  go_enter Try.func5, Try.ntmps5
  go_upto_region 1 with fail
  generalize hw0 : (w.alloc (.cells #[.int .i64 x, .int .i64 y, .int .i64 z, .int .i64 u] 32)).alloc (.cells #[.int .i64 A.camera, .slice a0 A.slots.length c0, .slice a1 A.guides.length c1, .slice a2 A.nodes.length c2, .slice a3 A.vers.length c3] 37) = w0 at *
  clear hw0 I
  obtain ⟨x0, x1, x2, x3, x4⟩ := row5 X0
  obtain ⟨p0, p1, p2, p3⟩ : w0.cell? ⟨w.heap.size, 0, none⟩ = some (.int .i64 x) ∧ w0.cell? ⟨w.heap.size, 1, none⟩ = some (.int .i64 y) ∧ w0.cell? ⟨w.heap.size, 2, none⟩ = some (.int .i64 z) ∧ w0.cell? ⟨w.heap.size, 3, none⟩ = some (.int .i64 u) := ⟨by simpa using P0 0 _ rfl, by simpa using P0 1 _ rfl, by simpa using P0 2 _ rfl, by simpa using P0 3 _ rfl⟩
  go_wp2_with fail
  refine (specArenaOk_any B A x y z u a0 a1 a2 a3 c0 c1 c2 c3 w0 (Nat.le_trans hB K0.size) hA' I0).mono ?_
  rintro e w1 ⟨rfl, b1⟩
  have P1 := rangeAt_below P0 b1 (by omega)
  have X1 := rangeAt_below X0 b1 (by omega)
  have K1 := K0.trans (b1.mono (by omega))
  clear x0 x1 x2 x3 x4 p0 p1 p2 p3 P0 X0 K0 I0 b1
  cases ea : arenaB x y z u A
  case false =>
    have hq : Hid (roomN x y z u A = -1 ∧ roomV x y z u A = -1) := ⟨by rw [roomN, if_neg (by rw [ea]; decide)], by rw [roomV, if_neg (by rw [ea]; decide)]⟩
    go_wp2
    go_ret2
    exact ⟨by rw [hq.out.1, hq.out.2]; rfl, K1⟩
  case true =>
    have hq : Hid (roomN x y z u A = y - A.nodes.length ∧ roomV x y z u A = z - A.vers.length) := ⟨by rw [roomN, if_pos ea], by rw [roomV, if_pos ea]⟩
    obtain ⟨s0, s1, s2, s3⟩ := room_small ea
    have wr1 : IntKind.i64.wrap (y - (A.nodes.length : Int)) = y - (A.nodes.length : Int) := IntWalk.i64_in _ (by omega)
    have wr2 : IntKind.i64.wrap (z - (A.vers.length : Int)) = z - (A.vers.length : Int) := IntWalk.i64_in _ (by omega)
    obtain ⟨x0, x1, x2, x3, x4⟩ := row5 X1
    obtain ⟨p0, p1, p2, p3⟩ : w1.cell? ⟨w.heap.size, 0, none⟩ = some (.int .i64 x) ∧ w1.cell? ⟨w.heap.size, 1, none⟩ = some (.int .i64 y) ∧ w1.cell? ⟨w.heap.size, 2, none⟩ = some (.int .i64 z) ∧ w1.cell? ⟨w.heap.size, 3, none⟩ = some (.int .i64 u) := ⟨by simpa using P1 0 _ rfl, by simpa using P1 1 _ rfl, by simpa using P1 2 _ rfl, by simpa using P1 3 _ rfl⟩
    clear ea
    go_wp2_with fail
    go_quiet (fail)
    have K2 : Below w.heap.size w (w1.drewN nq) := ⟨K1.os, K1.tape, K1.output, K1.size, K1.block⟩
    go_wp2
    go_ret2
    exact ⟨by rw [hq.out.1, hq.out.2]; rfl, K2⟩

set_option maxRecDepth 100000 in
set_option maxHeartbeats 2000000 in
theorem roomIn_any (B : Nat) (A : Ar) (x y z u : Int) (a0 a1 a2 a3 : Option Addr) (c0 c1 c2 c3 : Nat) (w : World) (hB : B ≤ w.heap.size) (hA : A.size ≤ 1048576) (I : ArenaIs B w (.slice a0 A.slots.length c0) (.slice a1 A.guides.length c1) (.slice a2 A.nodes.length c2) (.slice a3 A.vers.length c3) A) :
    Calls Try.prog 8 #[.agg #[.int .i64 x, .int .i64 y, .int .i64 z, .int .i64 u], .agg #[.int .i64 A.camera, .slice a0 A.slots.length c0, .slice a1 A.guides.length c1, .slice a2 A.nodes.length c2, .slice a3 A.vers.length c3]] w fun e w' => e = .returned (.tuple #[.int .i64 (roomN x y z u A), .int .i64 (roomV x y z u A)]) ∧ Below w.heap.size w w' := by
  have hA' := hA
  unfold Ar.size at hA
  have P0 := World.rangeAt_alloc (rangeAt_new w [.int .i64 x, .int .i64 y, .int .i64 z, .int .i64 u] 32) (.cells #[.int .i64 A.camera, .slice a0 A.slots.length c0, .slice a1 A.guides.length c1, .slice a2 A.nodes.length c2, .slice a3 A.vers.length c3] 37)
  have X0 := rangeAt_new (w.alloc (.cells #[.int .i64 x, .int .i64 y, .int .i64 z, .int .i64 u] 32)) [.int .i64 A.camera, .slice a0 A.slots.length c0, .slice a1 A.guides.length c1, .slice a2 A.nodes.length c2, .slice a3 A.vers.length c3] 37
  have K0 := ((Below.refl w.heap.size w).alloc (Nat.le_refl _) (.cells #[.int .i64 x, .int .i64 y, .int .i64 z, .int .i64 u] 32)).alloc (by simp) (.cells #[.int .i64 A.camera, .slice a0 A.slots.length c0, .slice a1 A.guides.length c1, .slice a2 A.nodes.length c2, .slice a3 A.vers.length c3] 37)
  have hz0 : w.heap.size + 1 < ((w.alloc (.cells #[.int .i64 x, .int .i64 y, .int .i64 z, .int .i64 u] 32)).alloc (.cells #[.int .i64 A.camera, .slice a0 A.slots.length c0, .slice a1 A.guides.length c1, .slice a2 A.nodes.length c2, .slice a3 A.vers.length c3] 37)).heap.size := by simp
  simp only [World.size_alloc] at X0
  have I0 := I.below (K0.mono hB)
  go_enter Try.func8, Try.ntmps8
  go_upto_region 1 with fail
  generalize hw0 : (w.alloc (.cells #[.int .i64 x, .int .i64 y, .int .i64 z, .int .i64 u] 32)).alloc (.cells #[.int .i64 A.camera, .slice a0 A.slots.length c0, .slice a1 A.guides.length c1, .slice a2 A.nodes.length c2, .slice a3 A.vers.length c3] 37) = w0 at *
  clear hw0 I
  obtain ⟨x0, x1, x2, x3, x4⟩ := row5 X0
  obtain ⟨p0, p1, p2, p3⟩ : w0.cell? ⟨w.heap.size, 0, none⟩ = some (.int .i64 x) ∧ w0.cell? ⟨w.heap.size, 1, none⟩ = some (.int .i64 y) ∧ w0.cell? ⟨w.heap.size, 2, none⟩ = some (.int .i64 z) ∧ w0.cell? ⟨w.heap.size, 3, none⟩ = some (.int .i64 u) := ⟨by simpa using P0 0 _ rfl, by simpa using P0 1 _ rfl, by simpa using P0 2 _ rfl, by simpa using P0 3 _ rfl⟩
  go_wp2_with fail
  refine (arenaOk_any B A x y z u a0 a1 a2 a3 c0 c1 c2 c3 w0 (Nat.le_trans hB K0.size) hA' I0).mono ?_
  rintro e w1 ⟨rfl, b1⟩
  have P1 := rangeAt_below P0 b1 (by omega)
  have X1 := rangeAt_below X0 b1 (by omega)
  have K1 := K0.trans (b1.mono (by omega))
  clear x0 x1 x2 x3 x4 p0 p1 p2 p3 P0 X0 K0 I0 b1
  cases ea : arenaB x y z u A
  case false =>
    have hq : Hid (roomN x y z u A = -1 ∧ roomV x y z u A = -1) := ⟨by rw [roomN, if_neg (by rw [ea]; decide)], by rw [roomV, if_neg (by rw [ea]; decide)]⟩
    go_wp2
    go_ret2
    exact ⟨by rw [hq.out.1, hq.out.2]; rfl, K1⟩
  case true =>
    have hq : Hid (roomN x y z u A = y - A.nodes.length ∧ roomV x y z u A = z - A.vers.length) := ⟨by rw [roomN, if_pos ea], by rw [roomV, if_pos ea]⟩
    obtain ⟨s0, s1, s2, s3⟩ := room_small ea
    have wr1 : IntKind.i64.wrap (y - (A.nodes.length : Int)) = y - (A.nodes.length : Int) := IntWalk.i64_in _ (by omega)
    have wr2 : IntKind.i64.wrap (z - (A.vers.length : Int)) = z - (A.vers.length : Int) := IntWalk.i64_in _ (by omega)
    obtain ⟨x0, x1, x2, x3, x4⟩ := row5 X1
    obtain ⟨p0, p1, p2, p3⟩ : w1.cell? ⟨w.heap.size, 0, none⟩ = some (.int .i64 x) ∧ w1.cell? ⟨w.heap.size, 1, none⟩ = some (.int .i64 y) ∧ w1.cell? ⟨w.heap.size, 2, none⟩ = some (.int .i64 z) ∧ w1.cell? ⟨w.heap.size, 3, none⟩ = some (.int .i64 u) := ⟨by simpa using P1 0 _ rfl, by simpa using P1 1 _ rfl, by simpa using P1 2 _ rfl, by simpa using P1 3 _ rfl⟩
    clear ea
    go_wp2_with fail
    go_quiet (fail)
    have K2 : Below w.heap.size w (w1.drewN nq) := ⟨K1.os, K1.tape, K1.output, K1.size, K1.block⟩
    go_wp2
    go_ret2
    exact ⟨by rw [hq.out.1, hq.out.2]; rfl, K2⟩

end Go.Proofs.Ytknncnaikeinbaa
