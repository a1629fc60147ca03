/-
  The laws' own sizes and comparisons of arenas, as contracts: what is the same is told to be the same, and the comparison writes nothing. For every arena of at most 1048576 elements.
-/
import Derived.Test.YtknncnaikeinbaaArena
namespace Go.Proofs.Ytknncnaikeinbaa
open Go.ChangeShapes Go.WideShapes Go.ChangeAt Go.RowKit
set_option linter.unusedVariables false
attribute [local go_sem ↓] Go.wp_at_zero Go.wp_at_succ

theorem below_drewN {B : Nat} {a w : World} (h : Below B a w) (n : Nat) : Below B a (w.drewN n) := ⟨h.os, h.tape, h.output, h.size, h.block⟩

set_option maxHeartbeats 400000 in
theorem eqInt64S_any (B : Nat) (v1 v2 : Value) (l : List Int) (w : World) (hB : B ≤ w.heap.size) (hl : l.length ≤ 1048576) (S1 : SliceAt B w v1 l.length (cellsOf intC l)) (S2 : SliceAt B w v2 l.length (cellsOf intC l)) :
    Calls Try.prog 18 #[v1, v2] w fun e w' => e = .returned (.bool true) ∧ Below w.heap.size w w' := by
  obtain ⟨a1, cap1, rfl, h1⟩ := S1
  obtain ⟨a2, cap2, rfl, h2⟩ := S2
  go_enter Try.func18, Try.ntmps18
  go_wp2
  go_loopw [5] (fun i wr => ∃ k : Nat, k ≤ l.length ∧ i = .int .i64 k ∧ Below w.heap.size w wr) (fun i _ => l.length - (intOf i).toNat)
  case atStart => exact ⟨0, Nat.zero_le _, rfl, Below.refl _ _⟩
  case round =>
    obtain ⟨k, hk, rfl, bel⟩ := hrel
    by_cases hlt : k < l.length
    · rcases h1 with h0 | ⟨b1, o1, rfl, hb1, R1⟩
      · omega
      rcases h2 with h0 | ⟨b2, o2, rfl, hb2, R2⟩
      · omega
      have hc1 := (rangeAt_below R1 (bel.mono hB) hb1) k (.int .i64 l[k]) (by have := cellsOf_at (f := intC) (sz := 1) (fun _ => rfl) l k hlt 0 (by omega); simpa [intC] using this)
      have hc2 := (rangeAt_below R2 (bel.mono hB) hb2) k (.int .i64 l[k]) (by have := cellsOf_at (f := intC) (sz := 1) (fun _ => rfl) l k hlt 0 (by omega); simpa [intC] using this)
      clear R1 R2
      generalize l[k] = x at *
      have hlt' : (k : Int) < (l.length : Int) := by omega
      go_wp2
      go_quiet (fail)
      go_wp2
      go_roundw
      case rel => exact ⟨k + 1, by omega, by go_num, below_drewN bel _⟩
      case measure => simp [intOf]; omega
    · go_wp2
      go_ret
      exact ⟨rfl, bel⟩

set_option maxHeartbeats 1000000 in
theorem eqNode_any (x : Nd) (w : World) :
    Calls Try.prog 36 #[.agg (ndC x).toArray, .agg (ndC x).toArray] w fun e w' => e = .returned (.bool true) ∧ Below w.heap.size w w' := by
  show Calls Try.prog 36 #[.agg #[.int .i64 x.key, .int .i64 x.value, .int .i64 x.head], .agg #[.int .i64 x.key, .int .i64 x.value, .int .i64 x.head]] w fun e w' => e = .returned (.bool true) ∧ Below w.heap.size w w'
  go_enter Try.func36, Try.ntmps36
  go_wp2
  go_ret
  exact ⟨rfl, ((Below.refl _ _).alloc (Nat.le_refl _) _).alloc (by simp) _⟩

set_option maxHeartbeats 1000000 in
theorem eqVer_any (x : Vr) (w : World) :
    Calls Try.prog 37 #[.agg (vrC x).toArray, .agg (vrC x).toArray] w fun e w' => e = .returned (.bool true) ∧ Below w.heap.size w w' := by
  show Calls Try.prog 37 #[.agg #[.int .i64 x.next, .bool x.gone, .int .i64 x.stamp, .int .i64 x.prev, .int .i64 x.kind], .agg #[.int .i64 x.next, .bool x.gone, .int .i64 x.stamp, .int .i64 x.prev, .int .i64 x.kind]] w fun e w' => e = .returned (.bool true) ∧ Below w.heap.size w w'
  go_enter Try.func37, Try.ntmps37
  go_wp2
  go_ret
  exact ⟨rfl, ((Below.refl _ _).alloc (Nat.le_refl _) _).alloc (by simp) _⟩

theorem oneNode (x : Nd) : ∀ v ∈ ndC x, v.oneCell' = true := by
  intro v hv
  simp only [ndC, List.mem_cons, List.not_mem_nil, or_false] at hv
  rcases hv with rfl | rfl | rfl <;> rfl

set_option maxHeartbeats 1000000 in
theorem eqNodeS_any (B : Nat) (v1 v2 : Value) (l : List Nd) (w : World) (hB : B ≤ w.heap.size) (hl : l.length ≤ 1048576) (S1 : SliceAt B w v1 l.length (cellsOf ndC l)) (S2 : SliceAt B w v2 l.length (cellsOf ndC l)) :
    Calls Try.prog 19 #[v1, v2] w fun e w' => e = .returned (.bool true) ∧ Below w.heap.size w w' := by
  obtain ⟨a1, cap1, rfl, h1⟩ := S1
  obtain ⟨a2, cap2, rfl, h2⟩ := S2
  go_enter Try.func19, Try.ntmps19
  go_wp2
  go_loopw [5] (fun i wr => ∃ k : Nat, k ≤ l.length ∧ i = .int .i64 k ∧ Below w.heap.size w wr) (fun i _ => l.length - (intOf i).toNat)
  case atStart => exact ⟨0, Nat.zero_le _, rfl, Below.refl _ _⟩
  case round =>
    obtain ⟨k, hk, rfl, bel⟩ := hrel
    by_cases hlt : k < l.length
    · rcases h1 with h0 | ⟨b1, o1, rfl, hb1, R1⟩
      · omega
      rcases h2 with h0 | ⟨b2, o2, rfl, hb2, R2⟩
      · omega
      have E1 := rangeAt_elem (sz := 3) (fun _ => rfl) (rangeAt_below R1 (bel.mono hB) hb1) k hlt
      have E2 := rangeAt_elem (sz := 3) (fun _ => rfl) (rangeAt_below R2 (bel.mono hB) hb2) k hlt
      clear R1 R2
      have hsz := bel.size
      have hlt' : (k : Int) < (l.length : Int) := by omega
      have hk0 : (0 : Int) ≤ (k : Int) := by omega
      generalize hx : l[k] = x at *
      clear hx
      have f10 : wr.cell? ⟨b1, o1 + k * 3, none⟩ = some (.int .i64 x.key) := E1 0 _ rfl
      have f11 : wr.cell? ⟨b1, o1 + k * 3 + 1, none⟩ = some (.int .i64 x.value) := E1 1 _ rfl
      have f12 : wr.cell? ⟨b1, o1 + k * 3 + 2, none⟩ = some (.int .i64 x.head) := E1 2 _ rfl
      have f20 : wr.cell? ⟨b2, o2 + k * 3, none⟩ = some (.int .i64 x.key) := E2 0 _ rfl
      have f21 : wr.cell? ⟨b2, o2 + k * 3 + 1, none⟩ = some (.int .i64 x.value) := E2 1 _ rfl
      have f22 : wr.cell? ⟨b2, o2 + k * 3 + 2, none⟩ = some (.int .i64 x.head) := E2 2 _ rfl
      go_wp2
      go_region_held3 (fun w' => w'.cell? ⟨b1, o1 + k * 3, none⟩ = some (.int .i64 x.key) ∧ w'.cell? ⟨b1, o1 + k * 3 + 1, none⟩ = some (.int .i64 x.value) ∧ w'.cell? ⟨b1, o1 + k * 3 + 2, none⟩ = some (.int .i64 x.head) ∧ w'.cell? ⟨b2, o2 + k * 3, none⟩ = some (.int .i64 x.key) ∧ w'.cell? ⟨b2, o2 + k * 3 + 1, none⟩ = some (.int .i64 x.value) ∧ w'.cell? ⟨b2, o2 + k * 3 + 2, none⟩ = some (.int .i64 x.head)) (go_keep) ((go_at_call 36; refine (eqNode_any x _).mono ?_; rintro e w2 ⟨rfl, b3⟩; have E1' := rangeAt_below E1 ((Below.refl _ wr).drew.trans b3) (show b1 < wr.heap.size by omega); have E2' := rangeAt_below E2 ((Below.refl _ wr).drew.trans b3) (show b2 < wr.heap.size by omega); have BB : Below w.heap.size w w2 := bel.drew.trans (b3.mono (by exact hsz)); have g10 : w2.cell? ⟨b1, o1 + k * 3, none⟩ = some (.int .i64 x.key) := E1' 0 _ rfl; have g11 : w2.cell? ⟨b1, o1 + k * 3 + 1, none⟩ = some (.int .i64 x.value) := E1' 1 _ rfl; have g12 : w2.cell? ⟨b1, o1 + k * 3 + 2, none⟩ = some (.int .i64 x.head) := E1' 2 _ rfl; have g20 : w2.cell? ⟨b2, o2 + k * 3, none⟩ = some (.int .i64 x.key) := E2' 0 _ rfl; have g21 : w2.cell? ⟨b2, o2 + k * 3 + 1, none⟩ = some (.int .i64 x.value) := E2' 1 _ rfl; have g22 : w2.cell? ⟨b2, o2 + k * 3 + 2, none⟩ = some (.int .i64 x.head) := E2' 2 _ rfl))
      go_wp2
      go_roundw
      case rel => exact ⟨k + 1, by omega, by go_num, BB⟩
      case measure => simp [intOf]; omega
    · go_wp2
      go_ret
      exact ⟨rfl, bel⟩

theorem oneVer (x : Vr) : ∀ v ∈ vrC x, v.oneCell' = true := by
  intro v hv
  simp only [vrC, List.mem_cons, List.not_mem_nil, or_false] at hv
  rcases hv with rfl | rfl | rfl | rfl | rfl <;> rfl

set_option maxHeartbeats 1000000 in
theorem eqVerS_any (B : Nat) (v1 v2 : Value) (l : List Vr) (w : World) (hB : B ≤ w.heap.size) (hl : l.length ≤ 1048576) (S1 : SliceAt B w v1 l.length (cellsOf vrC l)) (S2 : SliceAt B w v2 l.length (cellsOf vrC l)) :
    Calls Try.prog 20 #[v1, v2] w fun e w' => e = .returned (.bool true) ∧ Below w.heap.size w w' := by
  obtain ⟨a1, cap1, rfl, h1⟩ := S1
  obtain ⟨a2, cap2, rfl, h2⟩ := S2
  go_enter Try.func20, Try.ntmps20
  go_wp2
  go_loopw [5] (fun i wr => ∃ k : Nat, k ≤ l.length ∧ i = .int .i64 k ∧ Below w.heap.size w wr) (fun i _ => l.length - (intOf i).toNat)
  case atStart => exact ⟨0, Nat.zero_le _, rfl, Below.refl _ _⟩
  case round =>
    obtain ⟨k, hk, rfl, bel⟩ := hrel
    by_cases hlt : k < l.length
    · rcases h1 with h0 | ⟨b1, o1, rfl, hb1, R1⟩
      · omega
      rcases h2 with h0 | ⟨b2, o2, rfl, hb2, R2⟩
      · omega
      have E1 := rangeAt_elem (sz := 5) (fun _ => rfl) (rangeAt_below R1 (bel.mono hB) hb1) k hlt
      have E2 := rangeAt_elem (sz := 5) (fun _ => rfl) (rangeAt_below R2 (bel.mono hB) hb2) k hlt
      clear R1 R2
      have hsz := bel.size
      have hlt' : (k : Int) < (l.length : Int) := by omega
      have hk0 : (0 : Int) ≤ (k : Int) := by omega
      generalize hx : l[k] = x at *
      clear hx
      have f10 : wr.cell? ⟨b1, o1 + k * 5, none⟩ = some (.int .i64 x.next) := E1 0 _ rfl
      have f11 : wr.cell? ⟨b1, o1 + k * 5 + 1, none⟩ = some (.bool x.gone) := E1 1 _ rfl
      have f12 : wr.cell? ⟨b1, o1 + k * 5 + 2, none⟩ = some (.int .i64 x.stamp) := E1 2 _ rfl
      have f13 : wr.cell? ⟨b1, o1 + k * 5 + 3, none⟩ = some (.int .i64 x.prev) := E1 3 _ rfl
      have f14 : wr.cell? ⟨b1, o1 + k * 5 + 4, none⟩ = some (.int .i64 x.kind) := E1 4 _ rfl
      have f20 : wr.cell? ⟨b2, o2 + k * 5, none⟩ = some (.int .i64 x.next) := E2 0 _ rfl
      have f21 : wr.cell? ⟨b2, o2 + k * 5 + 1, none⟩ = some (.bool x.gone) := E2 1 _ rfl
      have f22 : wr.cell? ⟨b2, o2 + k * 5 + 2, none⟩ = some (.int .i64 x.stamp) := E2 2 _ rfl
      have f23 : wr.cell? ⟨b2, o2 + k * 5 + 3, none⟩ = some (.int .i64 x.prev) := E2 3 _ rfl
      have f24 : wr.cell? ⟨b2, o2 + k * 5 + 4, none⟩ = some (.int .i64 x.kind) := E2 4 _ rfl
      go_wp2
      go_region_held3 (fun w' => w'.cell? ⟨b1, o1 + k * 5, none⟩ = some (.int .i64 x.next) ∧ w'.cell? ⟨b1, o1 + k * 5 + 1, none⟩ = some (.bool x.gone) ∧ w'.cell? ⟨b1, o1 + k * 5 + 2, none⟩ = some (.int .i64 x.stamp) ∧ w'.cell? ⟨b1, o1 + k * 5 + 3, none⟩ = some (.int .i64 x.prev) ∧ w'.cell? ⟨b1, o1 + k * 5 + 4, none⟩ = some (.int .i64 x.kind) ∧ w'.cell? ⟨b2, o2 + k * 5, none⟩ = some (.int .i64 x.next) ∧ w'.cell? ⟨b2, o2 + k * 5 + 1, none⟩ = some (.bool x.gone) ∧ w'.cell? ⟨b2, o2 + k * 5 + 2, none⟩ = some (.int .i64 x.stamp) ∧ w'.cell? ⟨b2, o2 + k * 5 + 3, none⟩ = some (.int .i64 x.prev) ∧ w'.cell? ⟨b2, o2 + k * 5 + 4, none⟩ = some (.int .i64 x.kind)) (go_keep) ((go_at_call 37; refine (eqVer_any x _).mono ?_; rintro e w2 ⟨rfl, b3⟩; have E1' := rangeAt_below E1 ((Below.refl _ wr).drew.trans b3) (show b1 < wr.heap.size by omega); have E2' := rangeAt_below E2 ((Below.refl _ wr).drew.trans b3) (show b2 < wr.heap.size by omega); have BB : Below w.heap.size w w2 := bel.drew.trans (b3.mono (by exact hsz)); have g10 : w2.cell? ⟨b1, o1 + k * 5, none⟩ = some (.int .i64 x.next) := E1' 0 _ rfl; have g11 : w2.cell? ⟨b1, o1 + k * 5 + 1, none⟩ = some (.bool x.gone) := E1' 1 _ rfl; have g12 : w2.cell? ⟨b1, o1 + k * 5 + 2, none⟩ = some (.int .i64 x.stamp) := E1' 2 _ rfl; have g13 : w2.cell? ⟨b1, o1 + k * 5 + 3, none⟩ = some (.int .i64 x.prev) := E1' 3 _ rfl; have g14 : w2.cell? ⟨b1, o1 + k * 5 + 4, none⟩ = some (.int .i64 x.kind) := E1' 4 _ rfl; have g20 : w2.cell? ⟨b2, o2 + k * 5, none⟩ = some (.int .i64 x.next) := E2' 0 _ rfl; have g21 : w2.cell? ⟨b2, o2 + k * 5 + 1, none⟩ = some (.bool x.gone) := E2' 1 _ rfl; have g22 : w2.cell? ⟨b2, o2 + k * 5 + 2, none⟩ = some (.int .i64 x.stamp) := E2' 2 _ rfl; have g23 : w2.cell? ⟨b2, o2 + k * 5 + 3, none⟩ = some (.int .i64 x.prev) := E2' 3 _ rfl; have g24 : w2.cell? ⟨b2, o2 + k * 5 + 4, none⟩ = some (.int .i64 x.kind) := E2' 4 _ rfl))
      go_wp2
      go_roundw
      case rel => exact ⟨k + 1, by omega, by go_num, BB⟩
      case measure => simp [intOf]; omega
    · go_wp2
      go_ret
      exact ⟨rfl, bel⟩

theorem onePair (x : Pr) : ∀ v ∈ prC x, v.oneCell' = true := by
  intro v hv
  simp only [prC, List.mem_cons, List.not_mem_nil, or_false] at hv
  rcases hv with rfl | rfl <;> rfl

set_option maxHeartbeats 1000000 in
theorem eqArena_any (B : Nat) (A : Ar) (s1 g1 n1 r1 s2 g2 n2 r2 : Value) (w : World) (hB : B ≤ w.heap.size) (hA : A.size ≤ 1048576) (I1 : ArenaIs B w s1 g1 n1 r1 A) (I2 : ArenaIs B w s2 g2 n2 r2 A) :
    Calls Try.prog 9 #[.agg #[.int .i64 A.camera, s1, g1, n1, r1], .agg #[.int .i64 A.camera, s2, g2, n2, r2]] w fun e w' => e = .returned (.bool true) ∧ Below w.heap.size w w' := by
  unfold Ar.size at hA
  have X0 := World.rangeAt_alloc (rangeAt_new w [.int .i64 A.camera, s1, g1, n1, r1] 37) (.cells #[.int .i64 A.camera, s2, g2, n2, r2] 37)
  have Y0 : World.rangeAt ((w.alloc (.cells #[.int .i64 A.camera, s1, g1, n1, r1] 37)).alloc (.cells #[.int .i64 A.camera, s2, g2, n2, r2] 37)) (w.heap.size + 1) 0 [.int .i64 A.camera, s2, g2, n2, r2] := by
    have h := rangeAt_new (w.alloc (.cells #[.int .i64 A.camera, s1, g1, n1, r1] 37)) [.int .i64 A.camera, s2, g2, n2, r2] 37
    simp only [World.size_alloc] at h
    exact h
  have K0 := ((Below.refl w.heap.size w).alloc (Nat.le_refl _) (.cells #[.int .i64 A.camera, s1, g1, n1, r1] 37)).alloc (by simp) (.cells #[.int .i64 A.camera, s2, g2, n2, r2] 37)
  have hz0 : w.heap.size + 1 < ((w.alloc (.cells #[.int .i64 A.camera, s1, g1, n1, r1] 37)).alloc (.cells #[.int .i64 A.camera, s2, g2, n2, r2] 37)).heap.size := by simp
  have J0 := I1.below (K0.mono hB)
  have L0 := I2.below (K0.mono hB)
  clear I1 I2
  go_enter Try.func9, Try.ntmps9
  go_wp2_with fail
  refine (eqInt64S_any B s1 s2 A.slots _ (by have := hz0; omega) (by omega) J0.s L0.s).mono ?_
  rintro e w1 ⟨rfl, b1⟩
  have K1 := K0.trans (b1.mono (by have := hz0; omega))
  have X1 := rangeAt_below X0 b1 (by have := hz0; omega)
  have Y1 := rangeAt_below Y0 b1 (by have := hz0; omega)
  have J1 := J0.below (b1.mono (by have := hz0; omega))
  have L1 := L0.below (b1.mono (by have := hz0; omega))
  have hz1 := Nat.lt_of_lt_of_le hz0 b1.size
  have c1 := X1 2 g1 rfl
  have c2 := Y1 2 g2 rfl
  simp only [Nat.zero_add] at c1 c2
  clear X0 Y0 J0 L0 K0 b1
  go_wp2_with fail
  clear c1 c2
  refine (eqInt64S_any B g1 g2 A.guides _ (by have := hz1; omega) (by omega) J1.g L1.g).mono ?_
  rintro e w2 ⟨rfl, b2⟩
  have K2 := K1.trans (b2.mono (by have := hz1; omega))
  have X2 := rangeAt_below X1 b2 (by have := hz1; omega)
  have Y2 := rangeAt_below Y1 b2 (by have := hz1; omega)
  have J2 := J1.below (b2.mono (by have := hz1; omega))
  have L2 := L1.below (b2.mono (by have := hz1; omega))
  have hz2 := Nat.lt_of_lt_of_le hz1 b2.size
  have c1 := X2 3 n1 rfl
  have c2 := Y2 3 n2 rfl
  simp only [Nat.zero_add] at c1 c2
  clear X1 Y1 J1 L1 K1 b2
  go_wp2_with fail
  clear c1 c2
  refine (eqNodeS_any B n1 n2 A.nodes _ (by have := hz2; omega) (by omega) J2.n L2.n).mono ?_
  rintro e w3 ⟨rfl, b3⟩
  have K3 := K2.trans (b3.mono (by have := hz2; omega))
  have X3 := rangeAt_below X2 b3 (by have := hz2; omega)
  have Y3 := rangeAt_below Y2 b3 (by have := hz2; omega)
  have J3 := J2.below (b3.mono (by have := hz2; omega))
  have L3 := L2.below (b3.mono (by have := hz2; omega))
  have hz3 := Nat.lt_of_lt_of_le hz2 b3.size
  have c1 := X3 4 r1 rfl
  have c2 := Y3 4 r2 rfl
  simp only [Nat.zero_add] at c1 c2
  clear X2 Y2 J2 L2 K2 b3
  go_wp2_with fail
  clear c1 c2
  refine (eqVerS_any B r1 r2 A.vers _ (by have := hz3; omega) (by omega) J3.r L3.r).mono ?_
  rintro e w4 ⟨rfl, b4⟩
  have K4 := K3.trans (b4.mono (by have := hz3; omega))
  go_wp2
  go_ret
  exact ⟨rfl, K4⟩

theorem szInt64S_fit (a : Option Addr) (len cap : Nat) (left : Int) (w : World) (h0 : 0 ≤ left) (h1 : left ≤ 1048576) (hl : (len : Int) ≤ left) :
    Calls Try.prog 10 #[.slice a len cap, .int .i64 left] w fun e w' => e = .returned (.int .i64 (left - len)) ∧ w' = w := by
  go_enter Try.func10, Try.ntmps10
  go_wp2
  go_ret
  exact ⟨rfl, rfl⟩
theorem szInt64S_not (a : Option Addr) (len cap : Nat) (left : Int) (w : World) (h0 : 0 ≤ left) (h1 : left ≤ 1048576) (hl : left < (len : Int)) (hm : (len : Int) ≤ 9223372036854775807) :
    Calls Try.prog 10 #[.slice a len cap, .int .i64 left] w fun e w' => e = .returned (.int .i64 (-1)) ∧ w' = w := by
  go_enter Try.func10, Try.ntmps10
  go_wp2
  go_ret
  exact ⟨rfl, rfl⟩

theorem szNodeS_fit (a : Option Addr) (len cap : Nat) (left : Int) (w : World) (h0 : 0 ≤ left) (h1 : left ≤ 1048576) (hl : (len : Int) ≤ left) :
    Calls Try.prog 11 #[.slice a len cap, .int .i64 left] w fun e w' => e = .returned (.int .i64 (left - len)) ∧ w' = w := by
  go_enter Try.func11, Try.ntmps11
  go_wp2
  go_ret
  exact ⟨rfl, rfl⟩
theorem szNodeS_not (a : Option Addr) (len cap : Nat) (left : Int) (w : World) (h0 : 0 ≤ left) (h1 : left ≤ 1048576) (hl : left < (len : Int)) (hm : (len : Int) ≤ 9223372036854775807) :
    Calls Try.prog 11 #[.slice a len cap, .int .i64 left] w fun e w' => e = .returned (.int .i64 (-1)) ∧ w' = w := by
  go_enter Try.func11, Try.ntmps11
  go_wp2
  go_ret
  exact ⟨rfl, rfl⟩

theorem szVerS_fit (a : Option Addr) (len cap : Nat) (left : Int) (w : World) (h0 : 0 ≤ left) (h1 : left ≤ 1048576) (hl : (len : Int) ≤ left) :
    Calls Try.prog 12 #[.slice a len cap, .int .i64 left] w fun e w' => e = .returned (.int .i64 (left - len)) ∧ w' = w := by
  go_enter Try.func12, Try.ntmps12
  go_wp2
  go_ret
  exact ⟨rfl, rfl⟩
theorem szVerS_not (a : Option Addr) (len cap : Nat) (left : Int) (w : World) (h0 : 0 ≤ left) (h1 : left ≤ 1048576) (hl : left < (len : Int)) (hm : (len : Int) ≤ 9223372036854775807) :
    Calls Try.prog 12 #[.slice a len cap, .int .i64 left] w fun e w' => e = .returned (.int .i64 (-1)) ∧ w' = w := by
  go_enter Try.func12, Try.ntmps12
  go_wp2
  go_ret
  exact ⟨rfl, rfl⟩

set_option maxHeartbeats 1000000 in
theorem szArena_fit (cam : Int) (a0 : Option Addr) (l0 c0 : Nat) (a1 : Option Addr) (l1 c1 : Nat) (a2 : Option Addr) (l2 c2 : Nat) (a3 : Option Addr) (l3 c3 : Nat) (w : World) (h : l0 + l1 + l2 + l3 ≤ 1048576) :
    Calls Try.prog 4 #[.agg #[.int .i64 cam, .slice a0 l0 c0, .slice a1 l1 c1, .slice a2 l2 c2, .slice a3 l3 c3], .int .i64 1048576] w fun e w' => e = .returned (.int .i64 (1048576 - l0 - l1 - l2 - l3)) ∧ Below w.heap.size w w' := by
  go_enter Try.func4, Try.ntmps4
  go_wp2_with fail
  refine (szInt64S_fit _ _ _ _ _ (by omega) (by omega) (by omega)).mono ?_
  rintro e w0 ⟨rfl, rfl⟩
  go_wp2_with fail
  refine (szInt64S_fit _ _ _ _ _ (by omega) (by omega) (by omega)).mono ?_
  rintro e w1 ⟨rfl, rfl⟩
  go_wp2_with fail
  refine (szNodeS_fit _ _ _ _ _ (by omega) (by omega) (by omega)).mono ?_
  rintro e w2 ⟨rfl, rfl⟩
  go_wp2_with fail
  refine (szVerS_fit _ _ _ _ _ (by omega) (by omega) (by omega)).mono ?_
  rintro e w3 ⟨rfl, rfl⟩
  go_wp2
  go_ret
  exact ⟨rfl, (Below.refl _ _).alloc (Nat.le_refl _) _⟩

set_option maxHeartbeats 1000000 in
theorem szArena_not (cam : Int) (a0 : Option Addr) (l0 c0 : Nat) (a1 : Option Addr) (l1 c1 : Nat) (a2 : Option Addr) (l2 c2 : Nat) (a3 : Option Addr) (l3 c3 : Nat) (w : World) (h : 1048576 < l0 + l1 + l2 + l3) (m0 : (l0 : Int) ≤ 9223372036854775807) (m1 : (l1 : Int) ≤ 9223372036854775807) (m2 : (l2 : Int) ≤ 9223372036854775807) (m3 : (l3 : Int) ≤ 9223372036854775807) :
    Calls Try.prog 4 #[.agg #[.int .i64 cam, .slice a0 l0 c0, .slice a1 l1 c1, .slice a2 l2 c2, .slice a3 l3 c3], .int .i64 1048576] w fun e w' => e = .returned (.int .i64 (-1)) ∧ Below w.heap.size w w' := by
  by_cases q0 : l0 ≤ 1048576
  case neg =>
    go_enter Try.func4, Try.ntmps4
    go_wp2_with fail
    refine (szInt64S_not _ _ _ _ _ (by omega) (by omega) (by omega) (by omega)).mono ?_
    rintro e w0 ⟨rfl, rfl⟩
    go_wp2
    go_ret
    exact ⟨rfl, (Below.refl _ _).alloc (Nat.le_refl _) _⟩
  by_cases q1 : l0 + l1 ≤ 1048576
  case neg =>
    go_enter Try.func4, Try.ntmps4
    go_wp2_with fail
    refine (szInt64S_fit _ _ _ _ _ (by omega) (by omega) (by omega)).mono ?_
    rintro e w0 ⟨rfl, rfl⟩
    go_wp2_with fail
    refine (szInt64S_not _ _ _ _ _ (by omega) (by omega) (by omega) (by omega)).mono ?_
    rintro e w1 ⟨rfl, rfl⟩
    go_wp2
    go_ret
    exact ⟨rfl, (Below.refl _ _).alloc (Nat.le_refl _) _⟩
  by_cases q2 : l0 + l1 + l2 ≤ 1048576
  case neg =>
    go_enter Try.func4, Try.ntmps4
    go_wp2_with fail
    refine (szInt64S_fit _ _ _ _ _ (by omega) (by omega) (by omega)).mono ?_
    rintro e w0 ⟨rfl, rfl⟩
    go_wp2_with fail
    refine (szInt64S_fit _ _ _ _ _ (by omega) (by omega) (by omega)).mono ?_
    rintro e w1 ⟨rfl, rfl⟩
    go_wp2_with fail
    refine (szNodeS_not _ _ _ _ _ (by omega) (by omega) (by omega) (by omega)).mono ?_
    rintro e w2 ⟨rfl, rfl⟩
    go_wp2
    go_ret
    exact ⟨rfl, (Below.refl _ _).alloc (Nat.le_refl _) _⟩
  go_enter Try.func4, Try.ntmps4
  go_wp2_with fail
  refine (szInt64S_fit _ _ _ _ _ (by omega) (by omega) (by omega)).mono ?_
  rintro e w0 ⟨rfl, rfl⟩
  go_wp2_with fail
  refine (szInt64S_fit _ _ _ _ _ (by omega) (by omega) (by omega)).mono ?_
  rintro e w1 ⟨rfl, rfl⟩
  go_wp2_with fail
  refine (szNodeS_fit _ _ _ _ _ (by omega) (by omega) (by omega)).mono ?_
  rintro e w2 ⟨rfl, rfl⟩
  go_wp2_with fail
  refine (szVerS_not _ _ _ _ _ (by omega) (by omega) (by omega) (by omega)).mono ?_
  rintro e w3 ⟨rfl, rfl⟩
  go_wp2
  go_ret
  exact ⟨rfl, (Below.refl _ _).alloc (Nat.le_refl _) _⟩

/-- The copy of an arena that came in, made later. -/
theorem toArena_at {B : Nat} {A : Ar} {s g n r : Value} {w1 W : World} (BB : Below w1.heap.size w1 W) (hB : B ≤ w1.heap.size) (hA : A.size ≤ 1048576) (I : ArenaIs B w1 s g n r A) :
    Calls Try.prog 7 #[.agg #[.int .i64 A.camera, s, g, n, r]] W fun e w' => ∃ p0 p1 p2 p3, e = .returned (.agg #[.int .i64 A.camera, .slice (some ⟨p0, 0, none⟩) A.slots.length A.slots.length, .slice (some ⟨p1, 0, none⟩) A.guides.length A.guides.length, .slice (some ⟨p2, 0, none⟩) A.nodes.length A.nodes.length, .slice (some ⟨p3, 0, none⟩) A.vers.length A.vers.length]) ∧
      ArenaIs w'.heap.size w' (.slice (some ⟨p0, 0, none⟩) A.slots.length A.slots.length) (.slice (some ⟨p1, 0, none⟩) A.guides.length A.guides.length) (.slice (some ⟨p2, 0, none⟩) A.nodes.length A.nodes.length) (.slice (some ⟨p3, 0, none⟩) A.vers.length A.vers.length) A ∧ Below W.heap.size W w' :=
  toArena_any B A s g n r W (Nat.le_trans hB BB.size) hA (I.below (BB.mono hB))

end Go.Proofs.Ytknncnaikeinbaa
