/-
  What the law's proof goes by, part 3.
-/
import Derived.Deep.Slices
import Derived.Test.YtlfjhcdjgoeafaaDoorSwapped00
import Derived.Test.YtlfjhcdjgoeafaaDoorSwapped01
namespace Go.Proofs.YtlfjhcdjgoeafaaDoor
open Go.ChangeShapes Go.WideShapes Go.ChangeAt Go.RowKit
set_option maxRecDepth 100000
set_option maxHeartbeats 16000000
set_option linter.unusedVariables false
set_option linter.unusedSimpArgs false
set_option linter.unnecessarySimpa false
set_option linter.unusedSectionVars false
section
attribute [local go_sem ↓] Go.wp_at_zero Go.wp_at_succ
theorem qz1c {B : Nat} {a w : World} (h : Below B a w) (n : Nat) : Below B a (w.drewN n) := ⟨h.os, h.tape, h.output, h.size, h.block⟩
theorem qz3l (B : Nat) (v1 v2 : Value) (l : List Int) (w : World) (hB : B <= w.heap.size) (hl : l.length <= 1048576) (S1 : qz8 B w v1 l.length (qz1 intC l)) (S2 : qz8 B w v2 l.length (qz1 intC l)) :
  Calls Tryd.prog 30 #[v1, v2] w fun e w' => e = .returned (.bool true) /\ Below w.heap.size w w' := by
 obtain ⟨a1, cap1, rfl, h1⟩ := S1
 obtain ⟨a2, cap2, rfl, h2⟩ := S2
 go_enter Tryd.func30, Tryd.ntmps30
 go_wp2
 go_loopw [5] (fun i wr => ∃ k : Nat, k <= l.length /\ i = .int .i64 k /\ Below w.heap.size w wr) (fun i _ => l.length - (intOf i).toNat)
 case atStart => exact ⟨0, Nat.zero_le _, rfl, Below.refl _ _⟩
 case round =>
  obtain ⟨k, hk, rfl, bel⟩ := hrel
  by_cases hlt : k < l.length
  ·rcases h1 with h0 | ⟨b1, o1, rfl, hb1, R1⟩
   ·omega
   rcases h2 with h0 | ⟨b2, o2, rfl, hb2, R2⟩
   ·omega
   have hc1 := (qz0 R1 (bel.mono hB) hb1) k (.int .i64 l[k]) (by have := qzu (f := intC) (sz := 1) (fun _ => rfl) l k hlt 0 (by omega); simpa [intC] using this)
   have hc2 := (qz0 R2 (bel.mono hB) hb2) k (.int .i64 l[k]) (by have := qzu (f := intC) (sz := 1) (fun _ => rfl) l k hlt 0 (by omega); simpa [intC] using this)
   clear R1 R2
   generalize l[k] = x at *
   have hlt' : (k : Int) < (l.length : Int) := by omega
   go_wp2
   go_quiet (fail)
   go_wp2
   go_roundw
   case rel => exact ⟨k + 1, by omega, by go_num, qz1c bel _⟩
   case measure => simp [intOf]; omega
  ·go_wp2
   go_ret
   exact ⟨rfl, bel⟩
theorem qz7u (x : Nd) (w : World) :
  Calls Tryd.prog 62 #[.agg (ndC x).toArray, .agg (ndC x).toArray] w fun e w' => e = .returned (.bool true) /\ Below w.heap.size w w' := by
 show Calls Tryd.prog 62 #[.agg #[.int .i64 x.key, .int .i64 x.value, .int .i64 x.head], .agg #[.int .i64 x.key, .int .i64 x.value, .int .i64 x.head]] w fun e w' => e = .returned (.bool true) /\ Below w.heap.size w w'
 go_enter Tryd.func62, Tryd.ntmps62
 go_wp2
 go_ret
 exact ⟨rfl, ((Below.refl _ _).alloc (Nat.le_refl _) _).alloc (by simp) _⟩
theorem qz8e (x : Vr) (w : World) :
  Calls Tryd.prog 63 #[.agg (vrC x).toArray, .agg (vrC x).toArray] w fun e w' => e = .returned (.bool true) /\ Below w.heap.size w w' := by
 show Calls Tryd.prog 63 #[.agg #[.int .i64 x.next, .bool x.gone, .int .i64 x.stamp, .int .i64 x.prev, .int .i64 x.kind], .agg #[.int .i64 x.next, .bool x.gone, .int .i64 x.stamp, .int .i64 x.prev, .int .i64 x.kind]] w fun e w' => e = .returned (.bool true) /\ Below w.heap.size w w'
 go_enter Tryd.func63, Tryd.ntmps63
 go_wp2
 go_ret
 exact ⟨rfl, ((Below.refl _ _).alloc (Nat.le_refl _) _).alloc (by simp) _⟩
theorem qz6u (B : Nat) (v1 v2 : Value) (l : List Nd) (w : World) (hB : B <= w.heap.size) (hl : l.length <= 1048576) (S1 : qz8 B w v1 l.length (qz1 ndC l)) (S2 : qz8 B w v2 l.length (qz1 ndC l)) :
  Calls Tryd.prog 31 #[v1, v2] w fun e w' => e = .returned (.bool true) /\ Below w.heap.size w w' := by
 obtain ⟨a1, cap1, rfl, h1⟩ := S1
 obtain ⟨a2, cap2, rfl, h2⟩ := S2
 go_enter Tryd.func31, Tryd.ntmps31
 go_wp2
 go_loopw [5] (fun i wr => ∃ k : Nat, k <= l.length /\ i = .int .i64 k /\ Below w.heap.size w wr) (fun i _ => l.length - (intOf i).toNat)
 case atStart => exact ⟨0, Nat.zero_le _, rfl, Below.refl _ _⟩
 case round =>
  obtain ⟨k, hk, rfl, bel⟩ := hrel
  by_cases hlt : k < l.length
  ·rcases h1 with h0 | ⟨b1, o1, rfl, hb1, R1⟩
   ·omega
   rcases h2 with h0 | ⟨b2, o2, rfl, hb2, R2⟩
   ·omega
   have E1 := qz9 (sz := 3) (fun _ => rfl) (qz0 R1 (bel.mono hB) hb1) k hlt
   have E2 := qz9 (sz := 3) (fun _ => rfl) (qz0 R2 (bel.mono hB) hb2) k hlt
   clear R1 R2
   have hsz := bel.size
   have hlt' : (k : Int) < (l.length : Int) := by omega
   have hk0 : (0 : Int) <= (k : Int) := by omega
   generalize hx : l[k] = x at *
   clear hx
   have f10 : wr.cell? ⟨b1, o1 + k * 3, none⟩ = some (.int .i64 x.key) := E1 0 _ rfl
   have f11 : wr.cell? ⟨b1, o1 + k * 3 + 1, none⟩ = some (.int .i64 x.value) := E1 1 _ rfl
   have f12 : wr.cell? ⟨b1, o1 + k * 3 + 2, none⟩ = some (.int .i64 x.head) := E1 2 _ rfl
   have f20 : wr.cell? ⟨b2, o2 + k * 3, none⟩ = some (.int .i64 x.key) := E2 0 _ rfl
   have f21 : wr.cell? ⟨b2, o2 + k * 3 + 1, none⟩ = some (.int .i64 x.value) := E2 1 _ rfl
   have f22 : wr.cell? ⟨b2, o2 + k * 3 + 2, none⟩ = some (.int .i64 x.head) := E2 2 _ rfl
   go_wp2
   go_region_held3 (fun w' => w'.cell? ⟨b1, o1 + k * 3, none⟩ = some (.int .i64 x.key) /\ w'.cell? ⟨b1, o1 + k * 3 + 1, none⟩ = some (.int .i64 x.value) /\ w'.cell? ⟨b1, o1 + k * 3 + 2, none⟩ = some (.int .i64 x.head) /\ w'.cell? ⟨b2, o2 + k * 3, none⟩ = some (.int .i64 x.key) /\ w'.cell? ⟨b2, o2 + k * 3 + 1, none⟩ = some (.int .i64 x.value) /\ w'.cell? ⟨b2, o2 + k * 3 + 2, none⟩ = some (.int .i64 x.head)) (go_keep) ((go_at_call 62; refine (qz7u x _).mono ?_; rintro e w2 ⟨rfl, b3⟩; have E1' := qz0 E1 ((Below.refl _ wr).drew.trans b3) (show b1 < wr.heap.size by omega); have E2' := qz0 E2 ((Below.refl _ wr).drew.trans b3) (show b2 < wr.heap.size by omega); have BB : Below w.heap.size w w2 := bel.drew.trans (b3.mono (by exact hsz)); have g10 : w2.cell? ⟨b1, o1 + k * 3, none⟩ = some (.int .i64 x.key) := E1' 0 _ rfl; have g11 : w2.cell? ⟨b1, o1 + k * 3 + 1, none⟩ = some (.int .i64 x.value) := E1' 1 _ rfl; have g12 : w2.cell? ⟨b1, o1 + k * 3 + 2, none⟩ = some (.int .i64 x.head) := E1' 2 _ rfl; have g20 : w2.cell? ⟨b2, o2 + k * 3, none⟩ = some (.int .i64 x.key) := E2' 0 _ rfl; have g21 : w2.cell? ⟨b2, o2 + k * 3 + 1, none⟩ = some (.int .i64 x.value) := E2' 1 _ rfl; have g22 : w2.cell? ⟨b2, o2 + k * 3 + 2, none⟩ = some (.int .i64 x.head) := E2' 2 _ rfl))
   go_wp2
   go_roundw
   case rel => exact ⟨k + 1, by omega, by go_num, BB⟩
   case measure => simp [intOf]; omega
  ·go_wp2
   go_ret
   exact ⟨rfl, bel⟩
theorem qz7m (B : Nat) (v1 v2 : Value) (l : List Vr) (w : World) (hB : B <= w.heap.size) (hl : l.length <= 1048576) (S1 : qz8 B w v1 l.length (qz1 vrC l)) (S2 : qz8 B w v2 l.length (qz1 vrC l)) :
  Calls Tryd.prog 32 #[v1, v2] w fun e w' => e = .returned (.bool true) /\ Below w.heap.size w w' := by
 obtain ⟨a1, cap1, rfl, h1⟩ := S1
 obtain ⟨a2, cap2, rfl, h2⟩ := S2
 go_enter Tryd.func32, Tryd.ntmps32
 go_wp2
 go_loopw [5] (fun i wr => ∃ k : Nat, k <= l.length /\ i = .int .i64 k /\ Below w.heap.size w wr) (fun i _ => l.length - (intOf i).toNat)
 case atStart => exact ⟨0, Nat.zero_le _, rfl, Below.refl _ _⟩
 case round =>
  obtain ⟨k, hk, rfl, bel⟩ := hrel
  by_cases hlt : k < l.length
  ·rcases h1 with h0 | ⟨b1, o1, rfl, hb1, R1⟩
   ·omega
   rcases h2 with h0 | ⟨b2, o2, rfl, hb2, R2⟩
   ·omega
   have E1 := qz9 (sz := 5) (fun _ => rfl) (qz0 R1 (bel.mono hB) hb1) k hlt
   have E2 := qz9 (sz := 5) (fun _ => rfl) (qz0 R2 (bel.mono hB) hb2) k hlt
   clear R1 R2
   have hsz := bel.size
   have hlt' : (k : Int) < (l.length : Int) := by omega
   have hk0 : (0 : Int) <= (k : Int) := by omega
   generalize hx : l[k] = x at *
   clear hx
   have f10 : wr.cell? ⟨b1, o1 + k * 5, none⟩ = some (.int .i64 x.next) := E1 0 _ rfl
   have f11 : wr.cell? ⟨b1, o1 + k * 5 + 1, none⟩ = some (.bool x.gone) := E1 1 _ rfl
   have f12 : wr.cell? ⟨b1, o1 + k * 5 + 2, none⟩ = some (.int .i64 x.stamp) := E1 2 _ rfl
   have f13 : wr.cell? ⟨b1, o1 + k * 5 + 3, none⟩ = some (.int .i64 x.prev) := E1 3 _ rfl
   have f14 : wr.cell? ⟨b1, o1 + k * 5 + 4, none⟩ = some (.int .i64 x.kind) := E1 4 _ rfl
   have f20 : wr.cell? ⟨b2, o2 + k * 5, none⟩ = some (.int .i64 x.next) := E2 0 _ rfl
   have f21 : wr.cell? ⟨b2, o2 + k * 5 + 1, none⟩ = some (.bool x.gone) := E2 1 _ rfl
   have f22 : wr.cell? ⟨b2, o2 + k * 5 + 2, none⟩ = some (.int .i64 x.stamp) := E2 2 _ rfl
   have f23 : wr.cell? ⟨b2, o2 + k * 5 + 3, none⟩ = some (.int .i64 x.prev) := E2 3 _ rfl
   have f24 : wr.cell? ⟨b2, o2 + k * 5 + 4, none⟩ = some (.int .i64 x.kind) := E2 4 _ rfl
   go_wp2
   go_region_held3 (fun w' => w'.cell? ⟨b1, o1 + k * 5, none⟩ = some (.int .i64 x.next) /\ w'.cell? ⟨b1, o1 + k * 5 + 1, none⟩ = some (.bool x.gone) /\ w'.cell? ⟨b1, o1 + k * 5 + 2, none⟩ = some (.int .i64 x.stamp) /\ w'.cell? ⟨b1, o1 + k * 5 + 3, none⟩ = some (.int .i64 x.prev) /\ w'.cell? ⟨b1, o1 + k * 5 + 4, none⟩ = some (.int .i64 x.kind) /\ w'.cell? ⟨b2, o2 + k * 5, none⟩ = some (.int .i64 x.next) /\ w'.cell? ⟨b2, o2 + k * 5 + 1, none⟩ = some (.bool x.gone) /\ w'.cell? ⟨b2, o2 + k * 5 + 2, none⟩ = some (.int .i64 x.stamp) /\ w'.cell? ⟨b2, o2 + k * 5 + 3, none⟩ = some (.int .i64 x.prev) /\ w'.cell? ⟨b2, o2 + k * 5 + 4, none⟩ = some (.int .i64 x.kind)) (go_keep) ((go_at_call 63; refine (qz8e x _).mono ?_; rintro e w2 ⟨rfl, b3⟩; have E1' := qz0 E1 ((Below.refl _ wr).drew.trans b3) (show b1 < wr.heap.size by omega); have E2' := qz0 E2 ((Below.refl _ wr).drew.trans b3) (show b2 < wr.heap.size by omega); have BB : Below w.heap.size w w2 := bel.drew.trans (b3.mono (by exact hsz)); have g10 : w2.cell? ⟨b1, o1 + k * 5, none⟩ = some (.int .i64 x.next) := E1' 0 _ rfl; have g11 : w2.cell? ⟨b1, o1 + k * 5 + 1, none⟩ = some (.bool x.gone) := E1' 1 _ rfl; have g12 : w2.cell? ⟨b1, o1 + k * 5 + 2, none⟩ = some (.int .i64 x.stamp) := E1' 2 _ rfl; have g13 : w2.cell? ⟨b1, o1 + k * 5 + 3, none⟩ = some (.int .i64 x.prev) := E1' 3 _ rfl; have g14 : w2.cell? ⟨b1, o1 + k * 5 + 4, none⟩ = some (.int .i64 x.kind) := E1' 4 _ rfl; have g20 : w2.cell? ⟨b2, o2 + k * 5, none⟩ = some (.int .i64 x.next) := E2' 0 _ rfl; have g21 : w2.cell? ⟨b2, o2 + k * 5 + 1, none⟩ = some (.bool x.gone) := E2' 1 _ rfl; have g22 : w2.cell? ⟨b2, o2 + k * 5 + 2, none⟩ = some (.int .i64 x.stamp) := E2' 2 _ rfl; have g23 : w2.cell? ⟨b2, o2 + k * 5 + 3, none⟩ = some (.int .i64 x.prev) := E2' 3 _ rfl; have g24 : w2.cell? ⟨b2, o2 + k * 5 + 4, none⟩ = some (.int .i64 x.kind) := E2' 4 _ rfl))
   go_wp2
   go_roundw
   case rel => exact ⟨k + 1, by omega, by go_num, BB⟩
   case measure => simp [intOf]; omega
  ·go_wp2
   go_ret
   exact ⟨rfl, bel⟩
theorem qz28 (B : Nat) (A : Ar) (s1 g1 n1 r1 s2 g2 n2 r2 : Value) (w : World) (hB : B <= w.heap.size) (hA : A.size <= 1048576) (I1 : qzd B w s1 g1 n1 r1 A) (I2 : qzd B w s2 g2 n2 r2 A) :
  Calls Tryd.prog 10 #[.agg #[.int .i64 A.camera, s1, g1, n1, r1], .agg #[.int .i64 A.camera, s2, g2, n2, r2]] w fun e w' => e = .returned (.bool true) /\ Below w.heap.size w w' := by
 unfold Ar.size at hA
 have X0 := World.rangeAt_alloc (qz6 w [.int .i64 A.camera, s1, g1, n1, r1] 33) (.cells #[.int .i64 A.camera, s2, g2, n2, r2] 33)
 have Y0 : World.rangeAt ((w.alloc (.cells #[.int .i64 A.camera, s1, g1, n1, r1] 33)).alloc (.cells #[.int .i64 A.camera, s2, g2, n2, r2] 33)) (w.heap.size + 1) 0 [.int .i64 A.camera, s2, g2, n2, r2] := by
  have h := qz6 (w.alloc (.cells #[.int .i64 A.camera, s1, g1, n1, r1] 33)) [.int .i64 A.camera, s2, g2, n2, r2] 33
  simp only [World.size_alloc] at h
  exact h
 have K0 := ((Below.refl w.heap.size w).alloc (Nat.le_refl _) (.cells #[.int .i64 A.camera, s1, g1, n1, r1] 33)).alloc (by simp) (.cells #[.int .i64 A.camera, s2, g2, n2, r2] 33)
 have hz0 : w.heap.size + 1 < ((w.alloc (.cells #[.int .i64 A.camera, s1, g1, n1, r1] 33)).alloc (.cells #[.int .i64 A.camera, s2, g2, n2, r2] 33)).heap.size := by simp
 have J0 := I1.below (K0.mono hB)
 have L0 := I2.below (K0.mono hB)
 clear I1 I2
 go_enter Tryd.func10, Tryd.ntmps10
 go_wp2_with fail
 refine (qz3l B s1 s2 A.slots _ (by have := hz0; omega) (by omega) J0.s L0.s).mono ?_
 rintro e w1 ⟨rfl, b1⟩
 have K1 := K0.trans (b1.mono (by have := hz0; omega))
 have X1 := qz0 X0 b1 (by have := hz0; omega)
 have Y1 := qz0 Y0 b1 (by have := hz0; omega)
 have J1 := J0.below (b1.mono (by have := hz0; omega))
 have L1 := L0.below (b1.mono (by have := hz0; omega))
 have hz1 := Nat.lt_of_lt_of_le hz0 b1.size
 have c1 := X1 2 g1 rfl
 have c2 := Y1 2 g2 rfl
 simp only [Nat.zero_add] at c1 c2
 clear X0 Y0 J0 L0 K0 b1
 go_wp2_with fail
 clear c1 c2
 refine (qz3l B g1 g2 A.guides _ (by have := hz1; omega) (by omega) J1.g L1.g).mono ?_
 rintro e w2 ⟨rfl, b2⟩
 have K2 := K1.trans (b2.mono (by have := hz1; omega))
 have X2 := qz0 X1 b2 (by have := hz1; omega)
 have Y2 := qz0 Y1 b2 (by have := hz1; omega)
 have J2 := J1.below (b2.mono (by have := hz1; omega))
 have L2 := L1.below (b2.mono (by have := hz1; omega))
 have hz2 := Nat.lt_of_lt_of_le hz1 b2.size
 have c1 := X2 3 n1 rfl
 have c2 := Y2 3 n2 rfl
 simp only [Nat.zero_add] at c1 c2
 clear X1 Y1 J1 L1 K1 b2
 go_wp2_with fail
 clear c1 c2
 refine (qz6u B n1 n2 A.nodes _ (by have := hz2; omega) (by omega) J2.n L2.n).mono ?_
 rintro e w3 ⟨rfl, b3⟩
 have K3 := K2.trans (b3.mono (by have := hz2; omega))
 have X3 := qz0 X2 b3 (by have := hz2; omega)
 have Y3 := qz0 Y2 b3 (by have := hz2; omega)
 have J3 := J2.below (b3.mono (by have := hz2; omega))
 have L3 := L2.below (b3.mono (by have := hz2; omega))
 have hz3 := Nat.lt_of_lt_of_le hz2 b3.size
 have c1 := X3 4 r1 rfl
 have c2 := Y3 4 r2 rfl
 simp only [Nat.zero_add] at c1 c2
 clear X2 Y2 J2 L2 K2 b3
 go_wp2_with fail
 clear c1 c2
 refine (qz7m B r1 r2 A.vers _ (by have := hz3; omega) (by omega) J3.r L3.r).mono ?_
 rintro e w4 ⟨rfl, b4⟩
 have K4 := K3.trans (b4.mono (by have := hz3; omega))
 go_wp2
 go_ret
 exact ⟨rfl, K4⟩
theorem qzx (a : Option Addr) (len cap : Nat) (left : Int) (w : World) (h0 : 0 <= left) (h1 : left <= 1048576) (hl : (len : Int) <= left) :
  Calls Tryd.prog 15 #[.slice a len cap, .int .i64 left] w fun e w' => e = .returned (.int .i64 (left - len)) /\ w' = w := by
 go_enter Tryd.func15, Tryd.ntmps15
 go_wp2
 go_ret
 exact ⟨rfl, rfl⟩
theorem qz37 (a : Option Addr) (len cap : Nat) (left : Int) (w : World) (h0 : 0 <= left) (h1 : left <= 1048576) (hl : left < (len : Int)) (hm : (len : Int) <= 9223372036854775807) :
  Calls Tryd.prog 15 #[.slice a len cap, .int .i64 left] w fun e w' => e = .returned (.int .i64 (-1)) /\ w' = w := by
 go_enter Tryd.func15, Tryd.ntmps15
 go_wp2
 go_ret
 exact ⟨rfl, rfl⟩
theorem qz4d (a : Option Addr) (len cap : Nat) (left : Int) (w : World) (h0 : 0 <= left) (h1 : left <= 1048576) (hl : (len : Int) <= left) :
  Calls Tryd.prog 16 #[.slice a len cap, .int .i64 left] w fun e w' => e = .returned (.int .i64 (left - len)) /\ w' = w := by
 go_enter Tryd.func16, Tryd.ntmps16
 go_wp2
 go_ret
 exact ⟨rfl, rfl⟩
theorem qz6n (a : Option Addr) (len cap : Nat) (left : Int) (w : World) (h0 : 0 <= left) (h1 : left <= 1048576) (hl : left < (len : Int)) (hm : (len : Int) <= 9223372036854775807) :
  Calls Tryd.prog 16 #[.slice a len cap, .int .i64 left] w fun e w' => e = .returned (.int .i64 (-1)) /\ w' = w := by
 go_enter Tryd.func16, Tryd.ntmps16
 go_wp2
 go_ret
 exact ⟨rfl, rfl⟩
theorem qz7r (a : Option Addr) (len cap : Nat) (left : Int) (w : World) (h0 : 0 <= left) (h1 : left <= 1048576) (hl : (len : Int) <= left) :
  Calls Tryd.prog 17 #[.slice a len cap, .int .i64 left] w fun e w' => e = .returned (.int .i64 (left - len)) /\ w' = w := by
 go_enter Tryd.func17, Tryd.ntmps17
 go_wp2
 go_ret
 exact ⟨rfl, rfl⟩
theorem qz7i (a : Option Addr) (len cap : Nat) (left : Int) (w : World) (h0 : 0 <= left) (h1 : left <= 1048576) (hl : left < (len : Int)) (hm : (len : Int) <= 9223372036854775807) :
  Calls Tryd.prog 17 #[.slice a len cap, .int .i64 left] w fun e w' => e = .returned (.int .i64 (-1)) /\ w' = w := by
 go_enter Tryd.func17, Tryd.ntmps17
 go_wp2
 go_ret
 exact ⟨rfl, rfl⟩
theorem qz6s (cam : Int) (a0 : Option Addr) (l0 c0 : Nat) (a1 : Option Addr) (l1 c1 : Nat) (a2 : Option Addr) (l2 c2 : Nat) (a3 : Option Addr) (l3 c3 : Nat) (w : World) (h : l0 + l1 + l2 + l3 <= 1048576) :
  Calls Tryd.prog 5 #[.agg #[.int .i64 cam, .slice a0 l0 c0, .slice a1 l1 c1, .slice a2 l2 c2, .slice a3 l3 c3], .int .i64 1048576] w fun e w' => e = .returned (.int .i64 (1048576 - l0 - l1 - l2 - l3)) /\ Below w.heap.size w w' := by
 go_enter Tryd.func5, Tryd.ntmps5
 go_wp2_with fail
 refine (qzx _ _ _ _ _ (by omega) (by omega) (by omega)).mono ?_
 rintro e w0 ⟨rfl, rfl⟩
 go_wp2_with fail
 refine (qzx _ _ _ _ _ (by omega) (by omega) (by omega)).mono ?_
 rintro e w1 ⟨rfl, rfl⟩
 go_wp2_with fail
 refine (qz4d _ _ _ _ _ (by omega) (by omega) (by omega)).mono ?_
 rintro e w2 ⟨rfl, rfl⟩
 go_wp2_with fail
 refine (qz7r _ _ _ _ _ (by omega) (by omega) (by omega)).mono ?_
 rintro e w3 ⟨rfl, rfl⟩
 go_wp2
 go_ret
 exact ⟨rfl, (Below.refl _ _).alloc (Nat.le_refl _) _⟩
theorem qz6q (cam : Int) (a0 : Option Addr) (l0 c0 : Nat) (a1 : Option Addr) (l1 c1 : Nat) (a2 : Option Addr) (l2 c2 : Nat) (a3 : Option Addr) (l3 c3 : Nat) (w : World) (h : 1048576 < l0 + l1 + l2 + l3) (m0 : (l0 : Int) <= 9223372036854775807) (m1 : (l1 : Int) <= 9223372036854775807) (m2 : (l2 : Int) <= 9223372036854775807) (m3 : (l3 : Int) <= 9223372036854775807) :
  Calls Tryd.prog 5 #[.agg #[.int .i64 cam, .slice a0 l0 c0, .slice a1 l1 c1, .slice a2 l2 c2, .slice a3 l3 c3], .int .i64 1048576] w fun e w' => e = .returned (.int .i64 (-1)) /\ Below w.heap.size w w' := by
 by_cases q0 : l0 <= 1048576
 case neg =>
  go_enter Tryd.func5, Tryd.ntmps5
  go_wp2_with fail
  refine (qz37 _ _ _ _ _ (by omega) (by omega) (by omega) (by omega)).mono ?_
  rintro e w0 ⟨rfl, rfl⟩
  go_wp2
  go_ret
  exact ⟨rfl, (Below.refl _ _).alloc (Nat.le_refl _) _⟩
 by_cases q1 : l0 + l1 <= 1048576
 case neg =>
  go_enter Tryd.func5, Tryd.ntmps5
  go_wp2_with fail
  refine (qzx _ _ _ _ _ (by omega) (by omega) (by omega)).mono ?_
  rintro e w0 ⟨rfl, rfl⟩
  go_wp2_with fail
  refine (qz37 _ _ _ _ _ (by omega) (by omega) (by omega) (by omega)).mono ?_
  rintro e w1 ⟨rfl, rfl⟩
  go_wp2
  go_ret
  exact ⟨rfl, (Below.refl _ _).alloc (Nat.le_refl _) _⟩
 by_cases q2 : l0 + l1 + l2 <= 1048576
 case neg =>
  go_enter Tryd.func5, Tryd.ntmps5
  go_wp2_with fail
  refine (qzx _ _ _ _ _ (by omega) (by omega) (by omega)).mono ?_
  rintro e w0 ⟨rfl, rfl⟩
  go_wp2_with fail
  refine (qzx _ _ _ _ _ (by omega) (by omega) (by omega)).mono ?_
  rintro e w1 ⟨rfl, rfl⟩
  go_wp2_with fail
  refine (qz6n _ _ _ _ _ (by omega) (by omega) (by omega) (by omega)).mono ?_
  rintro e w2 ⟨rfl, rfl⟩
  go_wp2
  go_ret
  exact ⟨rfl, (Below.refl _ _).alloc (Nat.le_refl _) _⟩
 go_enter Tryd.func5, Tryd.ntmps5
 go_wp2_with fail
 refine (qzx _ _ _ _ _ (by omega) (by omega) (by omega)).mono ?_
 rintro e w0 ⟨rfl, rfl⟩
 go_wp2_with fail
 refine (qzx _ _ _ _ _ (by omega) (by omega) (by omega)).mono ?_
 rintro e w1 ⟨rfl, rfl⟩
 go_wp2_with fail
 refine (qz4d _ _ _ _ _ (by omega) (by omega) (by omega)).mono ?_
 rintro e w2 ⟨rfl, rfl⟩
 go_wp2_with fail
 refine (qz7i _ _ _ _ _ (by omega) (by omega) (by omega) (by omega)).mono ?_
 rintro e w3 ⟨rfl, rfl⟩
 go_wp2
 go_ret
 exact ⟨rfl, (Below.refl _ _).alloc (Nat.le_refl _) _⟩
theorem qz3d {B : Nat} {A : Ar} {s g n r : Value} {w1 W : World} (BB : Below w1.heap.size w1 W) (hB : B <= w1.heap.size) (hA : A.size <= 1048576) (I : qzd B w1 s g n r A) :
  Calls Tryd.prog 8 #[.agg #[.int .i64 A.camera, s, g, n, r]] W fun e w' => ∃ p0 p1 p2 p3, e = .returned (.agg #[.int .i64 A.camera, .slice (some ⟨p0, 0, none⟩) A.slots.length A.slots.length, .slice (some ⟨p1, 0, none⟩) A.guides.length A.guides.length, .slice (some ⟨p2, 0, none⟩) A.nodes.length A.nodes.length, .slice (some ⟨p3, 0, none⟩) A.vers.length A.vers.length]) /\
   qzd w'.heap.size w' (.slice (some ⟨p0, 0, none⟩) A.slots.length A.slots.length) (.slice (some ⟨p1, 0, none⟩) A.guides.length A.guides.length) (.slice (some ⟨p2, 0, none⟩) A.nodes.length A.nodes.length) (.slice (some ⟨p3, 0, none⟩) A.vers.length A.vers.length) A /\ Below W.heap.size W w' :=
 qz6z B A s g n r W (Nat.le_trans hB BB.size) hA (I.below (BB.mono hB))
end
section
open Go.ChangeShapes Go.WideShapes Go.ChangeAt Go.RowKit Go.Deep
theorem qz7t : Tryd.prog.cellsOf 2 = 1 := by kernel_rfl
theorem qz22 {α : Type} {f : α -> List Value} {sz : Nat} (hf : ∀ x, (f x).length = sz) {w : World} {b o : Nat} : ∀ (l : List α) (k : Nat), (∀ i (h : i < l.length), w.rangeAt b (o + (k + i) * sz) (f l[i])) -> w.rangeAt b (o + k * sz) (qz1 f l)
 | [], _, _ => by intro j v hj; simp [qz1] at hj
 | x :: l, k, h => by
  intro j v hj
  simp only [qz1, List.flatMap_cons] at hj
  rcases Nat.lt_or_ge j sz with hlt | hge
  ·rw [List.getElem?_append_left (by rw [hf]; exact hlt)] at hj
   exact h 0 (by simp) j v (by simpa using hj)
  ·rw [List.getElem?_append_right (by rw [hf]; exact hge), hf] at hj
   have ih := qz22 hf l (k + 1) (fun i hi => by have := h (i + 1) (by simpa using hi); rw [show k + (i + 1) = k + 1 + i by omega] at this; simpa using this) (j - sz) v hj
   rw [show o + (k + 1) * sz + (j - sz) = o + k * sz + j by rw [Nat.add_mul]; omega] at ih
   exact ih
theorem qz35 {α : Type} [Inhabited α] {f : α -> List Value} {sz : Nat} (hf : ∀ x, (f x).length = sz) (hsz : 0 < sz) {t e : TypeId} (ht : Tryd.prog.underlying t = some (.slice e)) (hc : Tryd.prog.cellsOf e = sz)
  {H : Type} {enc : TypeId × Value -> H} {W : World} {base fuel : Nat} {spare : Nat -> Bool} {held : Bool} {v : Value} {x : DataW H × List MemPlace}
  (dec : ∀ (n : Nat) (cs : List Value) (y : DataW H × List MemPlace), DataW.trod enc Tryd.prog W base spare held n e cs = some y -> ∃ a, cs = f a) (h : DataW.trod enc Tryd.prog W base spare held fuel t [v] = some x) :
  ∃ (l : List α) (a : Option Addr) (cap : Nat), v = .slice a l.length cap /\ l.length <= maxLen /\ qz8 W.heap.size W v l.length (qz1 f l) := by
 rcases open_slice ht h with ⟨h0, _⟩ | ⟨a, len, cap, m, n, D, Pl, hv, hb, hl, hm, hmm, _, hx⟩
 ·obtain rfl : v = .slice none 0 0 := by simpa using h0
  exact ⟨[], none, 0, rfl, by simp, none, 0, rfl, Or.inl rfl⟩
 ·obtain rfl : v = .slice (some a) len cap := by simpa using hv
  have hlm : len <= m := by rw [hmm]; split <;> omega
  obtain ⟨A, hA⟩ := choose_lt (α := α) (n := len) (p := fun i z => W.cells? base (a.add (i * sz)) sz = some (f z)) (fun i hi => by
   obtain ⟨cs', h1, h2⟩ := hx i (by omega)
   obtain ⟨z, rfl⟩ := dec n cs' _ h2
   rw [hc] at h1
   exact ⟨z, h1⟩)
  have hlen : ((List.range len).map A).length = len := by simp
  refine ⟨(List.range len).map A, some a, cap, by rw [hlen], by rw [hlen]; omega, ?_⟩
  rw [hlen]
  refine ⟨some a, cap, rfl, ?_⟩
  rcases Nat.eq_zero_or_pos len with h0 | hpos
  ·exact Or.inl h0
  ·right
   obtain ⟨bb, off, spot⟩ := a
   obtain ⟨_, _, c0⟩ := World.cells?_some (hA 0 hpos)
   have c00 := c0 0 hsz
   rw [List.getElem?_eq_getElem (by rw [hf]; exact hsz)] at c00
   have hspot : spot = none := by simpa [Addr.add] using World.cell?_spot c00
   subst hspot
   refine ⟨bb, off, rfl, ?_, ?_⟩
   ·have := World.block_lt_of_cell? W _ c00
    simpa [Addr.add_mid] using this
   ·have R := qz22 hf (w := W) (b := bb) (o := off) ((List.range len).map A) 0 (fun i hi => by
     rw [hlen] at hi
     obtain ⟨_, _, ci⟩ := World.cells?_some (hA i hi)
     intro j u hj
     have hj2 : j < sz := by
      rcases Nat.lt_or_ge j (f (A i)).length with hl | hl
      ·rw [hf] at hl; exact hl
      ·simp only [List.getElem_map, List.getElem_range] at hj
       rw [List.getElem?_eq_none hl] at hj; cases hj
     have cj := ci j hj2
     simp only [List.getElem_map, List.getElem_range] at hj
     rw [hj] at cj
     rw [Addr.add_mid, Addr.add_mid] at cj
     simpa using cj)
    simpa using R
theorem qzah {α : Type} {l : List α} (h : l.length = 3) : ∃ c0 c1 c2, l = [c0, c1, c2] := by
 match l, h with
 | [c0, c1, c2], _ => exact ⟨c0, c1, c2, rfl⟩
theorem qzab {α : Type} {l : List α} (h : l.length = 5) : ∃ c0 c1 c2 c3 c4, l = [c0, c1, c2, c3, c4] := by
 match l, h with
 | [c0, c1, c2, c3, c4], _ => exact ⟨c0, c1, c2, c3, c4, rfl⟩
theorem qz9a {H : Type} {enc : TypeId × Value -> H} {W : World} {base fuel : Nat} {spare : Nat -> Bool} {held : Bool} {cs : List Value} {x : DataW H × List MemPlace} (h : DataW.trod enc Tryd.prog W base spare held fuel 79 cs = some x) : ∃ a : Nd, cs = ndC a := by
 obtain ⟨xs, m, _, _, hl, hlen, hf⟩ := DataW.trod_struct Tryd.underlying79 h
 obtain ⟨c0, c1, c2, rfl⟩ := qzah (hl.trans (show Tryd.prog.cellsOf 79 = 3 by kernel_rfl))
 have hx : xs.length = 3 := hlen
 have g0 := hf 0 _ rfl
 rw [List.getElem?_eq_getElem (by omega)] at g0
 have k0 : DataW.trod enc Tryd.prog W base spare held m 2 [c0] = some xs[0] := g0
 obtain ⟨v0, d0, _⟩ := DataW.trod_int Tryd.underlying2 k0
 obtain rfl : c0 = .int .i64 v0 := by simpa using d0
 have g1 := hf 1 _ rfl
 rw [List.getElem?_eq_getElem (by omega)] at g1
 have k1 : DataW.trod enc Tryd.prog W base spare held m 2 [c1] = some xs[1] := g1
 obtain ⟨v1, d1, _⟩ := DataW.trod_int Tryd.underlying2 k1
 obtain rfl : c1 = .int .i64 v1 := by simpa using d1
 have g2 := hf 2 _ rfl
 rw [List.getElem?_eq_getElem (by omega)] at g2
 have k2 : DataW.trod enc Tryd.prog W base spare held m 2 [c2] = some xs[2] := g2
 obtain ⟨v2, d2, _⟩ := DataW.trod_int Tryd.underlying2 k2
 obtain rfl : c2 = .int .i64 v2 := by simpa using d2
 exact ⟨⟨v0, v1, v2⟩, rfl⟩
theorem qza3 {H : Type} {enc : TypeId × Value -> H} {W : World} {base fuel : Nat} {spare : Nat -> Bool} {held : Bool} {cs : List Value} {x : DataW H × List MemPlace} (h : DataW.trod enc Tryd.prog W base spare held fuel 81 cs = some x) : ∃ a : Vr, cs = vrC a := by
 obtain ⟨xs, m, _, _, hl, hlen, hf⟩ := DataW.trod_struct Tryd.underlying81 h
 obtain ⟨c0, c1, c2, c3, c4, rfl⟩ := qzab (hl.trans (show Tryd.prog.cellsOf 81 = 5 by kernel_rfl))
 have hx : xs.length = 5 := hlen
 have g0 := hf 0 _ rfl
 rw [List.getElem?_eq_getElem (by omega)] at g0
 have k0 : DataW.trod enc Tryd.prog W base spare held m 2 [c0] = some xs[0] := g0
 obtain ⟨v0, d0, _⟩ := DataW.trod_int Tryd.underlying2 k0
 obtain rfl : c0 = .int .i64 v0 := by simpa using d0
 have g1 := hf 1 _ rfl
 rw [List.getElem?_eq_getElem (by omega)] at g1
 have k1 : DataW.trod enc Tryd.prog W base spare held m 4 [c1] = some xs[1] := g1
 obtain ⟨v1, d1, _⟩ := DataW.trod_bool Tryd.underlying4 k1
 obtain rfl : c1 = .bool v1 := by simpa using d1
 have g2 := hf 2 _ rfl
 rw [List.getElem?_eq_getElem (by omega)] at g2
 have k2 : DataW.trod enc Tryd.prog W base spare held m 2 [c2] = some xs[2] := g2
 obtain ⟨v2, d2, _⟩ := DataW.trod_int Tryd.underlying2 k2
 obtain rfl : c2 = .int .i64 v2 := by simpa using d2
 have g3 := hf 3 _ rfl
 rw [List.getElem?_eq_getElem (by omega)] at g3
 have k3 : DataW.trod enc Tryd.prog W base spare held m 2 [c3] = some xs[3] := g3
 obtain ⟨v3, d3, _⟩ := DataW.trod_int Tryd.underlying2 k3
 obtain rfl : c3 = .int .i64 v3 := by simpa using d3
 have g4 := hf 4 _ rfl
 rw [List.getElem?_eq_getElem (by omega)] at g4
 have k4 : DataW.trod enc Tryd.prog W base spare held m 2 [c4] = some xs[4] := g4
 obtain ⟨v4, d4, _⟩ := DataW.trod_int Tryd.underlying2 k4
 obtain rfl : c4 = .int .i64 v4 := by simpa using d4
 exact ⟨⟨v0, v1, v2, v3, v4⟩, rfl⟩
instance : Inhabited Nd := ⟨⟨0, 0, 0⟩⟩
instance : Inhabited Vr := ⟨⟨0, false, 0, 0, 0⟩⟩
theorem qz9q {H : Type} {enc : TypeId × Value -> H} {W : World} {base fuel : Nat} {spare : Nat -> Bool} {held : Bool} {cs : List Value} {x : DataW H × List MemPlace} (h : DataW.trod enc Tryd.prog W base spare held fuel 2 cs = some x) : ∃ a : Int, cs = intC a := by
 obtain ⟨v, rfl, _⟩ := DataW.trod_int Tryd.underlying2 h
 exact ⟨v, rfl⟩
theorem qz7k {H : Type} {enc : TypeId × Value -> H} {W : World} {r : Reach} {b0 base : Nat} {spare : Nat -> Bool} {held : Bool} {v : Value} {d : DataW H} {p : List MemPlace} (hv : Value.okWide Tryd.prog W r b0 28 v) (h : DataW.Trod enc Tryd.prog W base spare held 28 v d p) :
  ∃ (A : Ar) (a0 a1 a2 a3 : Option Addr) (c0 c1 c2 c3 : Nat), v = .agg #[.int .i64 A.camera, .slice a0 A.slots.length c0, .slice a1 A.guides.length c1, .slice a2 A.nodes.length c2, .slice a3 A.vers.length c3] /\
   qzd W.heap.size W (.slice a0 A.slots.length c0) (.slice a1 A.guides.length c1) (.slice a2 A.nodes.length c2) (.slice a3 A.vers.length c3) A /\ A.slots.length <= maxLen /\ A.guides.length <= maxLen /\ A.nodes.length <= maxLen /\ A.vers.length <= maxLen := by
 obtain ⟨cs, rfl, hsz⟩ := okWide_struct Tryd.underlying28 hv
 obtain ⟨fuel, hf⟩ := h
 have hcs : (Value.agg cs).cells.toList = cs.toList := rfl
 rw [hcs] at hf
 obtain ⟨xs, m, _, _, hl, hlen, hg⟩ := DataW.trod_struct Tryd.underlying28 hf
 obtain ⟨v0, v1, v2, v3, v4, hc⟩ := qzab (hl.trans (show Tryd.prog.cellsOf 28 = 5 by kernel_rfl))
 have hx : xs.length = 5 := hlen
 rw [hc] at hg
 have g0 := hg 0 _ rfl
 have g1 := hg 1 _ rfl
 have g2 := hg 2 _ rfl
 have g3 := hg 3 _ rfl
 have g4 := hg 4 _ rfl
 rw [List.getElem?_eq_getElem (by omega)] at g0 g1 g2 g3 g4
 have k0 : DataW.trod enc Tryd.prog W base spare held m 2 [v0] = some xs[0] := g0
 have k1 : DataW.trod enc Tryd.prog W base spare held m 24 [v1] = some xs[1] := g1
 have k2 : DataW.trod enc Tryd.prog W base spare held m 24 [v2] = some xs[2] := g2
 have k3 : DataW.trod enc Tryd.prog W base spare held m 25 [v3] = some xs[3] := g3
 have k4 : DataW.trod enc Tryd.prog W base spare held m 26 [v4] = some xs[4] := g4
 obtain ⟨cam, e0, _⟩ := DataW.trod_int Tryd.underlying2 k0
 obtain ⟨l1, a0, c0, rfl, m1, S1⟩ := qz35 (f := intC) (sz := 1) (fun _ => rfl) (by omega) Tryd.underlying24 qz7t (fun _ _ _ h => qz9q h) k1
 obtain ⟨l2, a1, c1, rfl, m2, S2⟩ := qz35 (f := intC) (sz := 1) (fun _ => rfl) (by omega) Tryd.underlying24 qz7t (fun _ _ _ h => qz9q h) k2
 obtain ⟨l3, a2, c2, rfl, m3, S3⟩ := qz35 (f := ndC) (sz := 3) (fun _ => rfl) (by omega) Tryd.underlying25 (by kernel_rfl) (fun _ _ _ h => qz9a h) k3
 obtain ⟨l4, a3, c3, rfl, m4, S4⟩ := qz35 (f := vrC) (sz := 5) (fun _ => rfl) (by omega) Tryd.underlying26 (by kernel_rfl) (fun _ _ _ h => qza3 h) k4
 obtain rfl : v0 = .int .i64 cam := by simpa using e0
 refine ⟨⟨cam, l1, l2, l3, l4⟩, a0, a1, a2, a3, c0, c1, c2, c3, ?_, ⟨S1, S2, S3, S4⟩, m1, m2, m3, m4⟩
 congr 1
 apply Array.toList_inj.1
 rw [hc]
end
end Go.Proofs.YtlfjhcdjgoeafaaDoor
