/-
  What the law's proof goes by, part 7.
-/
import Derived.WalkKit
import Derived.LaidEql
import Derived.Stop.Asserts
import Derived.RowKitTokens
import Derived.Test.YtlfjhcdjgoeafaaDoorSwapped00
import Derived.Test.YtlfjhcdjgoeafaaDoorSwapped01
import Derived.Test.YtlfjhcdjgoeafaaDoorSwapped05
namespace Go.Proofs.YtlfjhcdjgoeafaaDoor
open Go.ChangeShapes Go.WideShapes Go.ChangeAt Go.RowKit
set_option maxRecDepth 100000
set_option maxHeartbeats 16000000
set_option linter.unusedVariables false
set_option linter.unusedSimpArgs false
set_option linter.unnecessarySimpa false
set_option linter.unusedSectionVars false
section
def qz48 (k : Int) : Int := k
def qzt (k : Int) (n : Nat) : List Int := (List.range n).map fun (j : Nat) => qz48 (k + (j : Int))
theorem qz1o (k : Int) (n : Nat) : (qzt k n).length = n := by simp [qzt]
theorem qz5h (k : Int) (n : Nat) : qzt k (n + 1) = qzt k n ++ [qz48 (k + (n : Int))] := by
 simp [qzt, List.range_succ]
theorem qz5w (k : Int) (n j : Nat) (h : j < n) : (qzt k n)[j]'(by rw [qz1o]; exact h) = qz48 (k + (j : Int)) := by simp [qzt]
theorem qz4p (a : Option Addr) (b off len cap : Nat) (k : Int) (w : World) (hl : len <= 1048576) (hk0 : 0 <= k) (hk1 : k <= 1000000000) (hT : len = 0 ∨ (a = some ⟨b, off, none⟩ /\ w.there b off (len))) :
  Calls Tryd.prog 33 #[.slice a len cap, .int .i64 k] w fun e w' => e = .returned (.int .i64 (k + (len : Int))) /\ (len = 0 ∨ (w'.rangeAt b off (qz1 intC (qzt k len)) /\ w'.there b off (len))) /\ But (fun q => 0 < len /\ q = b) w w' := by
 go_enter Tryd.func33, Tryd.ntmps33
 go_wp2
 go_loopw [1, 5] (fun kk i wr => ∃ j : Nat, j <= len /\ i = .int .i64 j /\ kk = .int .i64 (k + (j : Int)) /\ (len = 0 ∨ (wr.rangeAt b off (qz1 intC (qzt k j)) /\ wr.there b off (len))) /\ But (fun q => 0 < len /\ q = b) w wr) (fun _ i _ => len - (intOf i).toNat)
 case atStart => exact ⟨0, Nat.zero_le _, rfl, by simp, hT.imp id (fun h => ⟨by simp [qzt, qz1, World.rangeAt], h.2⟩), But.refl _ _⟩
 case round =>
  obtain ⟨j, hj, rfl, rfl, RT, O⟩ := hrel
  by_cases hlt : j < len
  ·have hlt' : (j : Int) < (len : Int) := by omega
   rcases hT with h0 | ⟨rfl, _⟩
   ·omega
   rcases RT with h0 | ⟨R, T⟩
   ·omega
   have hjn : j + 1 <= len := by omega
   obtain ⟨tc0, tf0⟩ := T (j + 0) (by omega)
   obtain ⟨u0, hu0⟩ := Option.isSome_iff_exists.1 tc0
   rw [show off + (j + 0) = off + j by omega] at hu0 tf0
   have hlen : (qz1 intC (qzt k j)).length = j := by rw [qz5 (sz := 1) (fun _ => rfl), qz1o]; omega
   have T2 := qz1e T (j) 1 hjn
   have G := qzy R (vs := intC (qz48 (k + (j : Int)))) (by rw [hlen]; exact T2)
   rw [hlen, <- qze, <- qz5h] at G
   have O2 := O.trans (But.of_only (S := fun q => 0 < len /\ q = b) (qz4 b (intC (qz48 (k + (j : Int)))) (off + j) wr) ⟨by omega, rfl⟩)
   have T3 := World.there_setCells T b (off + j) (intC (qz48 (k + (j : Int))))
   clear hlen T2 R O
   go_wp2
   go_roundw
   case rel => exact ⟨j + 1, by omega, by go_num, by go_num, Or.inr ⟨G, T3⟩, O2⟩
   case measure => simp [intOf]; omega
  ·obtain rfl : len = j := by omega
   go_wp2
   go_ret
   exact ⟨rfl, RT, O⟩
theorem qz4e (a : Option Addr) (b off len cap : Nat) (k : Int) (w : World) (hl : len <= 1048576) (hk0 : 0 <= k) (hk1 : k <= 1000000000) (hR : len = 0 ∨ (a = some ⟨b, off, none⟩ /\ w.rangeAt b off (qz1 intC (qzt k len)))) :
  Calls Tryd.prog 36 #[.slice a len cap, .int .i64 k] w fun e w' => e = .returned (.int .i64 (k + (len : Int))) /\ w' = w := by
 go_enter Tryd.func36, Tryd.ntmps36
 go_wp2
 go_loop [1, 5] (fun kk i => ∃ j : Nat, j <= len /\ i = .int .i64 j /\ kk = .int .i64 (k + (j : Int))) (fun _ i => len - (intOf i).toNat)
 case atStart => exact ⟨0, Nat.zero_le _, rfl, by simp⟩
 case round =>
  obtain ⟨j, hj, rfl, rfl⟩ := hrel
  by_cases hlt : j < len
  ·have hlt' : (j : Int) < (len : Int) := by omega
   rcases hR with h0 | ⟨rfl, R⟩
   ·omega
   have E := qz9 (sz := 1) (fun _ => rfl) R j (by rw [qz1o]; exact hlt)
   rw [qz5w k len j hlt] at E
   have f0 : w.cell? ⟨b, off + j, none⟩ = some (.int .i64 (k + (j : Int))) := by have h := E 0 _ rfl; rw [Nat.mul_one] at h; exact h
   clear E R
   go_wp2
   go_round
   case rel => exact ⟨j + 1, by omega, by go_num, by go_num⟩
   case measure => simp [intOf]; omega
  ·obtain rfl : len = j := by omega
   go_wp2
   go_ret
   exact ⟨rfl, rfl⟩
def qz6v (k : Int) : Nd := ⟨k, k + 1, k + 1 + 1⟩
def qz1f (k : Int) (n : Nat) : List Nd := (List.range n).map fun (j : Nat) => qz6v (k + (j : Int) * 3)
theorem qz1x (k : Int) (n : Nat) : (qz1f k n).length = n := by simp [qz1f]
theorem qz5u (k : Int) (n : Nat) : qz1f k (n + 1) = qz1f k n ++ [qz6v (k + (n : Int) * 3)] := by
 simp [qz1f, List.range_succ]
theorem qz6l (k : Int) (n j : Nat) (h : j < n) : (qz1f k n)[j]'(by rw [qz1x]; exact h) = qz6v (k + (j : Int) * 3) := by simp [qz1f]
theorem qz5m (a : Option Addr) (b off len cap : Nat) (k : Int) (w : World) (hl : len <= 1048576) (hk0 : 0 <= k) (hk1 : k <= 1000000000) (hT : len = 0 ∨ (a = some ⟨b, off, none⟩ /\ w.there b off (len * 3))) :
  Calls Tryd.prog 34 #[.slice a len cap, .int .i64 k] w fun e w' => e = .returned (.int .i64 (k + (len : Int) * 3)) /\ (len = 0 ∨ (w'.rangeAt b off (qz1 ndC (qz1f k len)) /\ w'.there b off (len * 3))) /\ But (fun q => 0 < len /\ q = b) w w' := by
 go_enter Tryd.func34, Tryd.ntmps34
 go_wp2
 go_loopw [1, 5] (fun kk i wr => ∃ j : Nat, j <= len /\ i = .int .i64 j /\ kk = .int .i64 (k + (j : Int) * 3) /\ (len = 0 ∨ (wr.rangeAt b off (qz1 ndC (qz1f k j)) /\ wr.there b off (len * 3))) /\ But (fun q => 0 < len /\ q = b) w wr) (fun _ i _ => len - (intOf i).toNat)
 case atStart => exact ⟨0, Nat.zero_le _, rfl, by simp, hT.imp id (fun h => ⟨by simp [qz1f, qz1, World.rangeAt], h.2⟩), But.refl _ _⟩
 case round =>
  obtain ⟨j, hj, rfl, rfl, RT, O⟩ := hrel
  by_cases hlt : j < len
  ·have hlt' : (j : Int) < (len : Int) := by omega
   rcases hT with h0 | ⟨rfl, _⟩
   ·omega
   rcases RT with h0 | ⟨R, T⟩
   ·omega
   have hjn : j * 3 + 3 <= len * 3 := by omega
   obtain ⟨tc0, tf0⟩ := T (j * 3 + 0) (by omega)
   obtain ⟨u0, hu0⟩ := Option.isSome_iff_exists.1 tc0
   rw [show off + (j * 3 + 0) = off + j * 3 by omega] at hu0 tf0
   obtain ⟨tc1, tf1⟩ := T (j * 3 + 1) (by omega)
   obtain ⟨u1, hu1⟩ := Option.isSome_iff_exists.1 tc1
   rw [show off + (j * 3 + 1) = off + j * 3 + 1 by omega] at hu1 tf1
   obtain ⟨tc2, tf2⟩ := T (j * 3 + 2) (by omega)
   obtain ⟨u2, hu2⟩ := Option.isSome_iff_exists.1 tc2
   rw [show off + (j * 3 + 2) = off + j * 3 + 2 by omega] at hu2 tf2
   have hlen : (qz1 ndC (qz1f k j)).length = j * 3 := by rw [qz5 (sz := 3) (fun _ => rfl), qz1x]
   have T2 := qz1e T (j * 3) 3 hjn
   have G := qzy R (vs := ndC (qz6v (k + (j : Int) * 3))) (by rw [hlen]; exact T2)
   rw [hlen, <- qze, <- qz5u] at G
   have O2 := O.trans (But.of_only (S := fun q => 0 < len /\ q = b) (qz4 b (ndC (qz6v (k + (j : Int) * 3))) (off + j * 3) wr) ⟨by omega, rfl⟩)
   have T3 := World.there_setCells T b (off + j * 3) (ndC (qz6v (k + (j : Int) * 3)))
   clear hlen T2 R O
   go_wp2
   go_roundw
   case rel => exact ⟨j + 1, by omega, by go_num, by go_num, Or.inr ⟨G, T3⟩, O2⟩
   case measure => simp [intOf]; omega
  ·obtain rfl : len = j := by omega
   go_wp2
   go_ret
   exact ⟨rfl, RT, O⟩
theorem qz54 (a : Option Addr) (b off len cap : Nat) (k : Int) (w : World) (hl : len <= 1048576) (hk0 : 0 <= k) (hk1 : k <= 1000000000) (hR : len = 0 ∨ (a = some ⟨b, off, none⟩ /\ w.rangeAt b off (qz1 ndC (qz1f k len)))) :
  Calls Tryd.prog 37 #[.slice a len cap, .int .i64 k] w fun e w' => e = .returned (.int .i64 (k + (len : Int) * 3)) /\ w' = w := by
 go_enter Tryd.func37, Tryd.ntmps37
 go_wp2
 go_loop [1, 5] (fun kk i => ∃ j : Nat, j <= len /\ i = .int .i64 j /\ kk = .int .i64 (k + (j : Int) * 3)) (fun _ i => len - (intOf i).toNat)
 case atStart => exact ⟨0, Nat.zero_le _, rfl, by simp⟩
 case round =>
  obtain ⟨j, hj, rfl, rfl⟩ := hrel
  by_cases hlt : j < len
  ·have hlt' : (j : Int) < (len : Int) := by omega
   rcases hR with h0 | ⟨rfl, R⟩
   ·omega
   have E := qz9 (sz := 3) (fun _ => rfl) R j (by rw [qz1x]; exact hlt)
   rw [qz6l k len j hlt] at E
   have f0 : w.cell? ⟨b, off + j * 3, none⟩ = some (.int .i64 (k + (j : Int) * 3)) := by have h := E 0 _ rfl; exact h
   have f1 : w.cell? ⟨b, off + j * 3 + 1, none⟩ = some (.int .i64 (k + (j : Int) * 3 + 1)) := by have h := E 1 _ rfl; exact h
   have f2 : w.cell? ⟨b, off + j * 3 + 2, none⟩ = some (.int .i64 (k + (j : Int) * 3 + 1 + 1)) := by have h := E 2 _ rfl; exact h
   clear E R
   go_wp2
   go_round
   case rel => exact ⟨j + 1, by omega, by go_num, by go_num⟩
   case measure => simp [intOf]; omega
  ·obtain rfl : len = j := by omega
   go_wp2
   go_ret
   exact ⟨rfl, rfl⟩
def qz6r (k : Int) : Vr := ⟨k, (k + 1) % 3 == 0, k + 1 + 1, k + 1 + 1 + 1, k + 1 + 1 + 1 + 1⟩
def qz1j (k : Int) (n : Nat) : List Vr := (List.range n).map fun (j : Nat) => qz6r (k + (j : Int) * 5)
theorem qz1w (k : Int) (n : Nat) : (qz1j k n).length = n := by simp [qz1j]
theorem qz5q (k : Int) (n : Nat) : qz1j k (n + 1) = qz1j k n ++ [qz6r (k + (n : Int) * 5)] := by
 simp [qz1j, List.range_succ]
theorem qz6k (k : Int) (n j : Nat) (h : j < n) : (qz1j k n)[j]'(by rw [qz1w]; exact h) = qz6r (k + (j : Int) * 5) := by simp [qz1j]
theorem qz60 (a : Option Addr) (b off len cap : Nat) (k : Int) (w : World) (hl : len <= 1048576) (hk0 : 0 <= k) (hk1 : k <= 1000000000) (hT : len = 0 ∨ (a = some ⟨b, off, none⟩ /\ w.there b off (len * 5))) :
  Calls Tryd.prog 35 #[.slice a len cap, .int .i64 k] w fun e w' => e = .returned (.int .i64 (k + (len : Int) * 5)) /\ (len = 0 ∨ (w'.rangeAt b off (qz1 vrC (qz1j k len)) /\ w'.there b off (len * 5))) /\ But (fun q => 0 < len /\ q = b) w w' := by
 go_enter Tryd.func35, Tryd.ntmps35
 go_wp2
 go_loopw [1, 5] (fun kk i wr => ∃ j : Nat, j <= len /\ i = .int .i64 j /\ kk = .int .i64 (k + (j : Int) * 5) /\ (len = 0 ∨ (wr.rangeAt b off (qz1 vrC (qz1j k j)) /\ wr.there b off (len * 5))) /\ But (fun q => 0 < len /\ q = b) w wr) (fun _ i _ => len - (intOf i).toNat)
 case atStart => exact ⟨0, Nat.zero_le _, rfl, by simp, hT.imp id (fun h => ⟨by simp [qz1j, qz1, World.rangeAt], h.2⟩), But.refl _ _⟩
 case round =>
  obtain ⟨j, hj, rfl, rfl, RT, O⟩ := hrel
  by_cases hlt : j < len
  ·have hlt' : (j : Int) < (len : Int) := by omega
   rcases hT with h0 | ⟨rfl, _⟩
   ·omega
   rcases RT with h0 | ⟨R, T⟩
   ·omega
   have hjn : j * 5 + 5 <= len * 5 := by omega
   obtain ⟨tc0, tf0⟩ := T (j * 5 + 0) (by omega)
   obtain ⟨u0, hu0⟩ := Option.isSome_iff_exists.1 tc0
   rw [show off + (j * 5 + 0) = off + j * 5 by omega] at hu0 tf0
   obtain ⟨tc1, tf1⟩ := T (j * 5 + 1) (by omega)
   obtain ⟨u1, hu1⟩ := Option.isSome_iff_exists.1 tc1
   rw [show off + (j * 5 + 1) = off + j * 5 + 1 by omega] at hu1 tf1
   obtain ⟨tc2, tf2⟩ := T (j * 5 + 2) (by omega)
   obtain ⟨u2, hu2⟩ := Option.isSome_iff_exists.1 tc2
   rw [show off + (j * 5 + 2) = off + j * 5 + 2 by omega] at hu2 tf2
   obtain ⟨tc3, tf3⟩ := T (j * 5 + 3) (by omega)
   obtain ⟨u3, hu3⟩ := Option.isSome_iff_exists.1 tc3
   rw [show off + (j * 5 + 3) = off + j * 5 + 3 by omega] at hu3 tf3
   obtain ⟨tc4, tf4⟩ := T (j * 5 + 4) (by omega)
   obtain ⟨u4, hu4⟩ := Option.isSome_iff_exists.1 tc4
   rw [show off + (j * 5 + 4) = off + j * 5 + 4 by omega] at hu4 tf4
   have hlen : (qz1 vrC (qz1j k j)).length = j * 5 := by rw [qz5 (sz := 5) (fun _ => rfl), qz1w]
   have T2 := qz1e T (j * 5) 5 hjn
   have G := qzy R (vs := vrC (qz6r (k + (j : Int) * 5))) (by rw [hlen]; exact T2)
   rw [hlen, <- qze, <- qz5q] at G
   have O2 := O.trans (But.of_only (S := fun q => 0 < len /\ q = b) (qz4 b (vrC (qz6r (k + (j : Int) * 5))) (off + j * 5) wr) ⟨by omega, rfl⟩)
   have T3 := World.there_setCells T b (off + j * 5) (vrC (qz6r (k + (j : Int) * 5)))
   clear hlen T2 R O
   go_wp2
   go_roundw
   case rel => exact ⟨j + 1, by omega, by go_num, by go_num, Or.inr ⟨G, T3⟩, O2⟩
   case measure => simp [intOf]; omega
  ·obtain rfl : len = j := by omega
   go_wp2
   go_ret
   exact ⟨rfl, RT, O⟩
theorem qz5y (a : Option Addr) (b off len cap : Nat) (k : Int) (w : World) (hl : len <= 1048576) (hk0 : 0 <= k) (hk1 : k <= 1000000000) (hR : len = 0 ∨ (a = some ⟨b, off, none⟩ /\ w.rangeAt b off (qz1 vrC (qz1j k len)))) :
  Calls Tryd.prog 38 #[.slice a len cap, .int .i64 k] w fun e w' => e = .returned (.int .i64 (k + (len : Int) * 5)) /\ w' = w := by
 go_enter Tryd.func38, Tryd.ntmps38
 go_wp2
 go_loop [1, 5] (fun kk i => ∃ j : Nat, j <= len /\ i = .int .i64 j /\ kk = .int .i64 (k + (j : Int) * 5)) (fun _ i => len - (intOf i).toNat)
 case atStart => exact ⟨0, Nat.zero_le _, rfl, by simp⟩
 case round =>
  obtain ⟨j, hj, rfl, rfl⟩ := hrel
  by_cases hlt : j < len
  ·have hlt' : (j : Int) < (len : Int) := by omega
   rcases hR with h0 | ⟨rfl, R⟩
   ·omega
   have E := qz9 (sz := 5) (fun _ => rfl) R j (by rw [qz1w]; exact hlt)
   rw [qz6k k len j hlt] at E
   have f0 : w.cell? ⟨b, off + j * 5, none⟩ = some (.int .i64 (k + (j : Int) * 5)) := by have h := E 0 _ rfl; exact h
   have f1 : w.cell? ⟨b, off + j * 5 + 1, none⟩ = some (.bool ((k + (j : Int) * 5 + 1) % 3 == 0)) := by have h := E 1 _ rfl; exact h
   have f2 : w.cell? ⟨b, off + j * 5 + 2, none⟩ = some (.int .i64 (k + (j : Int) * 5 + 1 + 1)) := by have h := E 2 _ rfl; exact h
   have f3 : w.cell? ⟨b, off + j * 5 + 3, none⟩ = some (.int .i64 (k + (j : Int) * 5 + 1 + 1 + 1)) := by have h := E 3 _ rfl; exact h
   have f4 : w.cell? ⟨b, off + j * 5 + 4, none⟩ = some (.int .i64 (k + (j : Int) * 5 + 1 + 1 + 1 + 1)) := by have h := E 4 _ rfl; exact h
   clear E R
   go_wp2
   go_round
   case rel => exact ⟨j + 1, by omega, by go_num, by go_num⟩
   case measure => simp [intOf]; omega
  ·obtain rfl : len = j := by omega
   go_wp2
   go_ret
   exact ⟨rfl, rfl⟩
def qzc (lo : Nat) (w : World) (v : Value) (len sz : Nat) (cs : List Value) (b : Nat) : Prop :=
 ∃ a cap off, v = .slice a len cap /\ (len = 0 ∨ (a = some ⟨b, off, none⟩ /\ lo <= b /\ b < w.heap.size /\ w.rangeAt b off cs /\ w.there b off (len * sz)))
theorem qzc.but {lo : Nat} {w w' : World} {v : Value} {len sz b : Nat} {cs : List Value} {S : Nat -> Prop} (h : qzc lo w v len sz cs b) (hO : But S w w') (hne : 0 < len -> ¬ S b) : qzc lo w' v len sz cs b := by
 obtain ⟨a, cap, off, rfl, h⟩ := h
 refine ⟨a, cap, off, rfl, ?_⟩
 rcases h with h | ⟨rfl, h1, h2, h3, h4⟩
 ·exact Or.inl h
 ·rcases Nat.eq_zero_or_pos len with h0 | hp
  ·exact Or.inl h0
  ·exact Or.inr ⟨rfl, h1, Nat.lt_of_lt_of_le h2 hO.size, hO.range h3 h2 (hne hp), hO.there h4 h2 (hne hp)⟩
theorem qzc.below {lo : Nat} {w w' : World} {v : Value} {len sz b : Nat} {cs : List Value} (h : qzc lo w v len sz cs b) (hb : Below w.heap.size w w') : qzc lo w' v len sz cs b := by
 obtain ⟨a, cap, off, rfl, h⟩ := h
 refine ⟨a, cap, off, rfl, ?_⟩
 rcases h with h | ⟨rfl, h1, h2, h3, h4⟩
 ·exact Or.inl h
 ·exact Or.inr ⟨rfl, h1, Nat.lt_of_lt_of_le h2 hb.size, qz0 h3 hb h2, qz3 h4 hb h2⟩
theorem qzc.slice {lo : Nat} {w : World} {v : Value} {len sz b : Nat} {cs : List Value} (h : qzc lo w v len sz cs b) : qz8 w.heap.size w v len cs := by
 obtain ⟨a, cap, off, rfl, h⟩ := h
 refine ⟨a, cap, rfl, ?_⟩
 rcases h with h | ⟨rfl, h1, h2, h3, h4⟩
 ·exact Or.inl h
 ·exact Or.inr ⟨b, off, rfl, h2, h3⟩
theorem qz2n {lo : Nat} {v : Value} {len b : Nat} {cs : List Value} {w : World} (N : qzc lo w v len 1 cs b) (k : Int) (hl : len <= 1048576) (hk0 : 0 <= k) (hk1 : k <= 1000000000) :
  Calls Tryd.prog 33 #[v, .int .i64 k] w fun e w' => e = .returned (.int .i64 (k + (len : Int))) /\ qzc lo w' v len 1 (qz1 intC (qzt k len)) b /\ But (fun q => 0 < len /\ q = b) w w' := by
 obtain ⟨a, cap, off, rfl, h⟩ := N
 refine (qz4p a b off len cap k w hl hk0 hk1 (h.imp id (fun h => ⟨h.1, by simpa using h.2.2.2.2⟩))).mono ?_
 rintro e w' ⟨rfl, RT, O⟩
 refine ⟨rfl, ⟨a, cap, off, rfl, ?_⟩, O⟩
 rcases h with h | ⟨rfl, h1, h2, h3, h4⟩
 ·exact Or.inl h
 rcases RT with h | ⟨R, T⟩
 ·exact Or.inl h
 ·exact Or.inr ⟨rfl, h1, Nat.lt_of_lt_of_le h2 O.size, R, by simpa using T⟩
theorem qz2q {lo : Nat} {v : Value} {len b : Nat} {w : World} (k : Int) (N : qzc lo w v len 1 (qz1 intC (qzt k len)) b) (hl : len <= 1048576) (hk0 : 0 <= k) (hk1 : k <= 1000000000) :
  Calls Tryd.prog 36 #[v, .int .i64 k] w fun e w' => e = .returned (.int .i64 (k + (len : Int))) /\ w' = w := by
 obtain ⟨a, cap, off, rfl, h⟩ := N
 exact qz4e a b off len cap k w hl hk0 hk1 (h.imp id (fun h => ⟨h.1, h.2.2.2.1⟩))
theorem qz5l {lo : Nat} {v : Value} {len b : Nat} {cs : List Value} {w : World} (N : qzc lo w v len 3 cs b) (k : Int) (hl : len <= 1048576) (hk0 : 0 <= k) (hk1 : k <= 1000000000) :
  Calls Tryd.prog 34 #[v, .int .i64 k] w fun e w' => e = .returned (.int .i64 (k + (len : Int) * 3)) /\ qzc lo w' v len 3 (qz1 ndC (qz1f k len)) b /\ But (fun q => 0 < len /\ q = b) w w' := by
 obtain ⟨a, cap, off, rfl, h⟩ := N
 refine (qz5m a b off len cap k w hl hk0 hk1 (h.imp id (fun h => ⟨h.1, h.2.2.2.2⟩))).mono ?_
 rintro e w' ⟨rfl, RT, O⟩
 refine ⟨rfl, ⟨a, cap, off, rfl, ?_⟩, O⟩
 rcases h with h | ⟨rfl, h1, h2, h3, h4⟩
 ·exact Or.inl h
 rcases RT with h | ⟨R, T⟩
 ·exact Or.inl h
 ·exact Or.inr ⟨rfl, h1, Nat.lt_of_lt_of_le h2 O.size, R, T⟩
theorem qz4z {lo : Nat} {v : Value} {len b : Nat} {w : World} (k : Int) (N : qzc lo w v len 3 (qz1 ndC (qz1f k len)) b) (hl : len <= 1048576) (hk0 : 0 <= k) (hk1 : k <= 1000000000) :
  Calls Tryd.prog 37 #[v, .int .i64 k] w fun e w' => e = .returned (.int .i64 (k + (len : Int) * 3)) /\ w' = w := by
 obtain ⟨a, cap, off, rfl, h⟩ := N
 exact qz54 a b off len cap k w hl hk0 hk1 (h.imp id (fun h => ⟨h.1, h.2.2.2.1⟩))
theorem qz63 {lo : Nat} {v : Value} {len b : Nat} {cs : List Value} {w : World} (N : qzc lo w v len 5 cs b) (k : Int) (hl : len <= 1048576) (hk0 : 0 <= k) (hk1 : k <= 1000000000) :
  Calls Tryd.prog 35 #[v, .int .i64 k] w fun e w' => e = .returned (.int .i64 (k + (len : Int) * 5)) /\ qzc lo w' v len 5 (qz1 vrC (qz1j k len)) b /\ But (fun q => 0 < len /\ q = b) w w' := by
 obtain ⟨a, cap, off, rfl, h⟩ := N
 refine (qz60 a b off len cap k w hl hk0 hk1 (h.imp id (fun h => ⟨h.1, h.2.2.2.2⟩))).mono ?_
 rintro e w' ⟨rfl, RT, O⟩
 refine ⟨rfl, ⟨a, cap, off, rfl, ?_⟩, O⟩
 rcases h with h | ⟨rfl, h1, h2, h3, h4⟩
 ·exact Or.inl h
 rcases RT with h | ⟨R, T⟩
 ·exact Or.inl h
 ·exact Or.inr ⟨rfl, h1, Nat.lt_of_lt_of_le h2 O.size, R, T⟩
theorem qz62 {lo : Nat} {v : Value} {len b : Nat} {w : World} (k : Int) (N : qzc lo w v len 5 (qz1 vrC (qz1j k len)) b) (hl : len <= 1048576) (hk0 : 0 <= k) (hk1 : k <= 1000000000) :
  Calls Tryd.prog 38 #[v, .int .i64 k] w fun e w' => e = .returned (.int .i64 (k + (len : Int) * 5)) /\ w' = w := by
 obtain ⟨a, cap, off, rfl, h⟩ := N
 exact qz5y a b off len cap k w hl hk0 hk1 (h.imp id (fun h => ⟨h.1, h.2.2.2.1⟩))
structure qza (lo : Nat) (w : World) (s g n r : Value) (A : Ar) (b0 b1 b2 b3 : Nat) : Prop where
 s : qzc lo w s A.slots.length 1 (qz1 intC A.slots) b0
 g : qzc lo w g A.guides.length 1 (qz1 intC A.guides) b1
 n : qzc lo w n A.nodes.length 3 (qz1 ndC A.nodes) b2
 r : qzc lo w r A.vers.length 5 (qz1 vrC A.vers) b3
 d01 : b0 ≠ b1
 d02 : b0 ≠ b2
 d03 : b0 ≠ b3
 d12 : b1 ≠ b2
 d13 : b1 ≠ b3
 d23 : b2 ≠ b3
theorem qza.is {lo : Nat} {w : World} {s g n r : Value} {A : Ar} {b0 b1 b2 b3 : Nat} (N : qza lo w s g n r A b0 b1 b2 b3) : qzd w.heap.size w s g n r A := ⟨N.s.slice, N.g.slice, N.n.slice, N.r.slice⟩
theorem qza.below {lo : Nat} {w w' : World} {s g n r : Value} {A : Ar} {b0 b1 b2 b3 : Nat} (N : qza lo w s g n r A b0 b1 b2 b3) (hb : Below w.heap.size w w') : qza lo w' s g n r A b0 b1 b2 b3 := ⟨N.s.below hb, N.g.below hb, N.n.below hb, N.r.below hb, N.d01, N.d02, N.d03, N.d12, N.d13, N.d23⟩
theorem qzc.lo {lo lo' : Nat} {w : World} {v : Value} {len sz b : Nat} {cs : List Value} (h : qzc lo w v len sz cs b) (hl : lo' <= lo) : qzc lo' w v len sz cs b := by
 obtain ⟨a, cap, off, rfl, h⟩ := h
 refine ⟨a, cap, off, rfl, ?_⟩
 rcases h with h | ⟨rfl, h1, h2, h3, h4⟩
 ·exact Or.inl h
 ·exact Or.inr ⟨rfl, Nat.le_trans hl h1, h2, h3, h4⟩
theorem qza.lo {lo lo' : Nat} {w : World} {s g n r : Value} {A : Ar} {b0 b1 b2 b3 : Nat} (N : qza lo w s g n r A b0 b1 b2 b3) (hl : lo' <= lo) : qza lo' w s g n r A b0 b1 b2 b3 :=
 ⟨N.s.lo hl, N.g.lo hl, N.n.lo hl, N.r.lo hl, N.d01, N.d02, N.d03, N.d12, N.d13, N.d23⟩
structure qz7l (lo : Nat) (w : World) (s g n r : Value) (ls lg ln lv : Nat) (k : Int) (b0 b1 b2 b3 : Nat) : Prop where
 s : qzc lo w s ls 1 (qz1 intC (qzt k ls)) b0
 g : qzc lo w g lg 1 (qz1 intC (qzt (k + (ls : Int)) lg)) b1
 n : qzc lo w n ln 3 (qz1 ndC (qz1f (k + (ls : Int) + (lg : Int)) ln)) b2
 r : qzc lo w r lv 5 (qz1 vrC (qz1j (k + (ls : Int) + (lg : Int) + (ln : Int) * 3) lv)) b3
theorem qz7l.below {lo : Nat} {w w' : World} {s g n r : Value} {ls lg ln lv : Nat} {k : Int} {b0 b1 b2 b3 : Nat} (N : qz7l lo w s g n r ls lg ln lv k b0 b1 b2 b3) (hb : Below w.heap.size w w') : qz7l lo w' s g n r ls lg ln lv k b0 b1 b2 b3 := ⟨N.s.below hb, N.g.below hb, N.n.below hb, N.r.below hb⟩
def qz5o (ls lg ln lv b0 b1 b2 b3 : Nat) (q : Nat) : Prop := (0 < ls /\ q = b0) ∨ (0 < lg /\ q = b1) ∨ (0 < ln /\ q = b2) ∨ (0 < lv /\ q = b3)
theorem qzc.lt {lo : Nat} {w : World} {v : Value} {len sz b : Nat} {cs : List Value} (h : qzc lo w v len sz cs b) (hp : 0 < len) : lo <= b /\ b < w.heap.size := by
 obtain ⟨a, cap, off, rfl, h⟩ := h
 rcases h with h | ⟨rfl, h1, h2, h3, h4⟩
 ·omega
 ·exact ⟨h1, h2⟩
theorem qz6p {B : Nat} {A : Ar} {s g n r : Value} {w1 W : World} (BB : Below w1.heap.size w1 W) (hB : B <= w1.heap.size) (hA : A.size <= 1048576) (I : qzd B w1 s g n r A) :
  Calls Tryd.prog 8 #[.agg #[.int .i64 A.camera, s, g, n, r]] W fun e w' => ∃ p0 p1 p2 p3, e = .returned (.agg #[.int .i64 A.camera, .slice (some ⟨p0, 0, none⟩) A.slots.length A.slots.length, .slice (some ⟨p1, 0, none⟩) A.guides.length A.guides.length, .slice (some ⟨p2, 0, none⟩) A.nodes.length A.nodes.length, .slice (some ⟨p3, 0, none⟩) A.vers.length A.vers.length]) /\
   qza W.heap.size w' (.slice (some ⟨p0, 0, none⟩) A.slots.length A.slots.length) (.slice (some ⟨p1, 0, none⟩) A.guides.length A.guides.length) (.slice (some ⟨p2, 0, none⟩) A.nodes.length A.nodes.length) (.slice (some ⟨p3, 0, none⟩) A.vers.length A.vers.length) A p0 p1 p2 p3 /\ Below W.heap.size W w' :=
 (qz38 B A s g n r W (Nat.le_trans hB BB.size) hA (I.below (BB.mono hB))).mono fun e w' ⟨p0, p1, p2, p3, he, h0, h1, h2, h3, h4, R0, R1, R2, R3, b⟩ => ⟨p0, p1, p2, p3, he,
  ⟨⟨_, _, 0, rfl, Or.inr ⟨rfl, by omega, by omega, R0.row, R0.may⟩⟩, ⟨_, _, 0, rfl, Or.inr ⟨rfl, by omega, by omega, R1.row, R1.may⟩⟩, ⟨_, _, 0, rfl, Or.inr ⟨rfl, by omega, by omega, R2.row, R2.may⟩⟩, ⟨_, _, 0, rfl, Or.inr ⟨rfl, by omega, h4, R3.row, R3.may⟩⟩, by omega, by omega, by omega, by omega, by omega, by omega⟩, b⟩
theorem qza8 {w : World} {b : Nat} {v0 v1 v2 v3 v4 : Value} (R : w.rangeAt b 0 [v0, v1, v2, v3, v4]) : w.cell? ⟨b, 1, none⟩ = some v1 /\ w.cell? ⟨b, 2, none⟩ = some v2 /\ w.cell? ⟨b, 3, none⟩ = some v3 /\ w.cell? ⟨b, 4, none⟩ = some v4 := by
 refine ⟨?_, ?_, ?_, ?_⟩
 ·simpa using R 1 v1 rfl
 ·simpa using R 2 v2 rfl
 ·simpa using R 3 v3 rfl
 ·simpa using R 4 v4 rfl
theorem qz31 {lo : Nat} {w : World} {s g n r : Value} {A : Ar} {b0 b1 b2 b3 : Nat} (cam : Int) (N : qza lo w s g n r A b0 b1 b2 b3) (k : Int) (hA : A.size <= 1048576) (hk0 : 0 <= k) (hk1 : k <= 1000000) :
  Calls Tryd.prog 11 #[.agg #[.int .i64 cam, s, g, n, r], .int .i64 k] w fun e w' => e = .returned (.int .i64 (k + (A.slots.length : Int) + (A.guides.length : Int) + (A.nodes.length : Int) * 3 + (A.vers.length : Int) * 5)) /\
   qz7l lo w' s g n r A.slots.length A.guides.length A.nodes.length A.vers.length k b0 b1 b2 b3 /\ But (qz5o A.slots.length A.guides.length A.nodes.length A.vers.length b0 b1 b2 b3) w w' := by
 unfold Ar.size at hA
 have l0 := N.s.lt
 have l1 := N.g.lt
 have l2 := N.n.lt
 have l3 := N.r.lt
 obtain ⟨N0, N1, N2, N3, d01, d02, d03, d12, d13, d23⟩ := N
 have al := (Below.refl w.heap.size w).alloc (Nat.le_refl _) (.cells #[.int .i64 cam, s, g, n, r] 33)
 have X0 := qz6 w [.int .i64 cam, s, g, n, r] 33
 have hz0 : w.heap.size < (w.alloc (.cells #[.int .i64 cam, s, g, n, r] 33)).heap.size := by simp
 have M0 := N0.below al
 have M1 := N1.below al
 have M2 := N2.below al
 have M3 := N3.below al
 have K0 : But (qz5o A.slots.length A.guides.length A.nodes.length A.vers.length b0 b1 b2 b3) w (w.alloc (.cells #[.int .i64 cam, s, g, n, r] 33)) := But.of_below al
 clear N0 N1 N2 N3 al
 generalize hls : A.slots.length = ls at *
 generalize hlg : A.guides.length = lg at *
 generalize hln : A.nodes.length = ln at *
 generalize hlv : A.vers.length = lv at *
 clear hls hlg hln hlv
 go_enter Tryd.func11, Tryd.ntmps11
 go_wp2_with fail
 refine (qz2n M0 (k) (by omega) (by omega) (by omega)).mono ?_
 rintro e w1 ⟨rfl, M0', O0⟩
 clear M0
 have M0 := M0'
 clear M0'
 replace M1 := M1.but O0 (fun _ h => by have := h.2; omega)
 replace M2 := M2.but O0 (fun _ h => by have := h.2; omega)
 replace M3 := M3.but O0 (fun _ h => by have := h.2; omega)
 have X1 := O0.range X0 hz0 (fun h => by have := h.2; have := l0 h.1; omega)
 have hz1 := Nat.lt_of_lt_of_le hz0 O0.size
 have K1 := K0.trans (O0.mono (fun q h => by unfold qz5o; omega))
 clear O0 X0 K0
 obtain ⟨x1, x2, x3, x4⟩ := qza8 X1
 go_wp2_with fail
 refine (qz2n M1 (k + (ls : Int)) (by omega) (by omega) (by omega)).mono ?_
 rintro e w2 ⟨rfl, M1', O1⟩
 clear M1
 have M1 := M1'
 clear M1'
 replace M0 := M0.but O1 (fun _ h => by have := h.2; omega)
 replace M2 := M2.but O1 (fun _ h => by have := h.2; omega)
 replace M3 := M3.but O1 (fun _ h => by have := h.2; omega)
 have X2 := O1.range X1 hz1 (fun h => by have := h.2; have := l1 h.1; omega)
 have hz2 := Nat.lt_of_lt_of_le hz1 O1.size
 have K2 := K1.trans (O1.mono (fun q h => by unfold qz5o; omega))
 clear O1 X1 K1
 obtain ⟨x1, x2, x3, x4⟩ := qza8 X2
 go_wp2_with fail
 refine (qz5l M2 (k + (ls : Int) + (lg : Int)) (by omega) (by omega) (by omega)).mono ?_
 rintro e w3 ⟨rfl, M2', O2⟩
 clear M2
 have M2 := M2'
 clear M2'
 replace M0 := M0.but O2 (fun _ h => by have := h.2; omega)
 replace M1 := M1.but O2 (fun _ h => by have := h.2; omega)
 replace M3 := M3.but O2 (fun _ h => by have := h.2; omega)
 have X3 := O2.range X2 hz2 (fun h => by have := h.2; have := l2 h.1; omega)
 have hz3 := Nat.lt_of_lt_of_le hz2 O2.size
 have K3 := K2.trans (O2.mono (fun q h => by unfold qz5o; omega))
 clear O2 X2 K2
 obtain ⟨x1, x2, x3, x4⟩ := qza8 X3
 go_wp2_with fail
 refine (qz63 M3 (k + (ls : Int) + (lg : Int) + (ln : Int) * 3) (by omega) (by omega) (by omega)).mono ?_
 rintro e w4 ⟨rfl, M3', O3⟩
 clear M3
 have M3 := M3'
 clear M3'
 replace M0 := M0.but O3 (fun _ h => by have := h.2; omega)
 replace M1 := M1.but O3 (fun _ h => by have := h.2; omega)
 replace M2 := M2.but O3 (fun _ h => by have := h.2; omega)
 have X4 := O3.range X3 hz3 (fun h => by have := h.2; have := l3 h.1; omega)
 have hz4 := Nat.lt_of_lt_of_le hz3 O3.size
 have K4 := K3.trans (O3.mono (fun q h => by unfold qz5o; omega))
 clear O3 X3 K3
 go_wp2
 go_ret
 exact ⟨rfl, ⟨M0, M1, M2, M3⟩, K4⟩
theorem qz30 {lo : Nat} {w : World} {s g n r : Value} {ls lg ln lv : Nat} {b0 b1 b2 b3 : Nat} (cam : Int) (k : Int) (M : qz7l lo w s g n r ls lg ln lv k b0 b1 b2 b3) (hA : ls + lg + ln + lv <= 1048576) (hk0 : 0 <= k) (hk1 : k <= 1000000) :
  Calls Tryd.prog 12 #[.agg #[.int .i64 cam, s, g, n, r], .int .i64 k] w fun e w' => e = .returned (.int .i64 (k + (ls : Int) + (lg : Int) + (ln : Int) * 3 + (lv : Int) * 5)) /\ Below w.heap.size w w' := by
 have al := (Below.refl w.heap.size w).alloc (Nat.le_refl _) (.cells #[.int .i64 cam, s, g, n, r] 33)
 obtain ⟨M0, M1, M2, M3⟩ := M.below al
 go_enter Tryd.func12, Tryd.ntmps12
 go_wp2_with fail
 refine (qz2q (k) M0 (by omega) (by omega) (by omega)).mono ?_
 rintro e w1 ⟨rfl, rfl⟩
 go_wp2_with fail
 refine (qz2q (k + (ls : Int)) M1 (by omega) (by omega) (by omega)).mono ?_
 rintro e w2 ⟨rfl, rfl⟩
 go_wp2_with fail
 refine (qz4z (k + (ls : Int) + (lg : Int)) M2 (by omega) (by omega) (by omega)).mono ?_
 rintro e w3 ⟨rfl, rfl⟩
 go_wp2_with fail
 refine (qz62 (k + (ls : Int) + (lg : Int) + (ln : Int) * 3) M3 (by omega) (by omega) (by omega)).mono ?_
 rintro e w4 ⟨rfl, rfl⟩
 go_wp2
 go_ret
 exact ⟨rfl, al⟩
end
section
open Go.ChangeShapes Go.WideShapes Go.ChangeAt Go.RowKit Go.Extern.Stop Go.Stop Go.Extern
theorem qz78 (v : Value) (w : World) : (Extern.ReflectliteType.typeOf #[.iface 144 v]).run Tryd.prog w = .ok (.iface 128 (.agg #[.pointer (some ⟨4, 144, none⟩)])) w := by kernel_rfl
theorem qz3g (w : World) : ((Extern.ReflectliteType.method fun t => do Extern.Rtype.noPackHeld "Comparable" t; (fun a => Value.bool a.comparable) <$> typeInfo t) #[.agg #[.pointer (some ⟨4, 144, none⟩)]]).run Tryd.prog w = .ok (.bool true) w := by kernel_rfl
theorem qz1s (v : Value) (w : World) : (Go.method 278 128 v "Comparable").run Tryd.prog w = .ok (122, v) w := by kernel_rfl
theorem qz9h : (Tryd.prog.info? 144).map (·.comparable) = some true := by kernel_rfl
theorem qz9k : (Tryd.prog.info? 166).map (·.size) = some 1 := by kernel_rfl
theorem qzae (v : Value) (xT : TypeId) (w : World) : (Instr.typeAssert (.iface 144 v) xT 140 true).run Tryd.prog w = .ok (.tuple #[.nilIface, .bool false]) w := run_typeAssert_lacksB Tryd.underlying140 (by kernel_rfl) (by kernel_rfl) v xT w
theorem qz86 (v : Value) (xT : TypeId) (w : World) : (Instr.typeAssert (.iface 144 v) xT 135 true).run Tryd.prog w = .ok (.tuple #[.nilIface, .bool false]) w := run_typeAssert_lacksB Tryd.underlying135 (by kernel_rfl) (by kernel_rfl) v xT w
theorem qz7j (v : Value) (xT : TypeId) (w : World) : (Instr.typeAssert (.iface 144 v) xT 137 true).run Tryd.prog w = .ok (.tuple #[.nilIface, .bool false]) w := run_typeAssert_lacksB Tryd.underlying137 (by kernel_rfl) (by kernel_rfl) v xT w
theorem qzac (v : Value) (xT : TypeId) (w : World) : (Instr.typeAssert (.iface 90 v) xT 140 true).run Tryd.prog w = .ok (.tuple #[.nilIface, .bool false]) w := run_typeAssert_lacksB Tryd.underlying140 (by kernel_rfl) (by kernel_rfl) v xT w
theorem qz5k (v : Value) (xT : TypeId) (w : World) : (Instr.typeAssert (.iface 90 v) xT 135 true).run Tryd.prog w = .ok (.tuple #[.iface 90 v, .bool true]) w := run_typeAssert_hasB Tryd.underlying135 (by kernel_rfl) v xT w
theorem qz2z (v : Value) (w : World) : (Go.method 278 90 v "Unwrap").run Tryd.prog w = .ok (115, v) w := by kernel_rfl
def qz70 (w : World) (a : Addr) : Prop := ∃ ca ta, w.heap[a.block]? = some (.cells ca ta (0, 0))
theorem qz70.lt {w : World} {a : Addr} (h : qz70 w a) : a.block < w.heap.size := by
 obtain ⟨ca, ta, h⟩ := h
 rcases Nat.lt_or_ge a.block w.heap.size with h1 | h1
 ·exact h1
 ·rw [Array.getElem?_eq_none h1] at h; cases h
theorem qz70.below {w w' : World} {a : Addr} {B : Nat} (h : qz70 w a) (hb : Below B w w') (hl : a.block < B) : qz70 w' a := by
 obtain ⟨ca, ta, h⟩ := h
 exact ⟨ca, ta, (hb.block a.block hl).trans h⟩
theorem qz8b (b : Addr) (w : World) :
  Calls Tryd.prog 61 #[.nilIface, .iface 144 (.pointer (some b))] w fun e w' => e = .returned (.bool false) /\ w' = w := by
 have hn := run_eql_iface_nil_left (P := Tryd.prog) w 144 (.pointer (some b)) Tryd.underlying56
 go_enter Tryd.func61, Tryd.ntmps61
 go_wp2
 go_ret
 exact ⟨rfl, rfl⟩
theorem qz77 (a : Addr) (w : World) :
  Calls Tryd.prog 61 #[.iface 90 (.agg #[.iface 144 (.pointer (some a))]), .iface 144 (.pointer (some a))] w fun e w' => e = .returned (.bool true) /\ Below w.heap.size w w' := by
 obtain ⟨i, hi, hcmp⟩ := Option.map_eq_some_iff.1 qz9h
 obtain ⟨j, hj, hjs⟩ := Option.map_eq_some_iff.1 qz9k
 have h8 := @run_callFunc_extern Tryd.prog 82 _ Extern.ReflectliteType.typeOf Tryd.func82 (by kernel_rfl) (by kernel_rfl) (by kernel_rfl) (by kernel_rfl)
 have h32 := @run_callFunc_extern Tryd.prog 122 _ (Extern.ReflectliteType.method fun t => do Extern.Rtype.noPackHeld "Comparable" t; pure (.bool (<- typeInfo t).comparable)) Tryd.func122 (by kernel_rfl) (by kernel_rfl) (by kernel_rfl) (by kernel_rfl)
 have tT := qz78
 have cT := qz3g
 have mR := qz1s
 have nU := qzac
 have uU := qz5k
 have mU := qz2z
 have heq := fun w : World => run_eql_iface_ptr_same (P := Tryd.prog) w a Tryd.underlying56 Tryd.underlying144 hi hcmp hj
 have hty := run_eql_iface_types (P := Tryd.prog) 90 144 (.agg #[.iface 144 (.pointer (some a))]) (.pointer (some a)) Tryd.underlying56 (by decide) w
 go_enter Tryd.func61, Tryd.ntmps61
 go_wp2
 refine wp_loop_rounds 2 ?_
 rw [rounds_succ]
 go_wp2
 rw [rounds_succ]
 go_wp2
 go_ret
 exact ⟨rfl, (Below.refl w.heap.size w).alloc (Nat.le_refl _) _⟩
theorem qz45 (a b : Addr) (w : World) (hne : a ≠ b) (ha0 : qz70 w a) (hb0 : qz70 w b) :
  Calls Tryd.prog 61 #[.iface 90 (.agg #[.iface 144 (.pointer (some a))]), .iface 144 (.pointer (some b))] w fun e w' => e = .returned (.bool false) /\ Below w.heap.size w w' := by
 obtain ⟨i, hi, hcmp⟩ := Option.map_eq_some_iff.1 qz9h
 obtain ⟨j, hj, hjs⟩ := Option.map_eq_some_iff.1 qz9k
 have h8 := @run_callFunc_extern Tryd.prog 82 _ Extern.ReflectliteType.typeOf Tryd.func82 (by kernel_rfl) (by kernel_rfl) (by kernel_rfl) (by kernel_rfl)
 have h32 := @run_callFunc_extern Tryd.prog 122 _ (Extern.ReflectliteType.method fun t => do Extern.Rtype.noPackHeld "Comparable" t; pure (.bool (<- typeInfo t).comparable)) Tryd.func122 (by kernel_rfl) (by kernel_rfl) (by kernel_rfl) (by kernel_rfl)
 have tT := qz78
 have cT := qz3g
 have mR := qz1s
 have nE := qzae
 have uE := qz86
 have vE := qz7j
 have nU := qzac
 have uU := qz5k
 have mU := qz2z
 have K := (Below.refl w.heap.size w).alloc (Nat.le_refl _) (.cells #[.iface 144 (.pointer (some a))] 90)
 obtain ⟨ca, ta, ha⟩ := ha0.below K ha0.lt
 obtain ⟨cb, tb, hb⟩ := hb0.below K hb0.lt
 have heq := run_eql_iface_ptr_other (P := Tryd.prog) _ Tryd.underlying56 Tryd.underlying144 hi hcmp hj (by rw [hjs]; decide) hne ha hb
 have hty := run_eql_iface_types (P := Tryd.prog) 90 144 (.agg #[.iface 144 (.pointer (some a))]) (.pointer (some b)) Tryd.underlying56 (by decide) w
 clear ha hb
 go_enter Tryd.func61, Tryd.ntmps61
 go_wp2
 refine wp_loop_rounds 2 ?_
 rw [rounds_succ]
 go_wp2
 rw [rounds_succ]
 go_wp2
 go_ret
 exact ⟨rfl, K⟩
end
end Go.Proofs.YtlfjhcdjgoeafaaDoor
