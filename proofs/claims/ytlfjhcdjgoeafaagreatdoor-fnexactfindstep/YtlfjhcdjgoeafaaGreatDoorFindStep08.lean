/-
  What the law's proof goes by, part 9.
-/
import Derived.Deep.Cut
import Derived.Test.YtlfjhcdjgoeafaaGreatDoorFindStep00
import Derived.Test.YtlfjhcdjgoeafaaGreatDoorFindStep01
import Derived.Test.YtlfjhcdjgoeafaaGreatDoorFindStep02
import Derived.Test.YtlfjhcdjgoeafaaGreatDoorFindStep04
import Derived.Test.YtlfjhcdjgoeafaaGreatDoorFindStep07
namespace Go.Proofs.YtlfjhcdjgoeafaaGreatDoor
open Go.ChangeShapes Go.WideShapes Go.ChangeAt Go.RowKit
set_option linter.unusedVariables false
set_option linter.unusedSimpArgs false
set_option linter.unnecessarySimpa false
set_option linter.unusedSectionVars false
section
def markInt (k : Int) : Int := k
def markInts (k : Int) (n : Nat) : List Int := (List.range n).map fun (j : Nat) => markInt (k + (j : Int))
theorem markInts_length (k : Int) (n : Nat) : (markInts k n).length = n := by simp [markInts]
theorem markInts_succ (k : Int) (n : Nat) : markInts k (n + 1) = markInts k n ++ [markInt (k + (n : Int))] := by
 simp [markInts, List.range_succ]
theorem markInts_get (k : Int) (n j : Nat) (h : j < n) : (markInts k n)[j]'(by rw [markInts_length]; exact h) = markInt (k + (j : Int)) := by simp [markInts]
set_option maxHeartbeats 1000000 in
theorem markInt64S_any (a : Option Addr) (b off len cap : Nat) (k : Int) (w : World) (hl : len ≤ 1048576) (hk0 : 0 ≤ k) (hk1 : k ≤ 1000000000) (hT : len = 0 ∨ (a = some ⟨b, off, none⟩ ∧ w.there b off (len))) :
  Calls Tryz.prog 34 #[.slice a len cap, .int .i64 k] w fun e w' => e = .returned (.int .i64 (k + (len : Int))) ∧ (len = 0 ∨ (w'.rangeAt b off (cellsOf intC (markInts k len)) ∧ w'.there b off (len))) ∧ But (fun q => 0 < len ∧ q = b) w w' := by
 go_enter Tryz.func34, Tryz.ntmps34
 go_wp2
 go_loopw [1, 5] (fun kk i wr => ∃ j : Nat, j ≤ len ∧ i = .int .i64 j ∧ kk = .int .i64 (k + (j : Int)) ∧ (len = 0 ∨ (wr.rangeAt b off (cellsOf intC (markInts k j)) ∧ wr.there b off (len))) ∧ But (fun q => 0 < len ∧ q = b) w wr) (fun _ i _ => len - (intOf i).toNat)
 case atStart => exact ⟨0, Nat.zero_le _, rfl, by simp, hT.imp id (fun h => ⟨by simp [markInts, cellsOf, World.rangeAt], h.2⟩), But.refl _ _⟩
 case round =>
  obtain ⟨j, hj, rfl, rfl, RT, O⟩ := hrel
  by_cases hlt : j < len
  ·have hlt' : (j : Int) < (len : Int) := by omega
   rcases hT with h0 | ⟨rfl, _⟩
   ·omega
   rcases RT with h0 | ⟨R, T⟩
   ·omega
   have hjn : j + 1 ≤ len := by omega
   obtain ⟨tc0, tf0⟩ := T (j + 0) (by omega)
   obtain ⟨u0, hu0⟩ := Option.isSome_iff_exists.1 tc0
   rw [show off + (j + 0) = off + j by omega] at hu0 tf0
   have hlen : (cellsOf intC (markInts k j)).length = j := by rw [cellsOf_length (sz := 1) (fun _ => rfl), markInts_length]; omega
   have T2 := there_part T (j) 1 hjn
   have G := rangeAt_grow R (vs := intC (markInt (k + (j : Int)))) (by rw [hlen]; exact T2)
   rw [hlen, ← cellsOf_snoc, ← markInts_succ] at G
   have O2 := O.trans (But.of_only (S := fun q => 0 < len ∧ q = b) (only_setCells b (intC (markInt (k + (j : Int)))) (off + j) wr) ⟨by omega, rfl⟩)
   have T3 := World.there_setCells T b (off + j) (intC (markInt (k + (j : Int))))
   clear hlen T2 R O
   go_wp2
   go_roundw
   case rel => exact ⟨j + 1, by omega, by go_num, by go_num, Or.inr ⟨G, T3⟩, O2⟩
   case measure => simp [intOf]; omega
  ·obtain rfl : len = j := by omega
   go_wp2
   go_ret
   exact ⟨rfl, RT, O⟩
set_option maxHeartbeats 1000000 in
theorem heldInt64S_any (a : Option Addr) (b off len cap : Nat) (k : Int) (w : World) (hl : len ≤ 1048576) (hk0 : 0 ≤ k) (hk1 : k ≤ 1000000000) (hR : len = 0 ∨ (a = some ⟨b, off, none⟩ ∧ w.rangeAt b off (cellsOf intC (markInts k len)))) :
  Calls Tryz.prog 67 #[.slice a len cap, .int .i64 k] w fun e w' => e = .returned (.int .i64 (k + (len : Int))) ∧ w' = w := by
 go_enter Tryz.func67, Tryz.ntmps67
 go_wp2
 go_loop [1, 5] (fun kk i => ∃ j : Nat, j ≤ len ∧ i = .int .i64 j ∧ kk = .int .i64 (k + (j : Int))) (fun _ i => len - (intOf i).toNat)
 case atStart => exact ⟨0, Nat.zero_le _, rfl, by simp⟩
 case round =>
  obtain ⟨j, hj, rfl, rfl⟩ := hrel
  by_cases hlt : j < len
  ·have hlt' : (j : Int) < (len : Int) := by omega
   rcases hR with h0 | ⟨rfl, R⟩
   ·omega
   have E := rangeAt_elem (sz := 1) (fun _ => rfl) R j (by rw [markInts_length]; exact hlt)
   rw [markInts_get k len j hlt] at E
   have f0 : w.cell? ⟨b, off + j, none⟩ = some (.int .i64 (k + (j : Int))) := by have h := E 0 _ rfl; rw [Nat.mul_one] at h; exact h
   clear E R
   go_wp2
   go_round
   case rel => exact ⟨j + 1, by omega, by go_num, by go_num⟩
   case measure => simp [intOf]; omega
  ·obtain rfl : len = j := by omega
   go_wp2
   go_ret
   exact ⟨rfl, rfl⟩
def markNd (k : Int) : Nd := ⟨k, k + 1, k + 1 + 1⟩
def markNds (k : Int) (n : Nat) : List Nd := (List.range n).map fun (j : Nat) => markNd (k + (j : Int) * 3)
theorem markNds_length (k : Int) (n : Nat) : (markNds k n).length = n := by simp [markNds]
theorem markNds_succ (k : Int) (n : Nat) : markNds k (n + 1) = markNds k n ++ [markNd (k + (n : Int) * 3)] := by
 simp [markNds, List.range_succ]
theorem markNds_get (k : Int) (n j : Nat) (h : j < n) : (markNds k n)[j]'(by rw [markNds_length]; exact h) = markNd (k + (j : Int) * 3) := by simp [markNds]
set_option maxHeartbeats 1000000 in
theorem markNodeS_any (a : Option Addr) (b off len cap : Nat) (k : Int) (w : World) (hl : len ≤ 1048576) (hk0 : 0 ≤ k) (hk1 : k ≤ 1000000000) (hT : len = 0 ∨ (a = some ⟨b, off, none⟩ ∧ w.there b off (len * 3))) :
  Calls Tryz.prog 35 #[.slice a len cap, .int .i64 k] w fun e w' => e = .returned (.int .i64 (k + (len : Int) * 3)) ∧ (len = 0 ∨ (w'.rangeAt b off (cellsOf ndC (markNds k len)) ∧ w'.there b off (len * 3))) ∧ But (fun q => 0 < len ∧ q = b) w w' := by
 go_enter Tryz.func35, Tryz.ntmps35
 go_wp2
 go_loopw [1, 5] (fun kk i wr => ∃ j : Nat, j ≤ len ∧ i = .int .i64 j ∧ kk = .int .i64 (k + (j : Int) * 3) ∧ (len = 0 ∨ (wr.rangeAt b off (cellsOf ndC (markNds k j)) ∧ wr.there b off (len * 3))) ∧ But (fun q => 0 < len ∧ q = b) w wr) (fun _ i _ => len - (intOf i).toNat)
 case atStart => exact ⟨0, Nat.zero_le _, rfl, by simp, hT.imp id (fun h => ⟨by simp [markNds, cellsOf, World.rangeAt], h.2⟩), But.refl _ _⟩
 case round =>
  obtain ⟨j, hj, rfl, rfl, RT, O⟩ := hrel
  by_cases hlt : j < len
  ·have hlt' : (j : Int) < (len : Int) := by omega
   rcases hT with h0 | ⟨rfl, _⟩
   ·omega
   rcases RT with h0 | ⟨R, T⟩
   ·omega
   have hjn : j * 3 + 3 ≤ len * 3 := by omega
   obtain ⟨tc0, tf0⟩ := T (j * 3 + 0) (by omega)
   obtain ⟨u0, hu0⟩ := Option.isSome_iff_exists.1 tc0
   rw [show off + (j * 3 + 0) = off + j * 3 by omega] at hu0 tf0
   obtain ⟨tc1, tf1⟩ := T (j * 3 + 1) (by omega)
   obtain ⟨u1, hu1⟩ := Option.isSome_iff_exists.1 tc1
   rw [show off + (j * 3 + 1) = off + j * 3 + 1 by omega] at hu1 tf1
   obtain ⟨tc2, tf2⟩ := T (j * 3 + 2) (by omega)
   obtain ⟨u2, hu2⟩ := Option.isSome_iff_exists.1 tc2
   rw [show off + (j * 3 + 2) = off + j * 3 + 2 by omega] at hu2 tf2
   have hlen : (cellsOf ndC (markNds k j)).length = j * 3 := by rw [cellsOf_length (sz := 3) (fun _ => rfl), markNds_length]
   have T2 := there_part T (j * 3) 3 hjn
   have G := rangeAt_grow R (vs := ndC (markNd (k + (j : Int) * 3))) (by rw [hlen]; exact T2)
   rw [hlen, ← cellsOf_snoc, ← markNds_succ] at G
   have O2 := O.trans (But.of_only (S := fun q => 0 < len ∧ q = b) (only_setCells b (ndC (markNd (k + (j : Int) * 3))) (off + j * 3) wr) ⟨by omega, rfl⟩)
   have T3 := World.there_setCells T b (off + j * 3) (ndC (markNd (k + (j : Int) * 3)))
   clear hlen T2 R O
   go_wp2
   go_roundw
   case rel => exact ⟨j + 1, by omega, by go_num, by go_num, Or.inr ⟨G, T3⟩, O2⟩
   case measure => simp [intOf]; omega
  ·obtain rfl : len = j := by omega
   go_wp2
   go_ret
   exact ⟨rfl, RT, O⟩
set_option maxHeartbeats 1000000 in
theorem heldNodeS_any (a : Option Addr) (b off len cap : Nat) (k : Int) (w : World) (hl : len ≤ 1048576) (hk0 : 0 ≤ k) (hk1 : k ≤ 1000000000) (hR : len = 0 ∨ (a = some ⟨b, off, none⟩ ∧ w.rangeAt b off (cellsOf ndC (markNds k len)))) :
  Calls Tryz.prog 68 #[.slice a len cap, .int .i64 k] w fun e w' => e = .returned (.int .i64 (k + (len : Int) * 3)) ∧ w' = w := by
 go_enter Tryz.func68, Tryz.ntmps68
 go_wp2
 go_loop [1, 5] (fun kk i => ∃ j : Nat, j ≤ len ∧ i = .int .i64 j ∧ kk = .int .i64 (k + (j : Int) * 3)) (fun _ i => len - (intOf i).toNat)
 case atStart => exact ⟨0, Nat.zero_le _, rfl, by simp⟩
 case round =>
  obtain ⟨j, hj, rfl, rfl⟩ := hrel
  by_cases hlt : j < len
  ·have hlt' : (j : Int) < (len : Int) := by omega
   rcases hR with h0 | ⟨rfl, R⟩
   ·omega
   have E := rangeAt_elem (sz := 3) (fun _ => rfl) R j (by rw [markNds_length]; exact hlt)
   rw [markNds_get k len j hlt] at E
   have f0 : w.cell? ⟨b, off + j * 3, none⟩ = some (.int .i64 (k + (j : Int) * 3)) := by have h := E 0 _ rfl; exact h
   have f1 : w.cell? ⟨b, off + j * 3 + 1, none⟩ = some (.int .i64 (k + (j : Int) * 3 + 1)) := by have h := E 1 _ rfl; exact h
   have f2 : w.cell? ⟨b, off + j * 3 + 2, none⟩ = some (.int .i64 (k + (j : Int) * 3 + 1 + 1)) := by have h := E 2 _ rfl; exact h
   clear E R
   go_wp2
   go_round
   case rel => exact ⟨j + 1, by omega, by go_num, by go_num⟩
   case measure => simp [intOf]; omega
  ·obtain rfl : len = j := by omega
   go_wp2
   go_ret
   exact ⟨rfl, rfl⟩
def markVr (k : Int) : Vr := ⟨k, (k + 1) % 3 == 0, k + 1 + 1, k + 1 + 1 + 1, k + 1 + 1 + 1 + 1⟩
def markVrs (k : Int) (n : Nat) : List Vr := (List.range n).map fun (j : Nat) => markVr (k + (j : Int) * 5)
theorem markVrs_length (k : Int) (n : Nat) : (markVrs k n).length = n := by simp [markVrs]
theorem markVrs_succ (k : Int) (n : Nat) : markVrs k (n + 1) = markVrs k n ++ [markVr (k + (n : Int) * 5)] := by
 simp [markVrs, List.range_succ]
theorem markVrs_get (k : Int) (n j : Nat) (h : j < n) : (markVrs k n)[j]'(by rw [markVrs_length]; exact h) = markVr (k + (j : Int) * 5) := by simp [markVrs]
set_option maxHeartbeats 1000000 in
theorem markVerS_any (a : Option Addr) (b off len cap : Nat) (k : Int) (w : World) (hl : len ≤ 1048576) (hk0 : 0 ≤ k) (hk1 : k ≤ 1000000000) (hT : len = 0 ∨ (a = some ⟨b, off, none⟩ ∧ w.there b off (len * 5))) :
  Calls Tryz.prog 36 #[.slice a len cap, .int .i64 k] w fun e w' => e = .returned (.int .i64 (k + (len : Int) * 5)) ∧ (len = 0 ∨ (w'.rangeAt b off (cellsOf vrC (markVrs k len)) ∧ w'.there b off (len * 5))) ∧ But (fun q => 0 < len ∧ q = b) w w' := by
 go_enter Tryz.func36, Tryz.ntmps36
 go_wp2
 go_loopw [1, 5] (fun kk i wr => ∃ j : Nat, j ≤ len ∧ i = .int .i64 j ∧ kk = .int .i64 (k + (j : Int) * 5) ∧ (len = 0 ∨ (wr.rangeAt b off (cellsOf vrC (markVrs k j)) ∧ wr.there b off (len * 5))) ∧ But (fun q => 0 < len ∧ q = b) w wr) (fun _ i _ => len - (intOf i).toNat)
 case atStart => exact ⟨0, Nat.zero_le _, rfl, by simp, hT.imp id (fun h => ⟨by simp [markVrs, cellsOf, World.rangeAt], h.2⟩), But.refl _ _⟩
 case round =>
  obtain ⟨j, hj, rfl, rfl, RT, O⟩ := hrel
  by_cases hlt : j < len
  ·have hlt' : (j : Int) < (len : Int) := by omega
   rcases hT with h0 | ⟨rfl, _⟩
   ·omega
   rcases RT with h0 | ⟨R, T⟩
   ·omega
   have hjn : j * 5 + 5 ≤ len * 5 := by omega
   obtain ⟨tc0, tf0⟩ := T (j * 5 + 0) (by omega)
   obtain ⟨u0, hu0⟩ := Option.isSome_iff_exists.1 tc0
   rw [show off + (j * 5 + 0) = off + j * 5 by omega] at hu0 tf0
   obtain ⟨tc1, tf1⟩ := T (j * 5 + 1) (by omega)
   obtain ⟨u1, hu1⟩ := Option.isSome_iff_exists.1 tc1
   rw [show off + (j * 5 + 1) = off + j * 5 + 1 by omega] at hu1 tf1
   obtain ⟨tc2, tf2⟩ := T (j * 5 + 2) (by omega)
   obtain ⟨u2, hu2⟩ := Option.isSome_iff_exists.1 tc2
   rw [show off + (j * 5 + 2) = off + j * 5 + 2 by omega] at hu2 tf2
   obtain ⟨tc3, tf3⟩ := T (j * 5 + 3) (by omega)
   obtain ⟨u3, hu3⟩ := Option.isSome_iff_exists.1 tc3
   rw [show off + (j * 5 + 3) = off + j * 5 + 3 by omega] at hu3 tf3
   obtain ⟨tc4, tf4⟩ := T (j * 5 + 4) (by omega)
   obtain ⟨u4, hu4⟩ := Option.isSome_iff_exists.1 tc4
   rw [show off + (j * 5 + 4) = off + j * 5 + 4 by omega] at hu4 tf4
   have hlen : (cellsOf vrC (markVrs k j)).length = j * 5 := by rw [cellsOf_length (sz := 5) (fun _ => rfl), markVrs_length]
   have T2 := there_part T (j * 5) 5 hjn
   have G := rangeAt_grow R (vs := vrC (markVr (k + (j : Int) * 5))) (by rw [hlen]; exact T2)
   rw [hlen, ← cellsOf_snoc, ← markVrs_succ] at G
   have O2 := O.trans (But.of_only (S := fun q => 0 < len ∧ q = b) (only_setCells b (vrC (markVr (k + (j : Int) * 5))) (off + j * 5) wr) ⟨by omega, rfl⟩)
   have T3 := World.there_setCells T b (off + j * 5) (vrC (markVr (k + (j : Int) * 5)))
   clear hlen T2 R O
   go_wp2
   go_roundw
   case rel => exact ⟨j + 1, by omega, by go_num, by go_num, Or.inr ⟨G, T3⟩, O2⟩
   case measure => simp [intOf]; omega
  ·obtain rfl : len = j := by omega
   go_wp2
   go_ret
   exact ⟨rfl, RT, O⟩
set_option maxHeartbeats 1000000 in
theorem heldVerS_any (a : Option Addr) (b off len cap : Nat) (k : Int) (w : World) (hl : len ≤ 1048576) (hk0 : 0 ≤ k) (hk1 : k ≤ 1000000000) (hR : len = 0 ∨ (a = some ⟨b, off, none⟩ ∧ w.rangeAt b off (cellsOf vrC (markVrs k len)))) :
  Calls Tryz.prog 69 #[.slice a len cap, .int .i64 k] w fun e w' => e = .returned (.int .i64 (k + (len : Int) * 5)) ∧ w' = w := by
 go_enter Tryz.func69, Tryz.ntmps69
 go_wp2
 go_loop [1, 5] (fun kk i => ∃ j : Nat, j ≤ len ∧ i = .int .i64 j ∧ kk = .int .i64 (k + (j : Int) * 5)) (fun _ i => len - (intOf i).toNat)
 case atStart => exact ⟨0, Nat.zero_le _, rfl, by simp⟩
 case round =>
  obtain ⟨j, hj, rfl, rfl⟩ := hrel
  by_cases hlt : j < len
  ·have hlt' : (j : Int) < (len : Int) := by omega
   rcases hR with h0 | ⟨rfl, R⟩
   ·omega
   have E := rangeAt_elem (sz := 5) (fun _ => rfl) R j (by rw [markVrs_length]; exact hlt)
   rw [markVrs_get k len j hlt] at E
   have f0 : w.cell? ⟨b, off + j * 5, none⟩ = some (.int .i64 (k + (j : Int) * 5)) := by have h := E 0 _ rfl; exact h
   have f1 : w.cell? ⟨b, off + j * 5 + 1, none⟩ = some (.bool ((k + (j : Int) * 5 + 1) % 3 == 0)) := by have h := E 1 _ rfl; exact h
   have f2 : w.cell? ⟨b, off + j * 5 + 2, none⟩ = some (.int .i64 (k + (j : Int) * 5 + 1 + 1)) := by have h := E 2 _ rfl; exact h
   have f3 : w.cell? ⟨b, off + j * 5 + 3, none⟩ = some (.int .i64 (k + (j : Int) * 5 + 1 + 1 + 1)) := by have h := E 3 _ rfl; exact h
   have f4 : w.cell? ⟨b, off + j * 5 + 4, none⟩ = some (.int .i64 (k + (j : Int) * 5 + 1 + 1 + 1 + 1)) := by have h := E 4 _ rfl; exact h
   clear E R
   go_wp2
   go_round
   case rel => exact ⟨j + 1, by omega, by go_num, by go_num⟩
   case measure => simp [intOf]; omega
  ·obtain rfl : len = j := by omega
   go_wp2
   go_ret
   exact ⟨rfl, rfl⟩
def NewList (lo : Nat) (w : World) (v : Value) (len sz : Nat) (cs : List Value) (b : Nat) : Prop :=
 ∃ a cap off, v = .slice a len cap ∧ (len = 0 ∨ (a = some ⟨b, off, none⟩ ∧ lo ≤ b ∧ b < w.heap.size ∧ w.rangeAt b off cs ∧ w.there b off (len * sz)))
theorem NewList.but {lo : Nat} {w w' : World} {v : Value} {len sz b : Nat} {cs : List Value} {S : Nat → Prop} (h : NewList lo w v len sz cs b) (hO : But S w w') (hne : 0 < len → ¬ S b) : NewList lo w' v len sz cs b := by
 obtain ⟨a, cap, off, rfl, h⟩ := h
 refine ⟨a, cap, off, rfl, ?_⟩
 rcases h with h | ⟨rfl, h1, h2, h3, h4⟩
 ·exact Or.inl h
 ·rcases Nat.eq_zero_or_pos len with h0 | hp
  ·exact Or.inl h0
  ·exact Or.inr ⟨rfl, h1, Nat.lt_of_lt_of_le h2 hO.size, hO.range h3 h2 (hne hp), hO.there h4 h2 (hne hp)⟩
theorem NewList.below {lo : Nat} {w w' : World} {v : Value} {len sz b : Nat} {cs : List Value} (h : NewList lo w v len sz cs b) (hb : Below w.heap.size w w') : NewList lo w' v len sz cs b := by
 obtain ⟨a, cap, off, rfl, h⟩ := h
 refine ⟨a, cap, off, rfl, ?_⟩
 rcases h with h | ⟨rfl, h1, h2, h3, h4⟩
 ·exact Or.inl h
 ·exact Or.inr ⟨rfl, h1, Nat.lt_of_lt_of_le h2 hb.size, rangeAt_below h3 hb h2, there_below h4 hb h2⟩
theorem NewList.slice {lo : Nat} {w : World} {v : Value} {len sz b : Nat} {cs : List Value} (h : NewList lo w v len sz cs b) : SliceAt w.heap.size w v len cs := by
 obtain ⟨a, cap, off, rfl, h⟩ := h
 refine ⟨a, cap, rfl, ?_⟩
 rcases h with h | ⟨rfl, h1, h2, h3, h4⟩
 ·exact Or.inl h
 ·exact Or.inr ⟨b, off, rfl, h2, h3⟩
theorem markInt64S_new {lo : Nat} {v : Value} {len b : Nat} {cs : List Value} {w : World} (N : NewList lo w v len 1 cs b) (k : Int) (hl : len ≤ 1048576) (hk0 : 0 ≤ k) (hk1 : k ≤ 1000000000) :
  Calls Tryz.prog 34 #[v, .int .i64 k] w fun e w' => e = .returned (.int .i64 (k + (len : Int))) ∧ NewList lo w' v len 1 (cellsOf intC (markInts k len)) b ∧ But (fun q => 0 < len ∧ q = b) w w' := by
 obtain ⟨a, cap, off, rfl, h⟩ := N
 refine (markInt64S_any a b off len cap k w hl hk0 hk1 (h.imp id (fun h => ⟨h.1, by simpa using h.2.2.2.2⟩))).mono ?_
 rintro e w' ⟨rfl, RT, O⟩
 refine ⟨rfl, ⟨a, cap, off, rfl, ?_⟩, O⟩
 rcases h with h | ⟨rfl, h1, h2, h3, h4⟩
 ·exact Or.inl h
 rcases RT with h | ⟨R, T⟩
 ·exact Or.inl h
 ·exact Or.inr ⟨rfl, h1, Nat.lt_of_lt_of_le h2 O.size, R, by simpa using T⟩
theorem heldInt64S_new {lo : Nat} {v : Value} {len b : Nat} {w : World} (k : Int) (N : NewList lo w v len 1 (cellsOf intC (markInts k len)) b) (hl : len ≤ 1048576) (hk0 : 0 ≤ k) (hk1 : k ≤ 1000000000) :
  Calls Tryz.prog 67 #[v, .int .i64 k] w fun e w' => e = .returned (.int .i64 (k + (len : Int))) ∧ w' = w := by
 obtain ⟨a, cap, off, rfl, h⟩ := N
 exact heldInt64S_any a b off len cap k w hl hk0 hk1 (h.imp id (fun h => ⟨h.1, h.2.2.2.1⟩))
theorem markNodeS_new {lo : Nat} {v : Value} {len b : Nat} {cs : List Value} {w : World} (N : NewList lo w v len 3 cs b) (k : Int) (hl : len ≤ 1048576) (hk0 : 0 ≤ k) (hk1 : k ≤ 1000000000) :
  Calls Tryz.prog 35 #[v, .int .i64 k] w fun e w' => e = .returned (.int .i64 (k + (len : Int) * 3)) ∧ NewList lo w' v len 3 (cellsOf ndC (markNds k len)) b ∧ But (fun q => 0 < len ∧ q = b) w w' := by
 obtain ⟨a, cap, off, rfl, h⟩ := N
 refine (markNodeS_any a b off len cap k w hl hk0 hk1 (h.imp id (fun h => ⟨h.1, h.2.2.2.2⟩))).mono ?_
 rintro e w' ⟨rfl, RT, O⟩
 refine ⟨rfl, ⟨a, cap, off, rfl, ?_⟩, O⟩
 rcases h with h | ⟨rfl, h1, h2, h3, h4⟩
 ·exact Or.inl h
 rcases RT with h | ⟨R, T⟩
 ·exact Or.inl h
 ·exact Or.inr ⟨rfl, h1, Nat.lt_of_lt_of_le h2 O.size, R, T⟩
theorem heldNodeS_new {lo : Nat} {v : Value} {len b : Nat} {w : World} (k : Int) (N : NewList lo w v len 3 (cellsOf ndC (markNds k len)) b) (hl : len ≤ 1048576) (hk0 : 0 ≤ k) (hk1 : k ≤ 1000000000) :
  Calls Tryz.prog 68 #[v, .int .i64 k] w fun e w' => e = .returned (.int .i64 (k + (len : Int) * 3)) ∧ w' = w := by
 obtain ⟨a, cap, off, rfl, h⟩ := N
 exact heldNodeS_any a b off len cap k w hl hk0 hk1 (h.imp id (fun h => ⟨h.1, h.2.2.2.1⟩))
theorem markVerS_new {lo : Nat} {v : Value} {len b : Nat} {cs : List Value} {w : World} (N : NewList lo w v len 5 cs b) (k : Int) (hl : len ≤ 1048576) (hk0 : 0 ≤ k) (hk1 : k ≤ 1000000000) :
  Calls Tryz.prog 36 #[v, .int .i64 k] w fun e w' => e = .returned (.int .i64 (k + (len : Int) * 5)) ∧ NewList lo w' v len 5 (cellsOf vrC (markVrs k len)) b ∧ But (fun q => 0 < len ∧ q = b) w w' := by
 obtain ⟨a, cap, off, rfl, h⟩ := N
 refine (markVerS_any a b off len cap k w hl hk0 hk1 (h.imp id (fun h => ⟨h.1, h.2.2.2.2⟩))).mono ?_
 rintro e w' ⟨rfl, RT, O⟩
 refine ⟨rfl, ⟨a, cap, off, rfl, ?_⟩, O⟩
 rcases h with h | ⟨rfl, h1, h2, h3, h4⟩
 ·exact Or.inl h
 rcases RT with h | ⟨R, T⟩
 ·exact Or.inl h
 ·exact Or.inr ⟨rfl, h1, Nat.lt_of_lt_of_le h2 O.size, R, T⟩
theorem heldVerS_new {lo : Nat} {v : Value} {len b : Nat} {w : World} (k : Int) (N : NewList lo w v len 5 (cellsOf vrC (markVrs k len)) b) (hl : len ≤ 1048576) (hk0 : 0 ≤ k) (hk1 : k ≤ 1000000000) :
  Calls Tryz.prog 69 #[v, .int .i64 k] w fun e w' => e = .returned (.int .i64 (k + (len : Int) * 5)) ∧ w' = w := by
 obtain ⟨a, cap, off, rfl, h⟩ := N
 exact heldVerS_any a b off len cap k w hl hk0 hk1 (h.imp id (fun h => ⟨h.1, h.2.2.2.1⟩))
structure NewArena (lo : Nat) (w : World) (s g n r : Value) (A : Ar) (b0 b1 b2 b3 : Nat) : Prop where
 s : NewList lo w s A.slots.length 1 (cellsOf intC A.slots) b0
 g : NewList lo w g A.guides.length 1 (cellsOf intC A.guides) b1
 n : NewList lo w n A.nodes.length 3 (cellsOf ndC A.nodes) b2
 r : NewList lo w r A.vers.length 5 (cellsOf vrC A.vers) b3
 d01 : b0 ≠ b1
 d02 : b0 ≠ b2
 d03 : b0 ≠ b3
 d12 : b1 ≠ b2
 d13 : b1 ≠ b3
 d23 : b2 ≠ b3
theorem NewArena.is {lo : Nat} {w : World} {s g n r : Value} {A : Ar} {b0 b1 b2 b3 : Nat} (N : NewArena lo w s g n r A b0 b1 b2 b3) : ArenaIs w.heap.size w s g n r A := ⟨N.s.slice, N.g.slice, N.n.slice, N.r.slice⟩
theorem NewArena.below {lo : Nat} {w w' : World} {s g n r : Value} {A : Ar} {b0 b1 b2 b3 : Nat} (N : NewArena lo w s g n r A b0 b1 b2 b3) (hb : Below w.heap.size w w') : NewArena lo w' s g n r A b0 b1 b2 b3 := ⟨N.s.below hb, N.g.below hb, N.n.below hb, N.r.below hb, N.d01, N.d02, N.d03, N.d12, N.d13, N.d23⟩
theorem NewList.lo {lo lo' : Nat} {w : World} {v : Value} {len sz b : Nat} {cs : List Value} (h : NewList lo w v len sz cs b) (hl : lo' ≤ lo) : NewList lo' w v len sz cs b := by
 obtain ⟨a, cap, off, rfl, h⟩ := h
 refine ⟨a, cap, off, rfl, ?_⟩
 rcases h with h | ⟨rfl, h1, h2, h3, h4⟩
 ·exact Or.inl h
 ·exact Or.inr ⟨rfl, Nat.le_trans hl h1, h2, h3, h4⟩
theorem NewArena.lo {lo lo' : Nat} {w : World} {s g n r : Value} {A : Ar} {b0 b1 b2 b3 : Nat} (N : NewArena lo w s g n r A b0 b1 b2 b3) (hl : lo' ≤ lo) : NewArena lo' w s g n r A b0 b1 b2 b3 :=
 ⟨N.s.lo hl, N.g.lo hl, N.n.lo hl, N.r.lo hl, N.d01, N.d02, N.d03, N.d12, N.d13, N.d23⟩
structure Marked (lo : Nat) (w : World) (s g n r : Value) (ls lg ln lv : Nat) (k : Int) (b0 b1 b2 b3 : Nat) : Prop where
 s : NewList lo w s ls 1 (cellsOf intC (markInts k ls)) b0
 g : NewList lo w g lg 1 (cellsOf intC (markInts (k + (ls : Int)) lg)) b1
 n : NewList lo w n ln 3 (cellsOf ndC (markNds (k + (ls : Int) + (lg : Int)) ln)) b2
 r : NewList lo w r lv 5 (cellsOf vrC (markVrs (k + (ls : Int) + (lg : Int) + (ln : Int) * 3) lv)) b3
theorem Marked.below {lo : Nat} {w w' : World} {s g n r : Value} {ls lg ln lv : Nat} {k : Int} {b0 b1 b2 b3 : Nat} (N : Marked lo w s g n r ls lg ln lv k b0 b1 b2 b3) (hb : Below w.heap.size w w') : Marked lo w' s g n r ls lg ln lv k b0 b1 b2 b3 := ⟨N.s.below hb, N.g.below hb, N.n.below hb, N.r.below hb⟩
def wrote (ls lg ln lv b0 b1 b2 b3 : Nat) (q : Nat) : Prop := (0 < ls ∧ q = b0) ∨ (0 < lg ∧ q = b1) ∨ (0 < ln ∧ q = b2) ∨ (0 < lv ∧ q = b3)
theorem NewList.lt {lo : Nat} {w : World} {v : Value} {len sz b : Nat} {cs : List Value} (h : NewList lo w v len sz cs b) (hp : 0 < len) : lo ≤ b ∧ b < w.heap.size := by
 obtain ⟨a, cap, off, rfl, h⟩ := h
 rcases h with h | ⟨rfl, h1, h2, h3, h4⟩
 ·omega
 ·exact ⟨h1, h2⟩
theorem toArena_new {B : Nat} {A : Ar} {s g n r : Value} {w1 W : World} (BB : Below w1.heap.size w1 W) (hB : B ≤ w1.heap.size) (hA : A.size ≤ 1048576) (I : ArenaIs B w1 s g n r A) :
  Calls Tryz.prog 7 #[.agg #[.int .i64 A.camera, s, g, n, r]] W fun e w' => ∃ p0 p1 p2 p3, e = .returned (.agg #[.int .i64 A.camera, .slice (some ⟨p0, 0, none⟩) A.slots.length A.slots.length, .slice (some ⟨p1, 0, none⟩) A.guides.length A.guides.length, .slice (some ⟨p2, 0, none⟩) A.nodes.length A.nodes.length, .slice (some ⟨p3, 0, none⟩) A.vers.length A.vers.length]) ∧
   NewArena W.heap.size w' (.slice (some ⟨p0, 0, none⟩) A.slots.length A.slots.length) (.slice (some ⟨p1, 0, none⟩) A.guides.length A.guides.length) (.slice (some ⟨p2, 0, none⟩) A.nodes.length A.nodes.length) (.slice (some ⟨p3, 0, none⟩) A.vers.length A.vers.length) A p0 p1 p2 p3 ∧ Below W.heap.size W w' :=
 (toArena_full B A s g n r W (Nat.le_trans hB BB.size) hA (I.below (BB.mono hB))).mono fun e w' ⟨p0, p1, p2, p3, he, h0, h1, h2, h3, h4, R0, R1, R2, R3, b⟩ => ⟨p0, p1, p2, p3, he,
  ⟨⟨_, _, 0, rfl, Or.inr ⟨rfl, by omega, by omega, R0.row, R0.may⟩⟩, ⟨_, _, 0, rfl, Or.inr ⟨rfl, by omega, by omega, R1.row, R1.may⟩⟩, ⟨_, _, 0, rfl, Or.inr ⟨rfl, by omega, by omega, R2.row, R2.may⟩⟩, ⟨_, _, 0, rfl, Or.inr ⟨rfl, by omega, h4, R3.row, R3.may⟩⟩, by omega, by omega, by omega, by omega, by omega, by omega⟩, b⟩
theorem row5v {w : World} {b : Nat} {v0 v1 v2 v3 v4 : Value} (R : w.rangeAt b 0 [v0, v1, v2, v3, v4]) : w.cell? ⟨b, 1, none⟩ = some v1 ∧ w.cell? ⟨b, 2, none⟩ = some v2 ∧ w.cell? ⟨b, 3, none⟩ = some v3 ∧ w.cell? ⟨b, 4, none⟩ = some v4 := by
 refine ⟨?_, ?_, ?_, ?_⟩
 ·simpa using R 1 v1 rfl
 ·simpa using R 2 v2 rfl
 ·simpa using R 3 v3 rfl
 ·simpa using R 4 v4 rfl
set_option maxHeartbeats 1000000 in
theorem markArena_any {lo : Nat} {w : World} {s g n r : Value} {A : Ar} {b0 b1 b2 b3 : Nat} (cam : Int) (N : NewArena lo w s g n r A b0 b1 b2 b3) (k : Int) (hA : A.size ≤ 1048576) (hk0 : 0 ≤ k) (hk1 : k ≤ 1000000) :
  Calls Tryz.prog 12 #[.agg #[.int .i64 cam, s, g, n, r], .int .i64 k] w fun e w' => e = .returned (.int .i64 (k + (A.slots.length : Int) + (A.guides.length : Int) + (A.nodes.length : Int) * 3 + (A.vers.length : Int) * 5)) ∧
   Marked lo w' s g n r A.slots.length A.guides.length A.nodes.length A.vers.length k b0 b1 b2 b3 ∧ But (wrote A.slots.length A.guides.length A.nodes.length A.vers.length b0 b1 b2 b3) w w' := by
 unfold Ar.size at hA
 have l0 := N.s.lt
 have l1 := N.g.lt
 have l2 := N.n.lt
 have l3 := N.r.lt
 obtain ⟨N0, N1, N2, N3, d01, d02, d03, d12, d13, d23⟩ := N
 have al := (Below.refl w.heap.size w).alloc (Nat.le_refl _) (.cells #[.int .i64 cam, s, g, n, r] 35)
 have X0 := rangeAt_new w [.int .i64 cam, s, g, n, r] 35
 have hz0 : w.heap.size < (w.alloc (.cells #[.int .i64 cam, s, g, n, r] 35)).heap.size := by simp
 have M0 := N0.below al
 have M1 := N1.below al
 have M2 := N2.below al
 have M3 := N3.below al
 have K0 : But (wrote A.slots.length A.guides.length A.nodes.length A.vers.length b0 b1 b2 b3) w (w.alloc (.cells #[.int .i64 cam, s, g, n, r] 35)) := But.of_below al
 clear N0 N1 N2 N3 al
 generalize hls : A.slots.length = ls at *
 generalize hlg : A.guides.length = lg at *
 generalize hln : A.nodes.length = ln at *
 generalize hlv : A.vers.length = lv at *
 clear hls hlg hln hlv
 go_enter Tryz.func12, Tryz.ntmps12
 go_wp2_with fail
 refine (markInt64S_new M0 (k) (by omega) (by omega) (by omega)).mono ?_
 rintro e w1 ⟨rfl, M0', O0⟩
 clear M0
 have M0 := M0'
 clear M0'
 replace M1 := M1.but O0 (fun _ h => by have := h.2; omega)
 replace M2 := M2.but O0 (fun _ h => by have := h.2; omega)
 replace M3 := M3.but O0 (fun _ h => by have := h.2; omega)
 have X1 := O0.range X0 hz0 (fun h => by have := h.2; have := l0 h.1; omega)
 have hz1 := Nat.lt_of_lt_of_le hz0 O0.size
 have K1 := K0.trans (O0.mono (fun q h => by unfold wrote; omega))
 clear O0 X0 K0
 obtain ⟨x1, x2, x3, x4⟩ := row5v X1
 go_wp2_with fail
 refine (markInt64S_new M1 (k + (ls : Int)) (by omega) (by omega) (by omega)).mono ?_
 rintro e w2 ⟨rfl, M1', O1⟩
 clear M1
 have M1 := M1'
 clear M1'
 replace M0 := M0.but O1 (fun _ h => by have := h.2; omega)
 replace M2 := M2.but O1 (fun _ h => by have := h.2; omega)
 replace M3 := M3.but O1 (fun _ h => by have := h.2; omega)
 have X2 := O1.range X1 hz1 (fun h => by have := h.2; have := l1 h.1; omega)
 have hz2 := Nat.lt_of_lt_of_le hz1 O1.size
 have K2 := K1.trans (O1.mono (fun q h => by unfold wrote; omega))
 clear O1 X1 K1
 obtain ⟨x1, x2, x3, x4⟩ := row5v X2
 go_wp2_with fail
 refine (markNodeS_new M2 (k + (ls : Int) + (lg : Int)) (by omega) (by omega) (by omega)).mono ?_
 rintro e w3 ⟨rfl, M2', O2⟩
 clear M2
 have M2 := M2'
 clear M2'
 replace M0 := M0.but O2 (fun _ h => by have := h.2; omega)
 replace M1 := M1.but O2 (fun _ h => by have := h.2; omega)
 replace M3 := M3.but O2 (fun _ h => by have := h.2; omega)
 have X3 := O2.range X2 hz2 (fun h => by have := h.2; have := l2 h.1; omega)
 have hz3 := Nat.lt_of_lt_of_le hz2 O2.size
 have K3 := K2.trans (O2.mono (fun q h => by unfold wrote; omega))
 clear O2 X2 K2
 obtain ⟨x1, x2, x3, x4⟩ := row5v X3
 go_wp2_with fail
 refine (markVerS_new M3 (k + (ls : Int) + (lg : Int) + (ln : Int) * 3) (by omega) (by omega) (by omega)).mono ?_
 rintro e w4 ⟨rfl, M3', O3⟩
 clear M3
 have M3 := M3'
 clear M3'
 replace M0 := M0.but O3 (fun _ h => by have := h.2; omega)
 replace M1 := M1.but O3 (fun _ h => by have := h.2; omega)
 replace M2 := M2.but O3 (fun _ h => by have := h.2; omega)
 have X4 := O3.range X3 hz3 (fun h => by have := h.2; have := l3 h.1; omega)
 have hz4 := Nat.lt_of_lt_of_le hz3 O3.size
 have K4 := K3.trans (O3.mono (fun q h => by unfold wrote; omega))
 clear O3 X3 K3
 go_wp2
 go_ret
 exact ⟨rfl, ⟨M0, M1, M2, M3⟩, K4⟩
set_option maxHeartbeats 1000000 in
theorem heldArena_any {lo : Nat} {w : World} {s g n r : Value} {ls lg ln lv : Nat} {b0 b1 b2 b3 : Nat} (cam : Int) (k : Int) (M : Marked lo w s g n r ls lg ln lv k b0 b1 b2 b3) (hA : ls + lg + ln + lv ≤ 1048576) (hk0 : 0 ≤ k) (hk1 : k ≤ 1000000) :
  Calls Tryz.prog 37 #[.agg #[.int .i64 cam, s, g, n, r], .int .i64 k] w fun e w' => e = .returned (.int .i64 (k + (ls : Int) + (lg : Int) + (ln : Int) * 3 + (lv : Int) * 5)) ∧ Below w.heap.size w w' := by
 have al := (Below.refl w.heap.size w).alloc (Nat.le_refl _) (.cells #[.int .i64 cam, s, g, n, r] 35)
 obtain ⟨M0, M1, M2, M3⟩ := M.below al
 go_enter Tryz.func37, Tryz.ntmps37
 go_wp2_with fail
 refine (heldInt64S_new (k) M0 (by omega) (by omega) (by omega)).mono ?_
 rintro e w1 ⟨rfl, rfl⟩
 go_wp2_with fail
 refine (heldInt64S_new (k + (ls : Int)) M1 (by omega) (by omega) (by omega)).mono ?_
 rintro e w2 ⟨rfl, rfl⟩
 go_wp2_with fail
 refine (heldNodeS_new (k + (ls : Int) + (lg : Int)) M2 (by omega) (by omega) (by omega)).mono ?_
 rintro e w3 ⟨rfl, rfl⟩
 go_wp2_with fail
 refine (heldVerS_new (k + (ls : Int) + (lg : Int) + (ln : Int) * 3) M3 (by omega) (by omega) (by omega)).mono ?_
 rintro e w4 ⟨rfl, rfl⟩
 go_wp2
 go_ret
 exact ⟨rfl, al⟩
end
section
attribute [local go_sem ↓] Go.wp_at_zero Go.wp_at_succ
set_option maxRecDepth 100000 in
set_option maxHeartbeats 1000000 in
theorem eqDeed_any (d : Dd) (w : World) :
  Calls Tryz.prog 30 #[.agg (ddC d).toArray, .agg (ddC d).toArray] w fun e w' => e = .returned (.bool true) ∧ Below w.heap.size w w' := by
 show Calls Tryz.prog 30 #[.agg #[.int .i64 d.kind, .int .i64 d.key, .int .i64 d.value, .int .i64 d.stamp, .int .i64 d.clock], .agg #[.int .i64 d.kind, .int .i64 d.key, .int .i64 d.value, .int .i64 d.stamp, .int .i64 d.clock]] w _
 have K0 := ((Below.refl w.heap.size w).alloc (Nat.le_refl _) (.cells #[.int .i64 d.kind, .int .i64 d.key, .int .i64 d.value, .int .i64 d.stamp, .int .i64 d.clock] 38)).alloc (by simp) (.cells #[.int .i64 d.kind, .int .i64 d.key, .int .i64 d.value, .int .i64 d.stamp, .int .i64 d.clock] 38)
 go_enter Tryz.func30, Tryz.ntmps30
 go_wp2
 go_ret
 exact ⟨rfl, K0⟩
set_option maxRecDepth 100000 in
set_option maxHeartbeats 2000000 in
theorem eqDone_any (B : Nat) (A : Ar) (h : Hd) (d : Dd) (tk : Bool) (s1 g1 n1 r1 s2 g2 n2 r2 : Value) (w : World) (hB : B ≤ w.heap.size) (hA : A.size ≤ 1048576) (I1 : ArenaIs B w s1 g1 n1 r1 A) (I2 : ArenaIs B w s2 g2 n2 r2 A) :
  Calls Tryz.prog 10 #[.agg (doneC A.camera s1 g1 n1 r1 h d tk).toArray, .agg (doneC A.camera s2 g2 n2 r2 h d tk).toArray] w fun e w' => e = .returned (.bool true) ∧ Below w.heap.size w w' := by
 have X0 := World.rangeAt_alloc (rangeAt_new w (doneC A.camera s1 g1 n1 r1 h d tk) 40) (.cells (doneC A.camera s2 g2 n2 r2 h d tk).toArray 40)
 have Y0 := rangeAt_new (w.alloc (.cells (doneC A.camera s1 g1 n1 r1 h d tk).toArray 40)) (doneC A.camera s2 g2 n2 r2 h d tk) 40
 have K0 := ((Below.refl w.heap.size w).alloc (Nat.le_refl _) (.cells (doneC A.camera s1 g1 n1 r1 h d tk).toArray 40)).alloc (by simp) (.cells (doneC A.camera s2 g2 n2 r2 h d tk).toArray 40)
 have hz0 : w.heap.size + 1 < ((w.alloc (.cells (doneC A.camera s1 g1 n1 r1 h d tk).toArray 40)).alloc (.cells (doneC A.camera s2 g2 n2 r2 h d tk).toArray 40)).heap.size := by simp
 have J1 := I1.below (K0.mono hB)
 have J2 := I2.below (K0.mono hB)
 simp only [World.size_alloc] at Y0
 go_enter Tryz.func10, Tryz.ntmps10
 go_upto_region 1 with fail
 generalize hw0 : (w.alloc (.cells (doneC A.camera s1 g1 n1 r1 h d tk).toArray 40)).alloc (.cells (doneC A.camera s2 g2 n2 r2 h d tk).toArray 40) = w0 at *
 clear hw0 I1 I2
 obtain ⟨PA, PH, PD, pt⟩ := done_parts X0
 obtain ⟨QA, QH, QD, qt⟩ := done_parts Y0
 obtain ⟨x0, x1, x2, x3, x4⟩ := row5 PA
 obtain ⟨y0, y1, y2, y3, y4⟩ := row5 QA
 go_wp2_with fail
 refine (eqArena_any B A s1 g1 n1 r1 s2 g2 n2 r2 w0 (Nat.le_trans hB K0.size) hA J1 J2).mono ?_
 rintro e w1 ⟨rfl, b1⟩
 have PH1 := rangeAt_below PH b1 (by omega)
 have QH1 := rangeAt_below QH b1 (by omega)
 have PD1 := rangeAt_below PD b1 (by omega)
 have QD1 := rangeAt_below QD b1 (by omega)
 have pt1 := (b1.cell (p := ⟨w.heap.size, 32, none⟩) (by show w.heap.size < _; omega)).trans pt
 have qt1 := (b1.cell (p := ⟨w.heap.size + 1, 32, none⟩) (by show w.heap.size + 1 < _; omega)).trans qt
 have K1 := K0.trans (b1.mono K0.size)
 have hz1 := Nat.lt_of_lt_of_le hz0 b1.size
 clear X0 Y0 PA QA PH QH PD QD pt qt x0 x1 x2 x3 x4 y0 y1 y2 y3 y4 J1 J2 K0 hz0 b1
 go_wp2_with (first | (refine wpList_load_mid rfl 36 (.tmp 11) rfl w.heap.size 5 ?l1 (hdC h) _ ?l2 Tryz.underlying36 rfl (sizeHandL h) ?_) | (refine wpList_load_mid rfl 36 (.tmp 13) rfl (w.heap.size + 1) 5 ?l3 (hdC h) _ ?l4 Tryz.underlying36 rfl (sizeHandL h) ?_))
 try (case l1 => rfl)
 try (case l2 => exact PH1)
 try (case l3 => rfl)
 try (case l4 => exact QH1)
 refine (eqHand_any h w1).mono ?_
 rintro e w2 ⟨rfl, b2⟩
 have PD2 := rangeAt_below PD1 b2 (by omega)
 have QD2 := rangeAt_below QD1 b2 (by omega)
 have pt2 := (b2.cell (p := ⟨w.heap.size, 32, none⟩) (by show w.heap.size < _; omega)).trans pt1
 have qt2 := (b2.cell (p := ⟨w.heap.size + 1, 32, none⟩) (by show w.heap.size + 1 < _; omega)).trans qt1
 have K2 := K1.trans (b2.mono K1.size)
 have hz2 := Nat.lt_of_lt_of_le hz1 b2.size
 clear PH1 QH1 PD1 QD1 pt1 qt1 K1 hz1 b2
 go_wp2_with (first | (refine wpList_load_mid rfl 38 (.tmp 17) rfl w.heap.size 27 ?m1 (ddC d) _ ?m2 Tryz.underlying38 rfl (sizeDeedL d) ?_) | (refine wpList_load_mid rfl 38 (.tmp 19) rfl (w.heap.size + 1) 27 ?m3 (ddC d) _ ?m4 Tryz.underlying38 rfl (sizeDeedL d) ?_))
 try (case m1 => rfl)
 try (case m2 => exact PD2)
 try (case m3 => rfl)
 try (case m4 => exact QD2)
 refine (eqDeed_any d w2).mono ?_
 rintro e w3 ⟨rfl, b3⟩
 have pt3 := (b3.cell (p := ⟨w.heap.size, 32, none⟩) (by show w.heap.size < _; omega)).trans pt2
 have qt3 := (b3.cell (p := ⟨w.heap.size + 1, 32, none⟩) (by show w.heap.size + 1 < _; omega)).trans qt2
 have K3 := K2.trans (b3.mono K2.size)
 have htk : (tk != tk) = false := by simp
 clear PD2 QD2 pt2 qt2 K2 hz2 b3
 go_wp2
 go_ret
 exact ⟨rfl, K3⟩
set_option maxRecDepth 100000 in
set_option maxHeartbeats 1000000 in
theorem markDone_any {lo : Nat} {w : World} {s g n r : Value} {A : Ar} {b0 b1 b2 b3 : Nat} (h : Hd) (d : Dd) (tk : Bool) (N : NewArena lo w s g n r A b0 b1 b2 b3) (k : Int) (hA : A.size ≤ 1048576) (hk0 : 0 ≤ k) (hk1 : k ≤ 1000000) :
  Calls Tryz.prog 13 #[.agg (doneC A.camera s g n r h d tk).toArray, .int .i64 k] w fun e w' => e = .returned (.int .i64 (k + (A.slots.length : Int) + (A.guides.length : Int) + (A.nodes.length : Int) * 3 + (A.vers.length : Int) * 5)) ∧
   Marked lo w' s g n r A.slots.length A.guides.length A.nodes.length A.vers.length k b0 b1 b2 b3 ∧ But (wrote A.slots.length A.guides.length A.nodes.length A.vers.length b0 b1 b2 b3) w w' := by
 have X0 := rangeAt_new w (doneC A.camera s g n r h d tk) 40
 have al := (Below.refl w.heap.size w).alloc (Nat.le_refl _) (.cells (doneC A.camera s g n r h d tk).toArray 40)
 have N0 := N.below al
 go_enter Tryz.func13, Tryz.ntmps13
 go_upto_region 1 with fail
 generalize hw0 : w.alloc (.cells (doneC A.camera s g n r h d tk).toArray 40) = w0 at *
 clear hw0 N
 obtain ⟨x0, x1, x2, x3, x4⟩ := row5 (done_parts X0).1
 go_wp2_with fail
 refine (markArena_any A.camera N0 k hA hk0 hk1).mono ?_
 rintro e w1 ⟨rfl, M, O⟩
 have O' := (But.of_below (S := wrote A.slots.length A.guides.length A.nodes.length A.vers.length b0 b1 b2 b3) al).trans O
 clear x0 x1 x2 x3 x4 X0 N0 al O
 go_wp2
 go_ret
 exact ⟨rfl, M, O'⟩
set_option maxRecDepth 100000 in
set_option maxHeartbeats 1000000 in
theorem heldDone_any {lo : Nat} {w : World} {s g n r : Value} {ls lg ln lv : Nat} {b0 b1 b2 b3 : Nat} (cam : Int) (h : Hd) (d : Dd) (tk : Bool) (k : Int) (M : Marked lo w s g n r ls lg ln lv k b0 b1 b2 b3) (hA : ls + lg + ln + lv ≤ 1048576) (hk0 : 0 ≤ k) (hk1 : k ≤ 1000000) :
  Calls Tryz.prog 14 #[.agg (doneC cam s g n r h d tk).toArray, .int .i64 k] w fun e w' => e = .returned (.int .i64 (k + (ls : Int) + (lg : Int) + (ln : Int) * 3 + (lv : Int) * 5)) ∧ Below w.heap.size w w' := by
 have X0 := rangeAt_new w (doneC cam s g n r h d tk) 40
 have al := (Below.refl w.heap.size w).alloc (Nat.le_refl _) (.cells (doneC cam s g n r h d tk).toArray 40)
 have M0 := M.below al
 go_enter Tryz.func14, Tryz.ntmps14
 go_upto_region 1 with fail
 generalize hw0 : w.alloc (.cells (doneC cam s g n r h d tk).toArray 40) = w0 at *
 clear hw0 M
 obtain ⟨x0, x1, x2, x3, x4⟩ := row5 (done_parts X0).1
 go_wp2_with fail
 refine (heldArena_any cam k M0 hA hk0 hk1).mono ?_
 rintro e w1 ⟨rfl, b1⟩
 have K1 := al.trans (b1.mono al.size)
 clear x0 x1 x2 x3 x4 X0 M0 al b1
 go_wp2
 go_ret
 exact ⟨rfl, K1⟩
end
end Go.Proofs.YtlfjhcdjgoeafaaGreatDoor
