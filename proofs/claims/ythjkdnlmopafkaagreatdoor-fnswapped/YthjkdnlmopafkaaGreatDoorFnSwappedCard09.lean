/-
  What the law's proof goes by, part 10.
-/
import Derived.Test.YthjkdnlmopafkaaGreatDoorFnSwappedCard00
import Derived.Test.YthjkdnlmopafkaaGreatDoorFnSwappedCard08
namespace Go.Proofs.YthjkdnlmopafkaaGreatDoor
open Go.ChangeShapes Go.WideShapes Go.ChangeAt Go.RowKit
set_option maxRecDepth 100000
set_option maxHeartbeats 16000000
set_option linter.unusedVariables false
set_option linter.unusedSimpArgs false
set_option linter.unnecessarySimpa false
set_option linter.unusedSectionVars false
section
attribute [local go_sem ↓] Go.wp_at_zero Go.wp_at_succ
theorem qzq (x y : Int) (w : World) : Calls Tryz.prog 101 #[.int .i64 x, .int .i64 y] w fun e w' => e = .returned (.int .i64 (min x y)) /\ w' = w := by
 by_cases h : x < y
 ·go_enter Tryz.func101, Tryz.ntmps101
  go_wp2
  go_ret
  exact ⟨by rw [show min x y = x by omega]; rfl, rfl⟩
 ·go_enter Tryz.func101, Tryz.ntmps101
  go_wp2
  go_ret
  exact ⟨by rw [show min x y = y by omega]; rfl, rfl⟩
theorem qz1e (x y : Int) (w : World) : Calls Tryz.prog 138 #[.int .i64 x, .int .i64 y] w fun e w' => e = .returned (.int .i64 (max x y)) /\ w' = w := by
 by_cases h : y < x
 ·go_enter Tryz.func138, Tryz.ntmps138
  go_wp2
  go_ret
  exact ⟨by rw [show max x y = x by omega]; rfl, rfl⟩
 ·go_enter Tryz.func138, Tryz.ntmps138
  go_wp2
  go_ret
  exact ⟨by rw [show max x y = y by omega]; rfl, rfl⟩
theorem qzav {x y z u : Int} {A : Ar} (h : qz10 x y z u A = true) (n : Nat) (hn : n < Q6q) : 0 <= A.nodes[n].value /\ A.nodes[n].value <= 9999 := by
 have := (qz1k _ _).1 (qz1r h).2.2.2.1 n hn
 unfold qz46 at this
 split at this <;> (simp only [Bool.and_eq_true, qz13, beq_iff_eq] at this; omega)
theorem qz4t {x y z u : Int} {A : Ar} (h : qz10 x y z u A = true) (n : Nat) (hn : n < Q6r) : (A.vers[n].next = -1 ∨ 1 <= A.vers[n].next /\ A.vers[n].next < (Q6q : Int)) /\ (-1 <= A.vers[n].stamp /\ A.vers[n].stamp <= Q6w) /\ (-1 <= A.vers[n].prev /\ A.vers[n].prev < (n : Int)) /\ (0 <= A.vers[n].kind /\ A.vers[n].kind <= 2) := by
 have := (qz1k _ _).1 (qz1r h).2.2.2.2 n hn
 simp only [verB, Bool.and_eq_true, Bool.or_eq_true, qz13, beq_iff_eq] at this
 omega
def qz4q (A : Ar) (h : Hd) : Hd := if h.x_ + 1 < (Q6q : Int) then { h with x_ := h.x_ + 1, then_ := 7, at_ := 2 } else qz9 h 4 h.out 0
def qz68 (A : Ar) (h : Hd) : Hd := { h with out := min (h.out + 1) 1000000, sum := min (h.sum + (ndOf A h.x_).value) 1000000 }
def qz4w (A : Ar) (h : Hd) : Bool := decide (h.x_ ≠ 0) && (h.code == 7) && inB (ndOf A h.x_).key h.key h.value && !(vrOf A h.ver).gone
def qz66 (A : Ar) (h : Hd) : Bool := decide ((vrOf A h.ver).next < 0) || decide ((if h.code = 7 then h.value else h.key) < (ndOf A (vrOf A h.ver).next).key)
def useH (A : Ar) (h : Hd) : Hd :=
 if h.code ≠ 6 /\ h.code ≠ 7 then { h with at_ := 0 }
 else if h.x_ ≠ 0 /\ h.code = 6 /\ (ndOf A h.x_).key = h.key then (if (vrOf A h.ver).gone then qz9 h 3 0 0 else qz9 h 2 (ndOf A h.x_).value 0)
 else if qz66 A h then (if h.code = 6 then qz9 h 3 0 0 else qz9 h 4 (if qz4w A h then qz68 A h else h).out (if qz4w A h then qz68 A h else h).sum)
 else { (if qz4w A h then qz68 A h else h) with x_ := (vrOf A h.ver).next, at_ := 2 }
theorem qz84 (B : Nat) (A : Ar) (h : Hd) (a0 a1 a2 a3 : Option Addr) (c0 c1 c2 c3 : Nat) (w : World) (hB : B <= Q6o) (hA : A.size <= 1048576) (I : qz1j B w Q0x Q0w Q0t Q11 A) (hx0 : 0 <= h.x_) (hx1 : h.x_ < (Q6q : Int)) :
  Calls Tryz.prog 161 Q5d w fun e w' => e = .returned (.agg (hdC (qz4q A h)).toArray) /\ Below Q6o w w' := by
 have hA' := hA
 unfold Ar.size at hA
 have X0 := Q7b (Q7b (qz6 w Q0j 30) Q0p) (.cells Q00 56)
 have H0 := Q7b (qz6 Q35 (hdC h) 56) (.cells Q00 56)
 have G0 := Q7h (qzg Q35 (hdC h).toArray 56 22 (by simp [hdC])) (.cells Q00 56)
 have F0 := qzg ((Q35).alloc Q0p) Q00 56 22 (by decide)
 have K0 := (((Q6s Q6o w).alloc (Q6v _) (.cells Q02 30)).alloc (by simp) Q0p).alloc (by simp; omega) (.cells Q00 56)
 have hz0 : Q6o + 1 + 1 < (Q2j).heap.size := by simp
 simp only [World.size_alloc] at H0 G0 F0
 have I0 := I.below (K0.mono hB)
 go_enter Tryz.func161, Tryz.ntmps161
 have tok : True := trivial
 go_wp2_with (clear tok; refine qz2j Q2j ?_)
 generalize hw0 : ((Q35).alloc Q0p).alloc (.cells Q00 56) = w0 at *
 clear hw0 I
 show wpList _ _ _ _ _ w0
 obtain ⟨x0, x1, x2, x3, x4⟩ := row5 X0
 have q0 : w0.cell? ⟨Q6o + 1, 0, none⟩ = some (.int .i64 h.at_) := by simpa using H0 0 (.int .i64 h.at_) rfl
 have q1 : w0.cell? ⟨Q6o + 1, 1, none⟩ = some (.int .i64 h.then_) := by simpa using H0 1 (.int .i64 h.then_) rfl
 have q10 : w0.cell? ⟨Q6o + 1, 10, none⟩ = some (.int .i64 h.x_) := by simpa using H0 10 (.int .i64 h.x_) rfl
 have q7 : w0.cell? ⟨Q6o + 1, 7, none⟩ = some (.int .i64 h.out) := by simpa using H0 7 (.int .i64 h.out) rfl
 have f0 : w0.frozen? ⟨Q6o + 1, 0, none⟩ = false := by simpa using (G0 0 (by decide)).2
 have f1 : w0.frozen? ⟨Q6o + 1, 1, none⟩ = false := by simpa using (G0 1 (by decide)).2
 have f10 : w0.frozen? ⟨Q6o + 1, 10, none⟩ = false := by simpa using (G0 10 (by decide)).2
 by_cases hn : h.x_ + 1 < (Q6q : Int)
 ·obtain ⟨H', hH⟩ : ∃ H' : Hd, Hid (H' = { h with x_ := h.x_ + 1, then_ := 7, at_ := 2 }) := by exact ⟨_, rfl⟩
  have hv : Hid (qz4q A h = H') := by show _ = _; rw [hH.out]; simp [qz4q, hn]
  go_wp2_with (first | (refine Q6z rfl 56 (.tmp 3) rfl (Q6o + 1) 0 ?hxln19 (hdC H') _ ?hcn19 Q6x rfl (qz4 H') ?_) | (refine Q6t rfl 56 (.tmp 4) _ rfl (Q6o + 1 + 1) 0 (hdC H').toArray ?hxn19 ?hyn19 ?htn19 (qzc _) (qzk _) ?_))
  try (case hxln19 => rfl)
  case hcn19 => rw [hH.out]; exact (qzb (qzb (qzb H0 10 (by simp [hdC]) _) 1 (by simp [hdC]) _) 0 (by simp [hdC]) _)
  try (case hxn19 => rfl)
  try (case hyn19 => rfl)
  case htn19 => exact (qz2 (qz2 (qz2 F0 _ _) _ _) _ _)
  refine bodyPost_ret (v := .agg (hdC H').toArray) ?_ rfl ⟨by rw [hv.out], ?_⟩
  ·exact qz3 Tryz.results161 _ _ (Q6o + 1 + 1) 0 rfl (hdC H') _ (Q6u _ _ _ _ (qz2 (qz2 (qz2 F0 _ _) _ _) _ _)) Q6x rfl (qz4 _)
  ·exact Below.setCells (by omega) _ _ _ (Below.setCell (Below.setCell (Below.setCell K0 (p := ⟨Q6o + 1, 10, none⟩) (by show Q6o <= Q6o + 1; omega) _) (p := ⟨Q6o + 1, 1, none⟩) (by show Q6o <= Q6o + 1; omega) _) (p := ⟨Q6o + 1, 0, none⟩) (by show Q6o <= Q6o + 1; omega) _)
 obtain ⟨H', hH⟩ : ∃ H' : Hd, Hid (H' = h) := by exact ⟨_, rfl⟩
 have hv : Hid (qz4q A h = qz9 H' 4 h.out 0) := by show _ = _; rw [hH.out]; simp [qz4q, hn]
 go_wp2_with (first | (refine Q6z rfl 56 (.tmp 3) rfl (Q6o + 1) 0 ?hxln20 (hdC H') _ ?hcn20 Q6x rfl (qz4 H') ?_))
 try (case hxln20 => rfl)
 case hcn20 => rw [hH.out]; exact H0
 refine (qzt H' 4 h.out 0 _).mono ?_
 rintro e w2 ⟨rfl, b2⟩
 have F2 := qz5 F0 b2 (by first | omega | (simp; omega))
 have K2 := K0.trans (b2.mono (by first | omega | (simp; omega)))
 go_wp2_with (refine Q6t rfl 56 (.tmp 4) _ rfl (Q6o + 1 + 1) 0 (hdC (qz9 H' 4 h.out 0)).toArray ?hxn20 ?hyn20 ?htn20 (qzc _) (qzk _) ?_)
 try (case hxn20 => rfl)
 try (case hyn20 => rfl)
 case htn20 => exact F2
 refine bodyPost_ret (v := .agg (hdC (qz9 H' 4 h.out 0)).toArray) ?_ rfl ⟨by rw [hv.out], ?_⟩
 ·exact qz3 Tryz.results161 _ _ (Q6o + 1 + 1) 0 rfl (hdC (qz9 H' 4 h.out 0)) _ (Q6u _ _ _ _ F2) Q6x rfl (qz4 _)
 ·exact Below.setCells (by omega) _ _ _ K2
end
end Go.Proofs.YthjkdnlmopafkaaGreatDoor
