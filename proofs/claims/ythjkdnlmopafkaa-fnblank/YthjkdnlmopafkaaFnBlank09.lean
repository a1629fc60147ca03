/-
  What the law's proof goes by, part 10.
-/
import Derived.Test.YthjkdnlmopafkaaFnBlank00
import Derived.Test.YthjkdnlmopafkaaFnBlank08
namespace Go.Proofs.Ythjkdnlmopafkaa
open Go.ChangeShapes Go.WideShapes Go.ChangeAt Go.RowKit
set_option maxRecDepth 100000
set_option maxHeartbeats 16000000
set_option linter.unusedVariables false
set_option linter.unusedSimpArgs false
set_option linter.unnecessarySimpa false
set_option linter.unusedSectionVars false
section
attribute [local go_sem ↓] Go.wp_at_zero Go.wp_at_succ
theorem qzn (x y : Int) (w : World) : Calls Try.prog 90 #[.int .i64 x, .int .i64 y] w fun e w' => e = .returned (.int .i64 (min x y)) /\ w' = w := by
 by_cases h : x < y
 ·go_enter Try.func90, Try.ntmps90
  go_wp2
  go_ret
  exact ⟨by rw [show min x y = x by omega]; rfl, rfl⟩
 ·go_enter Try.func90, Try.ntmps90
  go_wp2
  go_ret
  exact ⟨by rw [show min x y = y by omega]; rfl, rfl⟩
theorem qz16 (x y : Int) (w : World) : Calls Try.prog 103 #[.int .i64 x, .int .i64 y] w fun e w' => e = .returned (.int .i64 (max x y)) /\ w' = w := by
 by_cases h : y < x
 ·go_enter Try.func103, Try.ntmps103
  go_wp2
  go_ret
  exact ⟨by rw [show max x y = x by omega]; rfl, rfl⟩
 ·go_enter Try.func103, Try.ntmps103
  go_wp2
  go_ret
  exact ⟨by rw [show max x y = y by omega]; rfl, rfl⟩
theorem qz9b {x y z u : Int} {A : Ar} (h : qz17 x y z u A = true) (n : Nat) (hn : n < Q69) : 0 <= A.nodes[n].value /\ A.nodes[n].value <= 9999 := by
 have := (qz1x _ _).1 (qz2e h).2.2.2.1 n hn
 unfold qz45 at this
 split at this <;> (simp only [Bool.and_eq_true, qz1b, beq_iff_eq] at this; omega)
theorem qz4o {x y z u : Int} {A : Ar} (h : qz17 x y z u A = true) (n : Nat) (hn : n < Q6a) : (A.vers[n].next = -1 ∨ 1 <= A.vers[n].next /\ A.vers[n].next < (Q69 : Int)) /\ (-1 <= A.vers[n].stamp /\ A.vers[n].stamp <= Q6e) /\ (-1 <= A.vers[n].prev /\ A.vers[n].prev < (n : Int)) /\ (0 <= A.vers[n].kind /\ A.vers[n].kind <= 2) := by
 have := (qz1x _ _).1 (qz2e h).2.2.2.2 n hn
 simp only [verB, Bool.and_eq_true, Bool.or_eq_true, qz1b, beq_iff_eq] at this
 omega
def qz4i (A : Ar) (h : Hd) : Hd := if h.x_ + 1 < (Q69 : Int) then { h with x_ := h.x_ + 1, then_ := 7, at_ := 2 } else qz8 h 4 h.out 0
def qz5v (A : Ar) (h : Hd) : Hd := { h with out := min (h.out + 1) 1000000, sum := min (h.sum + (ndOf A h.x_).value) 1000000 }
def qz4n (A : Ar) (h : Hd) : Bool := decide (h.x_ ≠ 0) && (h.code == 7) && inB (ndOf A h.x_).key h.key h.value && !(vrOf A h.ver).gone
def qz5r (A : Ar) (h : Hd) : Bool := decide ((vrOf A h.ver).next < 0) || decide ((if h.code = 7 then h.value else h.key) < (ndOf A (vrOf A h.ver).next).key)
def useH (A : Ar) (h : Hd) : Hd :=
 if h.code ≠ 6 /\ h.code ≠ 7 then { h with at_ := 0 }
 else if h.x_ ≠ 0 /\ h.code = 6 /\ (ndOf A h.x_).key = h.key then (if (vrOf A h.ver).gone then qz8 h 3 0 0 else qz8 h 2 (ndOf A h.x_).value 0)
 else if qz5r A h then (if h.code = 6 then qz8 h 3 0 0 else qz8 h 4 (if qz4n A h then qz5v A h else h).out (if qz4n A h then qz5v A h else h).sum)
 else { (if qz4n A h then qz5v A h else h) with x_ := (vrOf A h.ver).next, at_ := 2 }
theorem qz72 (B : Nat) (A : Ar) (h : Hd) (a0 a1 a2 a3 : Option Addr) (c0 c1 c2 c3 : Nat) (w : World) (hB : B <= Q67) (hA : A.size <= 1048576) (I : qz1i B w Q17 Q18 Q1b Q1t A) (hx0 : 0 <= h.x_) (hx1 : h.x_ < (Q69 : Int)) :
  Calls Try.prog 124 Q55 w fun e w' => e = .returned (.agg (hdC (qz4i A h)).toArray) /\ Below Q67 w w' := by
 have hA' := hA
 unfold Ar.size at hA
 have X0 := Q6w (Q6w (qz7 w Q0k 30) Q0q) (.cells Q00 56)
 have H0 := Q6w (qz7 Q47 (hdC h) 56) (.cells Q00 56)
 have G0 := World.there_alloc (qzf Q47 (hdC h).toArray 56 22 (by simp [hdC])) (.cells Q00 56)
 have F0 := qzf Q3a Q00 56 22 (by decide)
 have K0 := (((Q6c Q67 w).alloc (Q6f _) (.cells Q03 30)).alloc (by simp) Q0q).alloc (by simp; omega) (.cells Q00 56)
 have hz0 : Q67 + 1 + 1 < (Q2i).heap.size := by simp
 simp only [World.size_alloc] at H0 G0 F0
 have I0 := I.below (K0.mono hB)
 go_enter Try.func124, Try.ntmps124
 have tok : True := trivial
 go_wp2_with (clear tok; refine qz2o Q2i ?_)
 generalize hw0 : (Q3a).alloc (.cells Q00 56) = w0 at *
 clear hw0 I
 show wpList _ _ _ _ _ w0
 obtain ⟨x0, x1, x2, x3, x4⟩ := row5 X0
 have q0 : w0.cell? ⟨Q67 + 1, 0, none⟩ = some (.int .i64 h.at_) := by simpa using H0 0 (.int .i64 h.at_) rfl
 have q1 : w0.cell? ⟨Q67 + 1, 1, none⟩ = some (.int .i64 h.then_) := by simpa using H0 1 (.int .i64 h.then_) rfl
 have q10 : w0.cell? ⟨Q67 + 1, 10, none⟩ = some (.int .i64 h.x_) := by simpa using H0 10 (.int .i64 h.x_) rfl
 have q7 : w0.cell? ⟨Q67 + 1, 7, none⟩ = some (.int .i64 h.out) := by simpa using H0 7 (.int .i64 h.out) rfl
 have f0 : w0.frozen? ⟨Q67 + 1, 0, none⟩ = false := by simpa using (G0 0 (by decide)).2
 have f1 : w0.frozen? ⟨Q67 + 1, 1, none⟩ = false := by simpa using (G0 1 (by decide)).2
 have f10 : w0.frozen? ⟨Q67 + 1, 10, none⟩ = false := by simpa using (G0 10 (by decide)).2
 by_cases hn : h.x_ + 1 < (Q69 : Int)
 ·obtain ⟨H', hH⟩ : ∃ H' : Hd, Hid (H' = { h with x_ := h.x_ + 1, then_ := 7, at_ := 2 }) := by exact ⟨_, rfl⟩
  have hv : Hid (qz4i A h = H') := by show _ = _; rw [hH.out]; simp [qz4i, hn]
  go_wp2_with (first | (refine Q6h rfl 56 (.tmp 3) rfl (Q67 + 1) 0 ?hxln19 (hdC H') _ ?hcn19 Q6g rfl (qz4 H') ?_) | (refine Q6b rfl 56 (.tmp 4) _ rfl (Q67 + 1 + 1) 0 (hdC H').toArray ?hxn19 ?hyn19 ?htn19 (qzb _) (qzh _) ?_))
  try (case hxln19 => rfl)
  case hcn19 => rw [hH.out]; exact (qza (qza (qza H0 10 (by simp [hdC]) _) 1 (by simp [hdC]) _) 0 (by simp [hdC]) _)
  try (case hxn19 => rfl)
  try (case hyn19 => rfl)
  case htn19 => exact (qz2 (qz2 (qz2 F0 _ _) _ _) _ _)
  refine bodyPost_ret (v := .agg (hdC H').toArray) ?_ rfl ⟨by rw [hv.out], ?_⟩
  ·exact qz3 Try.results124 _ _ (Q67 + 1 + 1) 0 rfl (hdC H') _ (Q6d _ _ _ _ (qz2 (qz2 (qz2 F0 _ _) _ _) _ _)) Q6g rfl (qz4 _)
  ·exact Below.setCells (by omega) _ _ _ (Below.setCell (Below.setCell (Below.setCell K0 (p := ⟨Q67 + 1, 10, none⟩) (by show Q67 <= Q67 + 1; omega) _) (p := ⟨Q67 + 1, 1, none⟩) (by show Q67 <= Q67 + 1; omega) _) (p := ⟨Q67 + 1, 0, none⟩) (by show Q67 <= Q67 + 1; omega) _)
 obtain ⟨H', hH⟩ : ∃ H' : Hd, Hid (H' = h) := by exact ⟨_, rfl⟩
 have hv : Hid (qz4i A h = qz8 H' 4 h.out 0) := by show _ = _; rw [hH.out]; simp [qz4i, hn]
 go_wp2_with (first | (refine Q6h rfl 56 (.tmp 3) rfl (Q67 + 1) 0 ?hxln20 (hdC H') _ ?hcn20 Q6g rfl (qz4 H') ?_))
 try (case hxln20 => rfl)
 case hcn20 => rw [hH.out]; exact H0
 refine (qzq H' 4 h.out 0 _).mono ?_
 rintro e w2 ⟨rfl, b2⟩
 have F2 := qz5 F0 b2 (by first | omega | (simp; omega))
 have K2 := K0.trans (b2.mono (by first | omega | (simp; omega)))
 go_wp2_with (refine Q6b rfl 56 (.tmp 4) _ rfl (Q67 + 1 + 1) 0 (hdC (qz8 H' 4 h.out 0)).toArray ?hxn20 ?hyn20 ?htn20 (qzb _) (qzh _) ?_)
 try (case hxn20 => rfl)
 try (case hyn20 => rfl)
 case htn20 => exact F2
 refine bodyPost_ret (v := .agg (hdC (qz8 H' 4 h.out 0)).toArray) ?_ rfl ⟨by rw [hv.out], ?_⟩
 ·exact qz3 Try.results124 _ _ (Q67 + 1 + 1) 0 rfl (hdC (qz8 H' 4 h.out 0)) _ (Q6d _ _ _ _ F2) Q6g rfl (qz4 _)
 ·exact Below.setCells (by omega) _ _ _ K2
end
end Go.Proofs.Ythjkdnlmopafkaa
