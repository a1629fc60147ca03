/-
  What the law's proof goes by, part 21.
-/
import Derived.Lib.QuietBelow
import Derived.BigQuiet
import Derived.Test.YthjkdnlmopafkaaFnRest00
import Derived.Test.YthjkdnlmopafkaaFnRest10
import Derived.Test.YthjkdnlmopafkaaFnRest12
namespace Go.Proofs.Ythjkdnlmopafkaa
open Go.ChangeShapes Go.WideShapes Go.ChangeAt Go.RowKit
set_option maxRecDepth 100000
set_option maxHeartbeats 16000000
set_option linter.unusedVariables false
set_option linter.unusedSimpArgs false
set_option linter.unnecessarySimpa false
set_option linter.unusedSectionVars false
section
open Go.ChangeShapes Go.WideShapes Go.ChangeAt Go.RowKit Go.Sort
attribute [local go_sem ↓] Go.wp_at_zero Go.wp_at_succ
theorem qz91 (B : Nat) (A : Ar) (h : Hd) (d : Dd) (tk : Bool) (a0 a1 a2 a3 : Option Addr) (c0 c1 c2 c3 : Nat) (w : World) (hB : B <= w.heap.size) (hA : A.size <= 1048576) (I : qz1v B w (.slice a0 A.slots.length c0) (.slice a1 A.guides.length c1) (.slice a2 A.nodes.length c2) (.slice a3 A.vers.length c3) A) (x y z u : Int) (hOk : qz1i x y z u A = true) (hv0 : 0 <= h.ver) (hv1 : h.ver < (A.vers.length : Int)) (hx0 : 0 <= h.x_) (hx1 : h.x_ < (A.nodes.length : Int)) (ho0 : 0 <= h.out) (ho1 : h.out <= 1000000) (hs0 : 0 <= h.sum) (hs1 : h.sum <= 1000000) :
  Calls Try.prog 110 #[.agg (qze A.camera (.slice a0 A.slots.length c0) (.slice a1 A.guides.length c1) (.slice a2 A.nodes.length c2) (.slice a3 A.vers.length c3) h d tk).toArray] w fun e w' => e = .returned (.agg (qze A.camera (.slice a0 A.slots.length c0) (.slice a1 A.guides.length c1) (.slice a2 A.nodes.length c2) (.slice a3 A.vers.length c3) (qz84 A h) d tk).toArray) /\ Below w.heap.size w w' := by
 have hA' := hA
 unfold Ar.size at hA
 have X0 := World.rangeAt_alloc (qzd w (qze A.camera (.slice a0 A.slots.length c0) (.slice a1 A.guides.length c1) (.slice a2 A.nodes.length c2) (.slice a3 A.vers.length c3) h d tk) 143) (.cells #[.int .i64 0, .slice none 0 0, .slice none 0 0, .slice none 0 0, .slice none 0 0, .int .i64 0, .int .i64 0, .int .i64 0, .int .i64 0, .int .i64 0, .int .i64 0, .int .i64 0, .int .i64 0, .int .i64 0, .int .i64 0, .int .i64 0, .int .i64 0, .int .i64 0, .int .i64 0, .int .i64 0, .int .i64 0, .int .i64 0, .int .i64 0, .int .i64 0, .int .i64 0, .int .i64 0, .int .i64 0, .int .i64 0, .int .i64 0, .int .i64 0, .int .i64 0, .int .i64 0, .bool false] 143)
 have G0 := World.there_alloc (qzh w (qze A.camera (.slice a0 A.slots.length c0) (.slice a1 A.guides.length c1) (.slice a2 A.nodes.length c2) (.slice a3 A.vers.length c3) h d tk).toArray 143 33 (by rw [List.size_toArray, qz2d]; exact Nat.le_refl _)) (.cells #[.int .i64 0, .slice none 0 0, .slice none 0 0, .slice none 0 0, .slice none 0 0, .int .i64 0, .int .i64 0, .int .i64 0, .int .i64 0, .int .i64 0, .int .i64 0, .int .i64 0, .int .i64 0, .int .i64 0, .int .i64 0, .int .i64 0, .int .i64 0, .int .i64 0, .int .i64 0, .int .i64 0, .int .i64 0, .int .i64 0, .int .i64 0, .int .i64 0, .int .i64 0, .int .i64 0, .int .i64 0, .int .i64 0, .int .i64 0, .int .i64 0, .int .i64 0, .int .i64 0, .bool false] 143)
 have F0 := qzh (w.alloc (.cells (qze A.camera (.slice a0 A.slots.length c0) (.slice a1 A.guides.length c1) (.slice a2 A.nodes.length c2) (.slice a3 A.vers.length c3) h d tk).toArray 143)) #[.int .i64 0, .slice none 0 0, .slice none 0 0, .slice none 0 0, .slice none 0 0, .int .i64 0, .int .i64 0, .int .i64 0, .int .i64 0, .int .i64 0, .int .i64 0, .int .i64 0, .int .i64 0, .int .i64 0, .int .i64 0, .int .i64 0, .int .i64 0, .int .i64 0, .int .i64 0, .int .i64 0, .int .i64 0, .int .i64 0, .int .i64 0, .int .i64 0, .int .i64 0, .int .i64 0, .int .i64 0, .int .i64 0, .int .i64 0, .int .i64 0, .int .i64 0, .int .i64 0, .bool false] 143 33 (by decide)
 have K0 := ((Below.refl w.heap.size w).alloc (Nat.le_refl _) (.cells (qze A.camera (.slice a0 A.slots.length c0) (.slice a1 A.guides.length c1) (.slice a2 A.nodes.length c2) (.slice a3 A.vers.length c3) h d tk).toArray 143)).alloc (by simp) (.cells #[.int .i64 0, .slice none 0 0, .slice none 0 0, .slice none 0 0, .slice none 0 0, .int .i64 0, .int .i64 0, .int .i64 0, .int .i64 0, .int .i64 0, .int .i64 0, .int .i64 0, .int .i64 0, .int .i64 0, .int .i64 0, .int .i64 0, .int .i64 0, .int .i64 0, .int .i64 0, .int .i64 0, .int .i64 0, .int .i64 0, .int .i64 0, .int .i64 0, .int .i64 0, .int .i64 0, .int .i64 0, .int .i64 0, .int .i64 0, .int .i64 0, .int .i64 0, .int .i64 0, .bool false] 143)
 have hz0 : w.heap.size + 1 < ((w.alloc (.cells (qze A.camera (.slice a0 A.slots.length c0) (.slice a1 A.guides.length c1) (.slice a2 A.nodes.length c2) (.slice a3 A.vers.length c3) h d tk).toArray 143)).alloc (.cells #[.int .i64 0, .slice none 0 0, .slice none 0 0, .slice none 0 0, .slice none 0 0, .int .i64 0, .int .i64 0, .int .i64 0, .int .i64 0, .int .i64 0, .int .i64 0, .int .i64 0, .int .i64 0, .int .i64 0, .int .i64 0, .int .i64 0, .int .i64 0, .int .i64 0, .int .i64 0, .int .i64 0, .int .i64 0, .int .i64 0, .int .i64 0, .int .i64 0, .int .i64 0, .int .i64 0, .int .i64 0, .int .i64 0, .int .i64 0, .int .i64 0, .int .i64 0, .int .i64 0, .bool false] 143)).heap.size := by simp
 simp only [World.size_alloc] at F0
 have I0 := I.below (K0.mono hB)
 go_enter Try.func110, Try.ntmps110
 have tok : True := trivial
 go_wp2_with (clear tok; refine qz2r ((w.alloc (.cells (qze A.camera (.slice a0 A.slots.length c0) (.slice a1 A.guides.length c1) (.slice a2 A.nodes.length c2) (.slice a3 A.vers.length c3) h d tk).toArray 143)).alloc (.cells #[.int .i64 0, .slice none 0 0, .slice none 0 0, .slice none 0 0, .slice none 0 0, .int .i64 0, .int .i64 0, .int .i64 0, .int .i64 0, .int .i64 0, .int .i64 0, .int .i64 0, .int .i64 0, .int .i64 0, .int .i64 0, .int .i64 0, .int .i64 0, .int .i64 0, .int .i64 0, .int .i64 0, .int .i64 0, .int .i64 0, .int .i64 0, .int .i64 0, .int .i64 0, .int .i64 0, .int .i64 0, .int .i64 0, .int .i64 0, .int .i64 0, .int .i64 0, .int .i64 0, .bool false] 143)) ?_)
 generalize hw0 : (w.alloc (.cells (qze A.camera (.slice a0 A.slots.length c0) (.slice a1 A.guides.length c1) (.slice a2 A.nodes.length c2) (.slice a3 A.vers.length c3) h d tk).toArray 143)).alloc (.cells #[.int .i64 0, .slice none 0 0, .slice none 0 0, .slice none 0 0, .slice none 0 0, .int .i64 0, .int .i64 0, .int .i64 0, .int .i64 0, .int .i64 0, .int .i64 0, .int .i64 0, .int .i64 0, .int .i64 0, .int .i64 0, .int .i64 0, .int .i64 0, .int .i64 0, .int .i64 0, .int .i64 0, .int .i64 0, .int .i64 0, .int .i64 0, .int .i64 0, .int .i64 0, .int .i64 0, .int .i64 0, .int .i64 0, .int .i64 0, .int .i64 0, .int .i64 0, .int .i64 0, .bool false] 143) = w0 at *
 clear hw0 I
 show wpList _ _ _ _ _ w0
 obtain ⟨XA, XH, XD, XT⟩ := qzu X0
 obtain ⟨x0, x1, x2, x3, x4⟩ := row5 XA
 obtain ⟨v, hv⟩ : ∃ v : Nat, h.ver = v := ⟨h.ver.toNat, by omega⟩
 have hvl : v < A.vers.length := by omega
 have hvl' : (v : Int) < (A.vers.length : Int) := by omega
 have hvl0 : (0 : Int) <= (v : Int) := by omega
 have hvr : vrOf A h.ver = A.vers[v] := by rw [hv, qz2w A v hvl]
 have hver := qz4a hOk v hvl
 obtain ⟨bb, off, rfl, hbb, R⟩ := qz12.at I0.r (by omega)
 have v3 : w0.cell? ⟨bb, off + v * 5 + 3, none⟩ = some (.int .i64 A.vers[v].prev) := (qzr (sz := 5) (fun _ => rfl) R v hvl) 3 _ rfl
 have q11 : w0.cell? ⟨w.heap.size, 16, none⟩ = some (.int .i64 h.ver) := by simpa using XH 11 _ rfl
 have f11 : w0.frozen? ⟨w.heap.size, 16, none⟩ = false := by simpa using (G0 16 (by decide)).2
 rw [hv] at q11
 by_cases hp : A.vers[v].prev < 0
 case pos =>
  have hd : Hid (qz84 A h = qzc h 7 0 0) := by show _ = _; simp [qz84, hvr, hp]
  go_upto_region 3 with fail
  go_wp2_with (refine wpList_load_mid rfl 56 (.tmp 15) rfl w.heap.size 5 ?ax (hdC h) _ ?ac Try.underlying56 rfl (qz1 h) ?_)
  try (case ax => rfl)
  try (case ac => exact XH)
  refine (qzs h 7 0 0 _).mono ?_
  rintro e w1 ⟨rfl, b1⟩
  have X1 := qz0 X0 b1 (by omega)
  have G1 := qz6 G0 b1 (by omega)
  have F1 := qz6 F0 b1 (by omega)
  have K1 := K0.trans (b1.mono (by omega))
  have T1 := qz1b G1 5 22 (by omega)
  rw [Nat.zero_add] at T1
  go_wp2_with (first | (refine wpList_store_mid rfl 56 (.tmp 18) _ rfl w.heap.size 5 (hdC (qzc h 7 0 0)).toArray ?bx1 ?by1 ?bt1 (qzb _) (qzg _) ?_) | (refine wpList_load_mid rfl 143 (.tmp 1) rfl w.heap.size 0 ?cx1 (qze A.camera (.slice a0 A.slots.length c0) (.slice a1 A.guides.length c1) (.slice a2 A.nodes.length c2) (.slice (some ⟨bb, off, none⟩) A.vers.length c3) (qzc h 7 0 0) d tk) _ ?cc1 Try.underlying143 rfl (qz7 _ _ _ _ _ _ _ _) ?_) | (refine wpList_store_mid rfl 143 (.tmp 2) _ rfl (w.heap.size + 1) 0 (qze A.camera (.slice a0 A.slots.length c0) (.slice a1 A.guides.length c1) (.slice a2 A.nodes.length c2) (.slice (some ⟨bb, off, none⟩) A.vers.length c3) (qzc h 7 0 0) d tk).toArray ?dx1 ?dy1 ?dt1 (qzq _ _ _ _ _ _ _ _) (qz10 _ _ _ _ _ _ _ _ _ _ _ _ _ _ _ _) ?_))
  try (case bx1 => rfl)
  try (case by1 => rfl)
  try (case bt1 => exact T1)
  try (case cx1 => rfl)
  try (case cc1 => exact qz8w X1 T1 _)
  try (case dx1 => rfl)
  try (case dy1 => rfl)
  try (case dt1 => exact World.there_setCells F1 _ _ _)
  refine bodyPost_ret (v := .agg (qze A.camera (.slice a0 A.slots.length c0) (.slice a1 A.guides.length c1) (.slice a2 A.nodes.length c2) (.slice (some ⟨bb, off, none⟩) A.vers.length c3) (qzc h 7 0 0) d tk).toArray) ?_ rfl ⟨by rw [hd.out], ?_⟩
  ·exact qz4 Try.results110 _ _ (w.heap.size + 1) 0 rfl (qze A.camera (.slice a0 A.slots.length c0) (.slice a1 A.guides.length c1) (.slice a2 A.nodes.length c2) (.slice (some ⟨bb, off, none⟩) A.vers.length c3) (qzc h 7 0 0) d tk) _ (World.rangeAt_setCells_same _ _ _ _ (World.there_setCells F1 _ _ _)) Try.underlying143 rfl (qz7 _ _ _ _ _ _ _ _)
  ·exact Below.setCells (by omega) _ _ _ (Below.setCells (Nat.le_refl _) _ _ _ K1)
 obtain ⟨p, hpp⟩ : ∃ p : Nat, A.vers[v].prev = p := ⟨A.vers[v].prev.toNat, by omega⟩
 have hpl : p < A.vers.length := by omega
 have hpl' : (p : Int) < (A.vers.length : Int) := by omega
 have hpl0 : (0 : Int) <= (p : Int) := by omega
 have hp3 : ¬ ((p : Int) < 0) := by omega
 have hpr : vrOf A (p : Int) = A.vers[p] := qz2w A p hpl
 rw [hpp] at v3
 have hbk : Hid (qz84 A h = if qz2s A (p : Int) = true /\ A.vers[p].stamp <= h.held then useH A { h with ver := (p : Int) } else { h with ver := (p : Int) }) := by
  show _ = _
  unfold qz84
  rw [hvr, hpp, if_neg hp3, hpr]
 have hvH : Hid (h.ver = v) := hv
 clear hv
 go_upto_region 6 with fail
 have Xa : (w0.setCell ⟨w.heap.size, 16, none⟩ (.int .i64 (p : Int))).rangeAt w.heap.size 0 (qze A.camera (.slice a0 A.slots.length c0) (.slice a1 A.guides.length c1) (.slice a2 A.nodes.length c2) (.slice (some ⟨bb, off, none⟩) A.vers.length c3) { h with ver := (p : Int) } d tk) := qza X0 16 (by rw [qz2d]; omega) _
 have Ga : (w0.setCell ⟨w.heap.size, 16, none⟩ (.int .i64 (p : Int))).there w.heap.size 0 33 := qz3 G0 _ _
 have Fa : (w0.setCell ⟨w.heap.size, 16, none⟩ (.int .i64 (p : Int))).there (w.heap.size + 1) 0 33 := qz3 F0 _ _
 have Ka := Below.setCell K0 (p := ⟨w.heap.size, 16, none⟩) (Nat.le_refl _) (.int .i64 (p : Int))
 have Ia := I0.below (Below.setCell (Below.refl B w0) (p := ⟨w.heap.size, 16, none⟩) hB (.int .i64 (p : Int)))
 have hza : w.heap.size + 1 < (w0.setCell ⟨w.heap.size, 16, none⟩ (.int .i64 (p : Int))).heap.size := by rw [World.size_setCell]; exact hz0
 generalize hwa : w0.setCell ⟨w.heap.size, 16, none⟩ (.int .i64 (p : Int)) = wa at *
 clear hwa X0 G0 F0 K0 I0 hz0 XA XH XD XT x0 x1 x2 x3 x4 v3 q11 f11 R
 obtain ⟨XA, XH, -, -⟩ := qzu Xa
 obtain ⟨x0, x1, x2, x3, x4⟩ := row5 XA
 obtain ⟨bc, oc, e0, hbc, R⟩ := qz12.at Ia.r (by omega)
 cases e0
 have s2 : wa.cell? ⟨bb, off + p * 5 + 2, none⟩ = some (.int .i64 A.vers[p].stamp) := (qzr (sz := 5) (fun _ => rfl) R p hpl) 2 _ rfl
 have q9 : wa.cell? ⟨w.heap.size, 14, none⟩ = some (.int .i64 h.held) := by simpa using XH 9 _ rfl
 cases hst : qz2s A (p : Int)
 case false =>
  have hd : Hid (qz84 A h = { h with ver := (p : Int) }) := by show _ = _; rw [hbk.out, if_neg (by rw [hst]; simp)]
  have y0 : ∀ (dq : Nat) (os : Array Obj), (grow (redrawn wa dq) os).cell? ⟨w.heap.size, 0, none⟩ = some (.int .i64 A.camera) := fun dq os => cell_regrown x0 dq os
  have y1 : ∀ (dq : Nat) (os : Array Obj), (grow (redrawn wa dq) os).cell? ⟨w.heap.size, 1, none⟩ = some (.slice a0 A.slots.length c0) := fun dq os => cell_regrown x1 dq os
  have y2 : ∀ (dq : Nat) (os : Array Obj), (grow (redrawn wa dq) os).cell? ⟨w.heap.size, 2, none⟩ = some (.slice a1 A.guides.length c1) := fun dq os => cell_regrown x2 dq os
  have y3 : ∀ (dq : Nat) (os : Array Obj), (grow (redrawn wa dq) os).cell? ⟨w.heap.size, 3, none⟩ = some (.slice a2 A.nodes.length c2) := fun dq os => cell_regrown x3 dq os
  have y4 : ∀ (dq : Nat) (os : Array Obj), (grow (redrawn wa dq) os).cell? ⟨w.heap.size, 4, none⟩ = some (.slice (some ⟨bb, off, none⟩) A.vers.length c3) := fun dq os => cell_regrown x4 dq os
  have y9 : ∀ (dq : Nat) (os : Array Obj), (grow (redrawn wa dq) os).cell? ⟨w.heap.size, 14, none⟩ = some (.int .i64 h.held) := fun dq os => cell_regrown q9 dq os
  have ys : ∀ (dq : Nat) (os : Array Obj), (grow (redrawn wa dq) os).cell? ⟨bb, off + p * 5 + 2, none⟩ = some (.int .i64 A.vers[p].stamp) := fun dq os => cell_regrown s2 dq os
  have cS : ∀ (dq : Nat) (os : Array Obj), Calls Try.prog 115 #[.agg #[.int .i64 A.camera, .slice a0 A.slots.length c0, .slice a1 A.guides.length c1, .slice a2 A.nodes.length c2, .slice (some ⟨bb, off, none⟩) A.vers.length c3], .int .i64 (p : Int)] (grow (redrawn wa dq) os) fun e w'' => e = .returned (.bool false) /\ ∃ q : Regrown, w'' = grow (redrawn wa q.d) q.os := fun dq os => by
   have hbq := below_regrown wa dq os
   have hcl := qz1l B A (p : Int) a0 a1 a2 (some ⟨bb, off, none⟩) c0 c1 c2 c3 (grow (redrawn wa dq) os) (Nat.le_trans hB (Nat.le_trans (Nat.le_of_lt (Nat.lt_of_succ_lt hza)) hbq.size)) hA' (Ia.below (hbq.mono (by omega)))
   rw [hst] at hcl
   exact Calls.regrown_of hcl
  refine wp_region_quiet_below (by kernel_rfl) (by kernel_rfl) ?_
  repeat (go_big_quiet_step (exact cS _ _))
  refine wpQuiet_nil ?_
  intro _ hw'
  obtain ⟨⟨dq, osq⟩, hw''⟩ := hw'
  subst hw''
  have BB := below_regrown wa dq osq
  generalize grow (redrawn wa dq) osq = wb at *
  clear cS y0 y1 y2 y3 y4 y9 ys
  have Xb := qz0 Xa BB (by omega)
  have Gb := qz6 Ga BB (by omega)
  have Fb := qz6 Fa BB (by omega)
  have Kb := Ka.trans (BB.mono (by omega))
  have Ib := Ia.below (BB.mono (by omega))
  have zb := BB.size
  go_upto_region 8 with fail
  go_wp2_with (first | (refine wpList_load_mid rfl 143 (.tmp 1) rfl w.heap.size 0 ?cx4 (qze A.camera (.slice a0 A.slots.length c0) (.slice a1 A.guides.length c1) (.slice a2 A.nodes.length c2) (.slice (some ⟨bb, off, none⟩) A.vers.length c3) { h with ver := (p : Int) } d tk) _ ?cc4 Try.underlying143 rfl (qz7 _ _ _ _ _ _ _ _) ?_) | (refine wpList_store_mid rfl 143 (.tmp 2) _ rfl (w.heap.size + 1) 0 (qze A.camera (.slice a0 A.slots.length c0) (.slice a1 A.guides.length c1) (.slice a2 A.nodes.length c2) (.slice (some ⟨bb, off, none⟩) A.vers.length c3) { h with ver := (p : Int) } d tk).toArray ?dx4 ?dy4 ?dt4 (qzq _ _ _ _ _ _ _ _) (qz10 _ _ _ _ _ _ _ _ _ _ _ _ _ _ _ _) ?_))
  try (case cx4 => rfl)
  try (case cc4 => exact Xb)
  try (case dx4 => rfl)
  try (case dy4 => rfl)
  try (case dt4 => exact Fb)
  refine bodyPost_ret (v := .agg (qze A.camera (.slice a0 A.slots.length c0) (.slice a1 A.guides.length c1) (.slice a2 A.nodes.length c2) (.slice (some ⟨bb, off, none⟩) A.vers.length c3) { h with ver := (p : Int) } d tk).toArray) ?_ rfl ⟨by rw [hd.out], ?_⟩
  ·exact qz4 Try.results110 _ _ (w.heap.size + 1) 0 rfl (qze A.camera (.slice a0 A.slots.length c0) (.slice a1 A.guides.length c1) (.slice a2 A.nodes.length c2) (.slice (some ⟨bb, off, none⟩) A.vers.length c3) { h with ver := (p : Int) } d tk) _ (World.rangeAt_setCells_same _ _ _ _ Fb) Try.underlying143 rfl (qz7 _ _ _ _ _ _ _ _)
  ·exact Below.setCells (by omega) _ _ _ Kb
 by_cases hle : A.vers[p].stamp <= h.held
 case neg =>
  have hd : Hid (qz84 A h = { h with ver := (p : Int) }) := by show _ = _; rw [hbk.out, if_neg (fun hq => hle hq.2)]
  have y0 : ∀ (dq : Nat) (os : Array Obj), (grow (redrawn wa dq) os).cell? ⟨w.heap.size, 0, none⟩ = some (.int .i64 A.camera) := fun dq os => cell_regrown x0 dq os
  have y1 : ∀ (dq : Nat) (os : Array Obj), (grow (redrawn wa dq) os).cell? ⟨w.heap.size, 1, none⟩ = some (.slice a0 A.slots.length c0) := fun dq os => cell_regrown x1 dq os
  have y2 : ∀ (dq : Nat) (os : Array Obj), (grow (redrawn wa dq) os).cell? ⟨w.heap.size, 2, none⟩ = some (.slice a1 A.guides.length c1) := fun dq os => cell_regrown x2 dq os
  have y3 : ∀ (dq : Nat) (os : Array Obj), (grow (redrawn wa dq) os).cell? ⟨w.heap.size, 3, none⟩ = some (.slice a2 A.nodes.length c2) := fun dq os => cell_regrown x3 dq os
  have y4 : ∀ (dq : Nat) (os : Array Obj), (grow (redrawn wa dq) os).cell? ⟨w.heap.size, 4, none⟩ = some (.slice (some ⟨bb, off, none⟩) A.vers.length c3) := fun dq os => cell_regrown x4 dq os
  have y9 : ∀ (dq : Nat) (os : Array Obj), (grow (redrawn wa dq) os).cell? ⟨w.heap.size, 14, none⟩ = some (.int .i64 h.held) := fun dq os => cell_regrown q9 dq os
  have ys : ∀ (dq : Nat) (os : Array Obj), (grow (redrawn wa dq) os).cell? ⟨bb, off + p * 5 + 2, none⟩ = some (.int .i64 A.vers[p].stamp) := fun dq os => cell_regrown s2 dq os
  have cS : ∀ (dq : Nat) (os : Array Obj), Calls Try.prog 115 #[.agg #[.int .i64 A.camera, .slice a0 A.slots.length c0, .slice a1 A.guides.length c1, .slice a2 A.nodes.length c2, .slice (some ⟨bb, off, none⟩) A.vers.length c3], .int .i64 (p : Int)] (grow (redrawn wa dq) os) fun e w'' => e = .returned (.bool true) /\ ∃ q : Regrown, w'' = grow (redrawn wa q.d) q.os := fun dq os => by
   have hbq := below_regrown wa dq os
   have hcl := qz1l B A (p : Int) a0 a1 a2 (some ⟨bb, off, none⟩) c0 c1 c2 c3 (grow (redrawn wa dq) os) (Nat.le_trans hB (Nat.le_trans (Nat.le_of_lt (Nat.lt_of_succ_lt hza)) hbq.size)) hA' (Ia.below (hbq.mono (by omega)))
   rw [hst] at hcl
   exact Calls.regrown_of hcl
  refine wp_region_quiet_below (by kernel_rfl) (by kernel_rfl) ?_
  repeat (go_big_quiet_step (exact cS _ _))
  refine wpQuiet_nil ?_
  intro _ hw'
  obtain ⟨⟨dq, osq⟩, hw''⟩ := hw'
  subst hw''
  have BB := below_regrown wa dq osq
  generalize grow (redrawn wa dq) osq = wb at *
  clear cS y0 y1 y2 y3 y4 y9 ys
  have Xb := qz0 Xa BB (by omega)
  have Gb := qz6 Ga BB (by omega)
  have Fb := qz6 Fa BB (by omega)
  have Kb := Ka.trans (BB.mono (by omega))
  have Ib := Ia.below (BB.mono (by omega))
  have zb := BB.size
  go_upto_region 8 with fail
  go_wp2_with (first | (refine wpList_load_mid rfl 143 (.tmp 1) rfl w.heap.size 0 ?cx5 (qze A.camera (.slice a0 A.slots.length c0) (.slice a1 A.guides.length c1) (.slice a2 A.nodes.length c2) (.slice (some ⟨bb, off, none⟩) A.vers.length c3) { h with ver := (p : Int) } d tk) _ ?cc5 Try.underlying143 rfl (qz7 _ _ _ _ _ _ _ _) ?_) | (refine wpList_store_mid rfl 143 (.tmp 2) _ rfl (w.heap.size + 1) 0 (qze A.camera (.slice a0 A.slots.length c0) (.slice a1 A.guides.length c1) (.slice a2 A.nodes.length c2) (.slice (some ⟨bb, off, none⟩) A.vers.length c3) { h with ver := (p : Int) } d tk).toArray ?dx5 ?dy5 ?dt5 (qzq _ _ _ _ _ _ _ _) (qz10 _ _ _ _ _ _ _ _ _ _ _ _ _ _ _ _) ?_))
  try (case cx5 => rfl)
  try (case cc5 => exact Xb)
  try (case dx5 => rfl)
  try (case dy5 => rfl)
  try (case dt5 => exact Fb)
  refine bodyPost_ret (v := .agg (qze A.camera (.slice a0 A.slots.length c0) (.slice a1 A.guides.length c1) (.slice a2 A.nodes.length c2) (.slice (some ⟨bb, off, none⟩) A.vers.length c3) { h with ver := (p : Int) } d tk).toArray) ?_ rfl ⟨by rw [hd.out], ?_⟩
  ·exact qz4 Try.results110 _ _ (w.heap.size + 1) 0 rfl (qze A.camera (.slice a0 A.slots.length c0) (.slice a1 A.guides.length c1) (.slice a2 A.nodes.length c2) (.slice (some ⟨bb, off, none⟩) A.vers.length c3) { h with ver := (p : Int) } d tk) _ (World.rangeAt_setCells_same _ _ _ _ Fb) Try.underlying143 rfl (qz7 _ _ _ _ _ _ _ _)
  ·exact Below.setCells (by omega) _ _ _ Kb
 have y0 : ∀ (dq : Nat) (os : Array Obj), (grow (redrawn wa dq) os).cell? ⟨w.heap.size, 0, none⟩ = some (.int .i64 A.camera) := fun dq os => cell_regrown x0 dq os
 have y1 : ∀ (dq : Nat) (os : Array Obj), (grow (redrawn wa dq) os).cell? ⟨w.heap.size, 1, none⟩ = some (.slice a0 A.slots.length c0) := fun dq os => cell_regrown x1 dq os
 have y2 : ∀ (dq : Nat) (os : Array Obj), (grow (redrawn wa dq) os).cell? ⟨w.heap.size, 2, none⟩ = some (.slice a1 A.guides.length c1) := fun dq os => cell_regrown x2 dq os
 have y3 : ∀ (dq : Nat) (os : Array Obj), (grow (redrawn wa dq) os).cell? ⟨w.heap.size, 3, none⟩ = some (.slice a2 A.nodes.length c2) := fun dq os => cell_regrown x3 dq os
 have y4 : ∀ (dq : Nat) (os : Array Obj), (grow (redrawn wa dq) os).cell? ⟨w.heap.size, 4, none⟩ = some (.slice (some ⟨bb, off, none⟩) A.vers.length c3) := fun dq os => cell_regrown x4 dq os
 have y9 : ∀ (dq : Nat) (os : Array Obj), (grow (redrawn wa dq) os).cell? ⟨w.heap.size, 14, none⟩ = some (.int .i64 h.held) := fun dq os => cell_regrown q9 dq os
 have ys : ∀ (dq : Nat) (os : Array Obj), (grow (redrawn wa dq) os).cell? ⟨bb, off + p * 5 + 2, none⟩ = some (.int .i64 A.vers[p].stamp) := fun dq os => cell_regrown s2 dq os
 have cS : ∀ (dq : Nat) (os : Array Obj), Calls Try.prog 115 #[.agg #[.int .i64 A.camera, .slice a0 A.slots.length c0, .slice a1 A.guides.length c1, .slice a2 A.nodes.length c2, .slice (some ⟨bb, off, none⟩) A.vers.length c3], .int .i64 (p : Int)] (grow (redrawn wa dq) os) fun e w'' => e = .returned (.bool true) /\ ∃ q : Regrown, w'' = grow (redrawn wa q.d) q.os := fun dq os => by
  have hbq := below_regrown wa dq os
  have hcl := qz1l B A (p : Int) a0 a1 a2 (some ⟨bb, off, none⟩) c0 c1 c2 c3 (grow (redrawn wa dq) os) (Nat.le_trans hB (Nat.le_trans (Nat.le_of_lt (Nat.lt_of_succ_lt hza)) hbq.size)) hA' (Ia.below (hbq.mono (by omega)))
  rw [hst] at hcl
  exact Calls.regrown_of hcl
 refine wp_region_quiet_below (by kernel_rfl) (by kernel_rfl) ?_
 repeat (go_big_quiet_step (exact cS _ _))
 refine wpQuiet_nil ?_
 intro _ hw'
 obtain ⟨⟨dq, osq⟩, hw''⟩ := hw'
 subst hw''
 have BB := below_regrown wa dq osq
 generalize grow (redrawn wa dq) osq = wb at *
 clear cS y0 y1 y2 y3 y4 y9 ys
 have Xb := qz0 Xa BB (by omega)
 have Gb := qz6 Ga BB (by omega)
 have Fb := qz6 Fa BB (by omega)
 have Kb := Ka.trans (BB.mono (by omega))
 have Ib := Ia.below (BB.mono (by omega))
 have zb := BB.size
 obtain ⟨H', hH⟩ : ∃ H' : Hd, Hid (H' = { h with ver := (p : Int) }) := by exact ⟨_, rfl⟩
 have hd : Hid (qz84 A h = useH A H') := by show _ = _; rw [hH.out, hbk.out, if_pos ⟨hst, hle⟩]
 rw [<- hH.out] at Xb
 have XHb := (qzu Xb).2.1
 obtain ⟨x0, x1, x2, x3, x4⟩ := row5 (qzu Xb).1
 go_upto_region 7 with fail
 go_wp2_with (refine wpList_load_mid rfl 56 (.tmp 42) rfl w.heap.size 5 ?ex (hdC H') _ ?ec Try.underlying56 rfl (qz1 H') ?_)
 try (case ex => rfl)
 try (case ec => exact XHb)
 refine (qz7t B A H' _ _ _ _ _ _ _ _ _ (by omega) hA' Ib x y z u hOk (by rw [hH.out]; exact hpl0) (by rw [hH.out]; exact hpl') (by rw [hH.out]; exact hx0) (by rw [hH.out]; exact hx1) (by rw [hH.out]; exact ho0) (by rw [hH.out]; exact ho1) (by rw [hH.out]; exact hs0) (by rw [hH.out]; exact hs1)).mono ?_
 rintro e w1 ⟨rfl, b1⟩
 have X1 := qz0 Xb b1 (by omega)
 have G1 := qz6 Gb b1 (by omega)
 have F1 := qz6 Fb b1 (by omega)
 have K1 := Kb.trans (b1.mono (by omega))
 have T1 := qz1b G1 5 22 (by omega)
 rw [Nat.zero_add] at T1
 go_upto_region 8 with (refine wpList_store_mid rfl 56 (.tmp 45) _ rfl w.heap.size 5 (hdC (useH A H')).toArray ?bx6 ?by6 ?bt6 (qzb _) (qzg _) ?_)
 try (case bx6 => rfl)
 try (case by6 => rfl)
 try (case bt6 => exact T1)
 go_wp2_with (first | (refine wpList_load_mid rfl 143 (.tmp 1) rfl w.heap.size 0 ?cx6 (qze A.camera (.slice a0 A.slots.length c0) (.slice a1 A.guides.length c1) (.slice a2 A.nodes.length c2) (.slice (some ⟨bb, off, none⟩) A.vers.length c3) (useH A H') d tk) _ ?cc6 Try.underlying143 rfl (qz7 _ _ _ _ _ _ _ _) ?_) | (refine wpList_store_mid rfl 143 (.tmp 2) _ rfl (w.heap.size + 1) 0 (qze A.camera (.slice a0 A.slots.length c0) (.slice a1 A.guides.length c1) (.slice a2 A.nodes.length c2) (.slice (some ⟨bb, off, none⟩) A.vers.length c3) (useH A H') d tk).toArray ?dx6 ?dy6 ?dt6 (qzq _ _ _ _ _ _ _ _) (qz10 _ _ _ _ _ _ _ _ _ _ _ _ _ _ _ _) ?_))
 try (case cx6 => rfl)
 try (case cc6 => exact qz8w X1 T1 _)
 try (case dx6 => rfl)
 try (case dy6 => rfl)
 try (case dt6 => exact World.there_setCells F1 _ _ _)
 refine bodyPost_ret (v := .agg (qze A.camera (.slice a0 A.slots.length c0) (.slice a1 A.guides.length c1) (.slice a2 A.nodes.length c2) (.slice (some ⟨bb, off, none⟩) A.vers.length c3) (useH A H') d tk).toArray) ?_ rfl ⟨by rw [hd.out], ?_⟩
 ·exact qz4 Try.results110 _ _ (w.heap.size + 1) 0 rfl (qze A.camera (.slice a0 A.slots.length c0) (.slice a1 A.guides.length c1) (.slice a2 A.nodes.length c2) (.slice (some ⟨bb, off, none⟩) A.vers.length c3) (useH A H') d tk) _ (World.rangeAt_setCells_same _ _ _ _ (World.there_setCells F1 _ _ _)) Try.underlying143 rfl (qz7 _ _ _ _ _ _ _ _)
 ·exact Below.setCells (by omega) _ _ _ (Below.setCells (Nat.le_refl _) _ _ _ K1)
end
end Go.Proofs.Ythjkdnlmopafkaa
