/-
  What the law's proof goes by, part 8.
-/
import Derived.Lib.QuietBelow
import Derived.BigQuiet
import Derived.Test.YtclkglkhhnapiaaFnCallG
namespace Go.Proofs.Ytclkglkhhnapiaa
open Go.ChangeShapes Go.WideShapes Go.ChangeAt Go.RowKit
set_option maxRecDepth 100000
set_option maxHeartbeats 16000000
set_option linter.unusedVariables false
set_option linter.unusedSimpArgs false
set_option linter.unnecessarySimpa false
set_option linter.unusedSectionVars false
section
open Go.ChangeShapes Go.WideShapes Go.ChangeAt Go.RowKit Go.Sort
attribute [local go_sem ↓] Go.wp_at_zero Go.wp_at_succ
theorem qz9f (B : Nat) (A : Ar) (h : Hd) (d : Dd) (tk : Bool) (a0 a1 a2 a3 : Option Addr) (c0 c1 c2 c3 : Nat) (w : World) (hB : B <= w.heap.size) (hA : A.size <= 1048576) (I : qz25 B w (.slice a0 A.slots.length c0) (.slice a1 A.guides.length c1) (.slice a2 A.nodes.length c2) (.slice a3 A.vers.length c3) A) (x y z u : Int) (hOk : qz1o x y z u A = true) (hv0 : 0 <= h.ver) (hv1 : h.ver < (A.vers.length : Int)) (hx0 : 0 <= h.x_) (hx1 : h.x_ < (A.nodes.length : Int)) (ho0 : 0 <= h.out) (ho1 : h.out <= 1000000) (hs0 : 0 <= h.sum) (hs1 : h.sum <= 1000000) :
  Calls Try.prog 115 #[.agg (qze A.camera (.slice a0 A.slots.length c0) (.slice a1 A.guides.length c1) (.slice a2 A.nodes.length c2) (.slice a3 A.vers.length c3) h d tk).toArray] w fun e w' => e = .returned (.agg (qze A.camera (.slice a0 A.slots.length c0) (.slice a1 A.guides.length c1) (.slice a2 A.nodes.length c2) (.slice a3 A.vers.length c3) (qz8h A h) d tk).toArray) /\ Below w.heap.size w w' := by
 have hA' := hA
 unfold Ar.size at hA
 have X0 := World.rangeAt_alloc (qzd w (qze A.camera (.slice a0 A.slots.length c0) (.slice a1 A.guides.length c1) (.slice a2 A.nodes.length c2) (.slice a3 A.vers.length c3) h d tk) 147) (.cells #[.int .i64 0, .slice none 0 0, .slice none 0 0, .slice none 0 0, .slice none 0 0, .int .i64 0, .int .i64 0, .int .i64 0, .int .i64 0, .int .i64 0, .int .i64 0, .int .i64 0, .int .i64 0, .int .i64 0, .int .i64 0, .int .i64 0, .int .i64 0, .int .i64 0, .int .i64 0, .int .i64 0, .int .i64 0, .int .i64 0, .int .i64 0, .int .i64 0, .int .i64 0, .int .i64 0, .int .i64 0, .int .i64 0, .int .i64 0, .int .i64 0, .int .i64 0, .int .i64 0, .bool false] 147)
 have G0 := World.there_alloc (qzh w (qze A.camera (.slice a0 A.slots.length c0) (.slice a1 A.guides.length c1) (.slice a2 A.nodes.length c2) (.slice a3 A.vers.length c3) h d tk).toArray 147 33 (by rw [List.size_toArray, qz2n]; exact Nat.le_refl _)) (.cells #[.int .i64 0, .slice none 0 0, .slice none 0 0, .slice none 0 0, .slice none 0 0, .int .i64 0, .int .i64 0, .int .i64 0, .int .i64 0, .int .i64 0, .int .i64 0, .int .i64 0, .int .i64 0, .int .i64 0, .int .i64 0, .int .i64 0, .int .i64 0, .int .i64 0, .int .i64 0, .int .i64 0, .int .i64 0, .int .i64 0, .int .i64 0, .int .i64 0, .int .i64 0, .int .i64 0, .int .i64 0, .int .i64 0, .int .i64 0, .int .i64 0, .int .i64 0, .int .i64 0, .bool false] 147)
 have F0 := qzh (w.alloc (.cells (qze A.camera (.slice a0 A.slots.length c0) (.slice a1 A.guides.length c1) (.slice a2 A.nodes.length c2) (.slice a3 A.vers.length c3) h d tk).toArray 147)) #[.int .i64 0, .slice none 0 0, .slice none 0 0, .slice none 0 0, .slice none 0 0, .int .i64 0, .int .i64 0, .int .i64 0, .int .i64 0, .int .i64 0, .int .i64 0, .int .i64 0, .int .i64 0, .int .i64 0, .int .i64 0, .int .i64 0, .int .i64 0, .int .i64 0, .int .i64 0, .int .i64 0, .int .i64 0, .int .i64 0, .int .i64 0, .int .i64 0, .int .i64 0, .int .i64 0, .int .i64 0, .int .i64 0, .int .i64 0, .int .i64 0, .int .i64 0, .int .i64 0, .bool false] 147 33 (by decide)
 have K0 := ((Below.refl w.heap.size w).alloc (Nat.le_refl _) (.cells (qze A.camera (.slice a0 A.slots.length c0) (.slice a1 A.guides.length c1) (.slice a2 A.nodes.length c2) (.slice a3 A.vers.length c3) h d tk).toArray 147)).alloc (by simp) (.cells #[.int .i64 0, .slice none 0 0, .slice none 0 0, .slice none 0 0, .slice none 0 0, .int .i64 0, .int .i64 0, .int .i64 0, .int .i64 0, .int .i64 0, .int .i64 0, .int .i64 0, .int .i64 0, .int .i64 0, .int .i64 0, .int .i64 0, .int .i64 0, .int .i64 0, .int .i64 0, .int .i64 0, .int .i64 0, .int .i64 0, .int .i64 0, .int .i64 0, .int .i64 0, .int .i64 0, .int .i64 0, .int .i64 0, .int .i64 0, .int .i64 0, .int .i64 0, .int .i64 0, .bool false] 147)
 have hz0 : w.heap.size + 1 < ((w.alloc (.cells (qze A.camera (.slice a0 A.slots.length c0) (.slice a1 A.guides.length c1) (.slice a2 A.nodes.length c2) (.slice a3 A.vers.length c3) h d tk).toArray 147)).alloc (.cells #[.int .i64 0, .slice none 0 0, .slice none 0 0, .slice none 0 0, .slice none 0 0, .int .i64 0, .int .i64 0, .int .i64 0, .int .i64 0, .int .i64 0, .int .i64 0, .int .i64 0, .int .i64 0, .int .i64 0, .int .i64 0, .int .i64 0, .int .i64 0, .int .i64 0, .int .i64 0, .int .i64 0, .int .i64 0, .int .i64 0, .int .i64 0, .int .i64 0, .int .i64 0, .int .i64 0, .int .i64 0, .int .i64 0, .int .i64 0, .int .i64 0, .int .i64 0, .int .i64 0, .bool false] 147)).heap.size := by simp
 simp only [World.size_alloc] at F0
 have I0 := I.below (K0.mono hB)
 go_enter Try.func115, Try.ntmps115
 have tok : True := trivial
 go_wp2_with (clear tok; refine qz2e ((w.alloc (.cells (qze A.camera (.slice a0 A.slots.length c0) (.slice a1 A.guides.length c1) (.slice a2 A.nodes.length c2) (.slice a3 A.vers.length c3) h d tk).toArray 147)).alloc (.cells #[.int .i64 0, .slice none 0 0, .slice none 0 0, .slice none 0 0, .slice none 0 0, .int .i64 0, .int .i64 0, .int .i64 0, .int .i64 0, .int .i64 0, .int .i64 0, .int .i64 0, .int .i64 0, .int .i64 0, .int .i64 0, .int .i64 0, .int .i64 0, .int .i64 0, .int .i64 0, .int .i64 0, .int .i64 0, .int .i64 0, .int .i64 0, .int .i64 0, .int .i64 0, .int .i64 0, .int .i64 0, .int .i64 0, .int .i64 0, .int .i64 0, .int .i64 0, .int .i64 0, .bool false] 147)) ?_)
 generalize hw0 : (w.alloc (.cells (qze A.camera (.slice a0 A.slots.length c0) (.slice a1 A.guides.length c1) (.slice a2 A.nodes.length c2) (.slice a3 A.vers.length c3) h d tk).toArray 147)).alloc (.cells #[.int .i64 0, .slice none 0 0, .slice none 0 0, .slice none 0 0, .slice none 0 0, .int .i64 0, .int .i64 0, .int .i64 0, .int .i64 0, .int .i64 0, .int .i64 0, .int .i64 0, .int .i64 0, .int .i64 0, .int .i64 0, .int .i64 0, .int .i64 0, .int .i64 0, .int .i64 0, .int .i64 0, .int .i64 0, .int .i64 0, .int .i64 0, .int .i64 0, .int .i64 0, .int .i64 0, .int .i64 0, .int .i64 0, .int .i64 0, .int .i64 0, .int .i64 0, .int .i64 0, .bool false] 147) = w0 at *
 clear hw0 I
 show wpList _ _ _ _ _ w0
 obtain ⟨XA, XH, XD, XT⟩ := qzw X0
 obtain ⟨x0, x1, x2, x3, x4⟩ := row5 XA
 obtain ⟨v, hv⟩ : ∃ v : Nat, h.ver = v := ⟨h.ver.toNat, by omega⟩
 have hvl : v < A.vers.length := by omega
 have hvl' : (v : Int) < (A.vers.length : Int) := by omega
 have hvl0 : (0 : Int) <= (v : Int) := by omega
 have hvr : vrOf A h.ver = A.vers[v] := by rw [hv, qz32 A v hvl]
 have hver := qz4l hOk v hvl
 obtain ⟨bb, off, rfl, hbb, R⟩ := qz14.at I0.r (by omega)
 have v3 : w0.cell? ⟨bb, off + v * 5 + 3, none⟩ = some (.int .i64 A.vers[v].prev) := (qzu (sz := 5) (fun _ => rfl) R v hvl) 3 _ rfl
 have q11 : w0.cell? ⟨w.heap.size, 16, none⟩ = some (.int .i64 h.ver) := by simpa using XH 11 _ rfl
 have f11 : w0.frozen? ⟨w.heap.size, 16, none⟩ = false := by simpa using (G0 16 (by decide)).2
 rw [hv] at q11
 by_cases hp : A.vers[v].prev < 0
 case pos =>
  have hd : Hid (qz8h A h = qzb h 7 0 0) := by show _ = _; simp [qz8h, hvr, hp]
  go_upto_region 3 with fail
  go_wp2_with (refine wpList_load_mid rfl 27 (.tmp 15) rfl w.heap.size 5 ?ax (hdC h) _ ?ac Try.underlying27 rfl (qz1 h) ?_)
  try (case ax => rfl)
  try (case ac => exact XH)
  refine (qzv h 7 0 0 _).mono ?_
  rintro e w1 ⟨rfl, b1⟩
  have X1 := qz0 X0 b1 (by omega)
  have G1 := qz6 G0 b1 (by omega)
  have F1 := qz6 F0 b1 (by omega)
  have K1 := K0.trans (b1.mono (by omega))
  have T1 := qz1c G1 5 22 (by omega)
  rw [Nat.zero_add] at T1
  go_wp2_with (first | (refine wpList_store_mid rfl 27 (.tmp 18) _ rfl w.heap.size 5 (hdC (qzb h 7 0 0)).toArray ?bx1 ?by1 ?bt1 (qza _) (qzf _) ?_) | (refine wpList_load_mid rfl 147 (.tmp 1) rfl w.heap.size 0 ?cx1 (qze A.camera (.slice a0 A.slots.length c0) (.slice a1 A.guides.length c1) (.slice a2 A.nodes.length c2) (.slice (some ⟨bb, off, none⟩) A.vers.length c3) (qzb h 7 0 0) d tk) _ ?cc1 Try.underlying147 rfl (qz9 _ _ _ _ _ _ _ _) ?_) | (refine wpList_store_mid rfl 147 (.tmp 2) _ rfl (w.heap.size + 1) 0 (qze A.camera (.slice a0 A.slots.length c0) (.slice a1 A.guides.length c1) (.slice a2 A.nodes.length c2) (.slice (some ⟨bb, off, none⟩) A.vers.length c3) (qzb h 7 0 0) d tk).toArray ?dx1 ?dy1 ?dt1 (qzt _ _ _ _ _ _ _ _) (qz13 _ _ _ _ _ _ _ _ _ _ _ _ _ _ _ _) ?_))
  try (case bx1 => rfl)
  try (case by1 => rfl)
  try (case bt1 => exact T1)
  try (case cx1 => rfl)
  try (case cc1 => exact qz96 X1 T1 _)
  try (case dx1 => rfl)
  try (case dy1 => rfl)
  try (case dt1 => exact World.there_setCells F1 _ _ _)
  refine bodyPost_ret (v := .agg (qze A.camera (.slice a0 A.slots.length c0) (.slice a1 A.guides.length c1) (.slice a2 A.nodes.length c2) (.slice (some ⟨bb, off, none⟩) A.vers.length c3) (qzb h 7 0 0) d tk).toArray) ?_ rfl ⟨by rw [hd.out], ?_⟩
  ·exact qz5 Try.results115 _ _ (w.heap.size + 1) 0 rfl (qze A.camera (.slice a0 A.slots.length c0) (.slice a1 A.guides.length c1) (.slice a2 A.nodes.length c2) (.slice (some ⟨bb, off, none⟩) A.vers.length c3) (qzb h 7 0 0) d tk) _ (World.rangeAt_setCells_same _ _ _ _ (World.there_setCells F1 _ _ _)) Try.underlying147 rfl (qz9 _ _ _ _ _ _ _ _)
  ·exact Below.setCells (by omega) _ _ _ (Below.setCells (Nat.le_refl _) _ _ _ K1)
 obtain ⟨p, hpp⟩ : ∃ p : Nat, A.vers[v].prev = p := ⟨A.vers[v].prev.toNat, by omega⟩
 have hpl : p < A.vers.length := by omega
 have hpl' : (p : Int) < (A.vers.length : Int) := by omega
 have hpl0 : (0 : Int) <= (p : Int) := by omega
 have hp3 : ¬ ((p : Int) < 0) := by omega
 have hpr : vrOf A (p : Int) = A.vers[p] := qz32 A p hpl
 rw [hpp] at v3
 have hbk : Hid (qz8h A h = if qz2x A (p : Int) = true /\ A.vers[p].stamp <= h.held then useH A { h with ver := (p : Int) } else { h with ver := (p : Int) }) := by
  show _ = _
  unfold qz8h
  rw [hvr, hpp, if_neg hp3, hpr]
 have hvH : Hid (h.ver = v) := hv
 clear hv
 go_upto_region 6 with fail
 have Xa : (w0.setCell ⟨w.heap.size, 16, none⟩ (.int .i64 (p : Int))).rangeAt w.heap.size 0 (qze A.camera (.slice a0 A.slots.length c0) (.slice a1 A.guides.length c1) (.slice a2 A.nodes.length c2) (.slice (some ⟨bb, off, none⟩) A.vers.length c3) { h with ver := (p : Int) } d tk) := qzc X0 16 (by rw [qz2n]; omega) _
 have Ga : (w0.setCell ⟨w.heap.size, 16, none⟩ (.int .i64 (p : Int))).there w.heap.size 0 33 := qz4 G0 _ _
 have Fa : (w0.setCell ⟨w.heap.size, 16, none⟩ (.int .i64 (p : Int))).there (w.heap.size + 1) 0 33 := qz4 F0 _ _
 have Ka := Below.setCell K0 (p := ⟨w.heap.size, 16, none⟩) (Nat.le_refl _) (.int .i64 (p : Int))
 have Ia := I0.below (Below.setCell (Below.refl B w0) (p := ⟨w.heap.size, 16, none⟩) hB (.int .i64 (p : Int)))
 have hza : w.heap.size + 1 < (w0.setCell ⟨w.heap.size, 16, none⟩ (.int .i64 (p : Int))).heap.size := by rw [World.size_setCell]; exact hz0
 generalize hwa : w0.setCell ⟨w.heap.size, 16, none⟩ (.int .i64 (p : Int)) = wa at *
 clear hwa X0 G0 F0 K0 I0 hz0 XA XH XD XT x0 x1 x2 x3 x4 v3 q11 f11 R
 obtain ⟨XA, XH, -, -⟩ := qzw Xa
 obtain ⟨x0, x1, x2, x3, x4⟩ := row5 XA
 obtain ⟨bc, oc, e0, hbc, R⟩ := qz14.at Ia.r (by omega)
 cases e0
 have s2 : wa.cell? ⟨bb, off + p * 5 + 2, none⟩ = some (.int .i64 A.vers[p].stamp) := (qzu (sz := 5) (fun _ => rfl) R p hpl) 2 _ rfl
 have q9 : wa.cell? ⟨w.heap.size, 14, none⟩ = some (.int .i64 h.held) := by simpa using XH 9 _ rfl
 cases hst : qz2x A (p : Int)
 case false =>
  have hd : Hid (qz8h A h = { h with ver := (p : Int) }) := by show _ = _; rw [hbk.out, if_neg (by rw [hst]; simp)]
  have y0 : ∀ (dq : Nat) (os : Array Obj), (grow (redrawn wa dq) os).cell? ⟨w.heap.size, 0, none⟩ = some (.int .i64 A.camera) := fun dq os => cell_regrown x0 dq os
  have y1 : ∀ (dq : Nat) (os : Array Obj), (grow (redrawn wa dq) os).cell? ⟨w.heap.size, 1, none⟩ = some (.slice a0 A.slots.length c0) := fun dq os => cell_regrown x1 dq os
  have y2 : ∀ (dq : Nat) (os : Array Obj), (grow (redrawn wa dq) os).cell? ⟨w.heap.size, 2, none⟩ = some (.slice a1 A.guides.length c1) := fun dq os => cell_regrown x2 dq os
  have y3 : ∀ (dq : Nat) (os : Array Obj), (grow (redrawn wa dq) os).cell? ⟨w.heap.size, 3, none⟩ = some (.slice a2 A.nodes.length c2) := fun dq os => cell_regrown x3 dq os
  have y4 : ∀ (dq : Nat) (os : Array Obj), (grow (redrawn wa dq) os).cell? ⟨w.heap.size, 4, none⟩ = some (.slice (some ⟨bb, off, none⟩) A.vers.length c3) := fun dq os => cell_regrown x4 dq os
  have y9 : ∀ (dq : Nat) (os : Array Obj), (grow (redrawn wa dq) os).cell? ⟨w.heap.size, 14, none⟩ = some (.int .i64 h.held) := fun dq os => cell_regrown q9 dq os
  have ys : ∀ (dq : Nat) (os : Array Obj), (grow (redrawn wa dq) os).cell? ⟨bb, off + p * 5 + 2, none⟩ = some (.int .i64 A.vers[p].stamp) := fun dq os => cell_regrown s2 dq os
  have cS : ∀ (dq : Nat) (os : Array Obj), Calls Try.prog 120 #[.agg #[.int .i64 A.camera, .slice a0 A.slots.length c0, .slice a1 A.guides.length c1, .slice a2 A.nodes.length c2, .slice (some ⟨bb, off, none⟩) A.vers.length c3], .int .i64 (p : Int)] (grow (redrawn wa dq) os) fun e w'' => e = .returned (.bool false) /\ ∃ q : Regrown, w'' = grow (redrawn wa q.d) q.os := fun dq os => by
   have hbq := below_regrown wa dq os
   have hcl := qz1s B A (p : Int) a0 a1 a2 (some ⟨bb, off, none⟩) c0 c1 c2 c3 (grow (redrawn wa dq) os) (Nat.le_trans hB (Nat.le_trans (Nat.le_of_lt (Nat.lt_of_succ_lt hza)) hbq.size)) hA' (Ia.below (hbq.mono (by omega)))
   rw [hst] at hcl
   exact Calls.regrown_of hcl
  refine wp_region_quiet_below (by kernel_rfl) (by kernel_rfl) ?_
  repeat (go_big_quiet_step (exact cS _ _))
  refine wpQuiet_nil ?_
  intro _ hw'
  obtain ⟨⟨dq, osq⟩, hw''⟩ := hw'
  subst hw''
  have BB := below_regrown wa dq osq
  generalize grow (redrawn wa dq) osq = wb at *
  clear cS y0 y1 y2 y3 y4 y9 ys
  have Xb := qz0 Xa BB (by omega)
  have Gb := qz6 Ga BB (by omega)
  have Fb := qz6 Fa BB (by omega)
  have Kb := Ka.trans (BB.mono (by omega))
  have Ib := Ia.below (BB.mono (by omega))
  have zb := BB.size
  go_upto_region 8 with fail
  go_wp2_with (first | (refine wpList_load_mid rfl 147 (.tmp 1) rfl w.heap.size 0 ?cx4 (qze A.camera (.slice a0 A.slots.length c0) (.slice a1 A.guides.length c1) (.slice a2 A.nodes.length c2) (.slice (some ⟨bb, off, none⟩) A.vers.length c3) { h with ver := (p : Int) } d tk) _ ?cc4 Try.underlying147 rfl (qz9 _ _ _ _ _ _ _ _) ?_) | (refine wpList_store_mid rfl 147 (.tmp 2) _ rfl (w.heap.size + 1) 0 (qze A.camera (.slice a0 A.slots.length c0) (.slice a1 A.guides.length c1) (.slice a2 A.nodes.length c2) (.slice (some ⟨bb, off, none⟩) A.vers.length c3) { h with ver := (p : Int) } d tk).toArray ?dx4 ?dy4 ?dt4 (qzt _ _ _ _ _ _ _ _) (qz13 _ _ _ _ _ _ _ _ _ _ _ _ _ _ _ _) ?_))
  try (case cx4 => rfl)
  try (case cc4 => exact Xb)
  try (case dx4 => rfl)
  try (case dy4 => rfl)
  try (case dt4 => exact Fb)
  refine bodyPost_ret (v := .agg (qze A.camera (.slice a0 A.slots.length c0) (.slice a1 A.guides.length c1) (.slice a2 A.nodes.length c2) (.slice (some ⟨bb, off, none⟩) A.vers.length c3) { h with ver := (p : Int) } d tk).toArray) ?_ rfl ⟨by rw [hd.out], ?_⟩
  ·exact qz5 Try.results115 _ _ (w.heap.size + 1) 0 rfl (qze A.camera (.slice a0 A.slots.length c0) (.slice a1 A.guides.length c1) (.slice a2 A.nodes.length c2) (.slice (some ⟨bb, off, none⟩) A.vers.length c3) { h with ver := (p : Int) } d tk) _ (World.rangeAt_setCells_same _ _ _ _ Fb) Try.underlying147 rfl (qz9 _ _ _ _ _ _ _ _)
  ·exact Below.setCells (by omega) _ _ _ Kb
 by_cases hle : A.vers[p].stamp <= h.held
 case neg =>
  have hd : Hid (qz8h A h = { h with ver := (p : Int) }) := by show _ = _; rw [hbk.out, if_neg (fun hq => hle hq.2)]
  have y0 : ∀ (dq : Nat) (os : Array Obj), (grow (redrawn wa dq) os).cell? ⟨w.heap.size, 0, none⟩ = some (.int .i64 A.camera) := fun dq os => cell_regrown x0 dq os
  have y1 : ∀ (dq : Nat) (os : Array Obj), (grow (redrawn wa dq) os).cell? ⟨w.heap.size, 1, none⟩ = some (.slice a0 A.slots.length c0) := fun dq os => cell_regrown x1 dq os
  have y2 : ∀ (dq : Nat) (os : Array Obj), (grow (redrawn wa dq) os).cell? ⟨w.heap.size, 2, none⟩ = some (.slice a1 A.guides.length c1) := fun dq os => cell_regrown x2 dq os
  have y3 : ∀ (dq : Nat) (os : Array Obj), (grow (redrawn wa dq) os).cell? ⟨w.heap.size, 3, none⟩ = some (.slice a2 A.nodes.length c2) := fun dq os => cell_regrown x3 dq os
  have y4 : ∀ (dq : Nat) (os : Array Obj), (grow (redrawn wa dq) os).cell? ⟨w.heap.size, 4, none⟩ = some (.slice (some ⟨bb, off, none⟩) A.vers.length c3) := fun dq os => cell_regrown x4 dq os
  have y9 : ∀ (dq : Nat) (os : Array Obj), (grow (redrawn wa dq) os).cell? ⟨w.heap.size, 14, none⟩ = some (.int .i64 h.held) := fun dq os => cell_regrown q9 dq os
  have ys : ∀ (dq : Nat) (os : Array Obj), (grow (redrawn wa dq) os).cell? ⟨bb, off + p * 5 + 2, none⟩ = some (.int .i64 A.vers[p].stamp) := fun dq os => cell_regrown s2 dq os
  have cS : ∀ (dq : Nat) (os : Array Obj), Calls Try.prog 120 #[.agg #[.int .i64 A.camera, .slice a0 A.slots.length c0, .slice a1 A.guides.length c1, .slice a2 A.nodes.length c2, .slice (some ⟨bb, off, none⟩) A.vers.length c3], .int .i64 (p : Int)] (grow (redrawn wa dq) os) fun e w'' => e = .returned (.bool true) /\ ∃ q : Regrown, w'' = grow (redrawn wa q.d) q.os := fun dq os => by
   have hbq := below_regrown wa dq os
   have hcl := qz1s B A (p : Int) a0 a1 a2 (some ⟨bb, off, none⟩) c0 c1 c2 c3 (grow (redrawn wa dq) os) (Nat.le_trans hB (Nat.le_trans (Nat.le_of_lt (Nat.lt_of_succ_lt hza)) hbq.size)) hA' (Ia.below (hbq.mono (by omega)))
   rw [hst] at hcl
   exact Calls.regrown_of hcl
  refine wp_region_quiet_below (by kernel_rfl) (by kernel_rfl) ?_
  repeat (go_big_quiet_step (exact cS _ _))
  refine wpQuiet_nil ?_
  intro _ hw'
  obtain ⟨⟨dq, osq⟩, hw''⟩ := hw'
  subst hw''
  have BB := below_regrown wa dq osq
  generalize grow (redrawn wa dq) osq = wb at *
  clear cS y0 y1 y2 y3 y4 y9 ys
  have Xb := qz0 Xa BB (by omega)
  have Gb := qz6 Ga BB (by omega)
  have Fb := qz6 Fa BB (by omega)
  have Kb := Ka.trans (BB.mono (by omega))
  have Ib := Ia.below (BB.mono (by omega))
  have zb := BB.size
  go_upto_region 8 with fail
  go_wp2_with (first | (refine wpList_load_mid rfl 147 (.tmp 1) rfl w.heap.size 0 ?cx5 (qze A.camera (.slice a0 A.slots.length c0) (.slice a1 A.guides.length c1) (.slice a2 A.nodes.length c2) (.slice (some ⟨bb, off, none⟩) A.vers.length c3) { h with ver := (p : Int) } d tk) _ ?cc5 Try.underlying147 rfl (qz9 _ _ _ _ _ _ _ _) ?_) | (refine wpList_store_mid rfl 147 (.tmp 2) _ rfl (w.heap.size + 1) 0 (qze A.camera (.slice a0 A.slots.length c0) (.slice a1 A.guides.length c1) (.slice a2 A.nodes.length c2) (.slice (some ⟨bb, off, none⟩) A.vers.length c3) { h with ver := (p : Int) } d tk).toArray ?dx5 ?dy5 ?dt5 (qzt _ _ _ _ _ _ _ _) (qz13 _ _ _ _ _ _ _ _ _ _ _ _ _ _ _ _) ?_))
  try (case cx5 => rfl)
  try (case cc5 => exact Xb)
  try (case dx5 => rfl)
  try (case dy5 => rfl)
  try (case dt5 => exact Fb)
  refine bodyPost_ret (v := .agg (qze A.camera (.slice a0 A.slots.length c0) (.slice a1 A.guides.length c1) (.slice a2 A.nodes.length c2) (.slice (some ⟨bb, off, none⟩) A.vers.length c3) { h with ver := (p : Int) } d tk).toArray) ?_ rfl ⟨by rw [hd.out], ?_⟩
  ·exact qz5 Try.results115 _ _ (w.heap.size + 1) 0 rfl (qze A.camera (.slice a0 A.slots.length c0) (.slice a1 A.guides.length c1) (.slice a2 A.nodes.length c2) (.slice (some ⟨bb, off, none⟩) A.vers.length c3) { h with ver := (p : Int) } d tk) _ (World.rangeAt_setCells_same _ _ _ _ Fb) Try.underlying147 rfl (qz9 _ _ _ _ _ _ _ _)
  ·exact Below.setCells (by omega) _ _ _ Kb
 have y0 : ∀ (dq : Nat) (os : Array Obj), (grow (redrawn wa dq) os).cell? ⟨w.heap.size, 0, none⟩ = some (.int .i64 A.camera) := fun dq os => cell_regrown x0 dq os
 have y1 : ∀ (dq : Nat) (os : Array Obj), (grow (redrawn wa dq) os).cell? ⟨w.heap.size, 1, none⟩ = some (.slice a0 A.slots.length c0) := fun dq os => cell_regrown x1 dq os
 have y2 : ∀ (dq : Nat) (os : Array Obj), (grow (redrawn wa dq) os).cell? ⟨w.heap.size, 2, none⟩ = some (.slice a1 A.guides.length c1) := fun dq os => cell_regrown x2 dq os
 have y3 : ∀ (dq : Nat) (os : Array Obj), (grow (redrawn wa dq) os).cell? ⟨w.heap.size, 3, none⟩ = some (.slice a2 A.nodes.length c2) := fun dq os => cell_regrown x3 dq os
 have y4 : ∀ (dq : Nat) (os : Array Obj), (grow (redrawn wa dq) os).cell? ⟨w.heap.size, 4, none⟩ = some (.slice (some ⟨bb, off, none⟩) A.vers.length c3) := fun dq os => cell_regrown x4 dq os
 have y9 : ∀ (dq : Nat) (os : Array Obj), (grow (redrawn wa dq) os).cell? ⟨w.heap.size, 14, none⟩ = some (.int .i64 h.held) := fun dq os => cell_regrown q9 dq os
 have ys : ∀ (dq : Nat) (os : Array Obj), (grow (redrawn wa dq) os).cell? ⟨bb, off + p * 5 + 2, none⟩ = some (.int .i64 A.vers[p].stamp) := fun dq os => cell_regrown s2 dq os
 have cS : ∀ (dq : Nat) (os : Array Obj), Calls Try.prog 120 #[.agg #[.int .i64 A.camera, .slice a0 A.slots.length c0, .slice a1 A.guides.length c1, .slice a2 A.nodes.length c2, .slice (some ⟨bb, off, none⟩) A.vers.length c3], .int .i64 (p : Int)] (grow (redrawn wa dq) os) fun e w'' => e = .returned (.bool true) /\ ∃ q : Regrown, w'' = grow (redrawn wa q.d) q.os := fun dq os => by
  have hbq := below_regrown wa dq os
  have hcl := qz1s B A (p : Int) a0 a1 a2 (some ⟨bb, off, none⟩) c0 c1 c2 c3 (grow (redrawn wa dq) os) (Nat.le_trans hB (Nat.le_trans (Nat.le_of_lt (Nat.lt_of_succ_lt hza)) hbq.size)) hA' (Ia.below (hbq.mono (by omega)))
  rw [hst] at hcl
  exact Calls.regrown_of hcl
 refine wp_region_quiet_below (by kernel_rfl) (by kernel_rfl) ?_
 repeat (go_big_quiet_step (exact cS _ _))
 refine wpQuiet_nil ?_
 intro _ hw'
 obtain ⟨⟨dq, osq⟩, hw''⟩ := hw'
 subst hw''
 have BB := below_regrown wa dq osq
 generalize grow (redrawn wa dq) osq = wb at *
 clear cS y0 y1 y2 y3 y4 y9 ys
 have Xb := qz0 Xa BB (by omega)
 have Gb := qz6 Ga BB (by omega)
 have Fb := qz6 Fa BB (by omega)
 have Kb := Ka.trans (BB.mono (by omega))
 have Ib := Ia.below (BB.mono (by omega))
 have zb := BB.size
 obtain ⟨H', hH⟩ : ∃ H' : Hd, Hid (H' = { h with ver := (p : Int) }) := by exact ⟨_, rfl⟩
 have hd : Hid (qz8h A h = useH A H') := by show _ = _; rw [hH.out, hbk.out, if_pos ⟨hst, hle⟩]
 rw [<- hH.out] at Xb
 have XHb := (qzw Xb).2.1
 obtain ⟨x0, x1, x2, x3, x4⟩ := row5 (qzw Xb).1
 go_upto_region 7 with fail
 go_wp2_with (refine wpList_load_mid rfl 27 (.tmp 42) rfl w.heap.size 5 ?ex (hdC H') _ ?ec Try.underlying27 rfl (qz1 H') ?_)
 try (case ex => rfl)
 try (case ec => exact XHb)
 refine (qz7m B A H' _ _ _ _ _ _ _ _ _ (by omega) hA' Ib x y z u hOk (by rw [hH.out]; exact hpl0) (by rw [hH.out]; exact hpl') (by rw [hH.out]; exact hx0) (by rw [hH.out]; exact hx1) (by rw [hH.out]; exact ho0) (by rw [hH.out]; exact ho1) (by rw [hH.out]; exact hs0) (by rw [hH.out]; exact hs1)).mono ?_
 rintro e w1 ⟨rfl, b1⟩
 have X1 := qz0 Xb b1 (by omega)
 have G1 := qz6 Gb b1 (by omega)
 have F1 := qz6 Fb b1 (by omega)
 have K1 := Kb.trans (b1.mono (by omega))
 have T1 := qz1c G1 5 22 (by omega)
 rw [Nat.zero_add] at T1
 go_upto_region 8 with (refine wpList_store_mid rfl 27 (.tmp 45) _ rfl w.heap.size 5 (hdC (useH A H')).toArray ?bx6 ?by6 ?bt6 (qza _) (qzf _) ?_)
 try (case bx6 => rfl)
 try (case by6 => rfl)
 try (case bt6 => exact T1)
 go_wp2_with (first | (refine wpList_load_mid rfl 147 (.tmp 1) rfl w.heap.size 0 ?cx6 (qze A.camera (.slice a0 A.slots.length c0) (.slice a1 A.guides.length c1) (.slice a2 A.nodes.length c2) (.slice (some ⟨bb, off, none⟩) A.vers.length c3) (useH A H') d tk) _ ?cc6 Try.underlying147 rfl (qz9 _ _ _ _ _ _ _ _) ?_) | (refine wpList_store_mid rfl 147 (.tmp 2) _ rfl (w.heap.size + 1) 0 (qze A.camera (.slice a0 A.slots.length c0) (.slice a1 A.guides.length c1) (.slice a2 A.nodes.length c2) (.slice (some ⟨bb, off, none⟩) A.vers.length c3) (useH A H') d tk).toArray ?dx6 ?dy6 ?dt6 (qzt _ _ _ _ _ _ _ _) (qz13 _ _ _ _ _ _ _ _ _ _ _ _ _ _ _ _) ?_))
 try (case cx6 => rfl)
 try (case cc6 => exact qz96 X1 T1 _)
 try (case dx6 => rfl)
 try (case dy6 => rfl)
 try (case dt6 => exact World.there_setCells F1 _ _ _)
 refine bodyPost_ret (v := .agg (qze A.camera (.slice a0 A.slots.length c0) (.slice a1 A.guides.length c1) (.slice a2 A.nodes.length c2) (.slice (some ⟨bb, off, none⟩) A.vers.length c3) (useH A H') d tk).toArray) ?_ rfl ⟨by rw [hd.out], ?_⟩
 ·exact qz5 Try.results115 _ _ (w.heap.size + 1) 0 rfl (qze A.camera (.slice a0 A.slots.length c0) (.slice a1 A.guides.length c1) (.slice a2 A.nodes.length c2) (.slice (some ⟨bb, off, none⟩) A.vers.length c3) (useH A H') d tk) _ (World.rangeAt_setCells_same _ _ _ _ (World.there_setCells F1 _ _ _)) Try.underlying147 rfl (qz9 _ _ _ _ _ _ _ _)
 ·exact Below.setCells (by omega) _ _ _ (Below.setCells (Nat.le_refl _) _ _ _ K1)
end
section
open Go.ChangeShapes Go.WideShapes Go.ChangeAt Go.RowKit Go.Sort
attribute [local go_sem ↓] Go.wp_at_zero Go.wp_at_succ
def qz84 (A : Ar) (h : Hd) : Ar := { A with vers := A.vers.set h.ver.toNat { vrOf A h.ver with prev := -1 } }
def qz4a (A : Ar) (h : Hd) : Ar × Hd :=
 if h.at_ = 20 then (A, { h with least := A.camera, index := 0, out := 0, at_ := 21 })
 else if h.at_ = 22 then (if (vrOf A h.ver).prev < 0 then (A, qz4e A h) else if qz2x A (vrOf A h.ver).prev = true /\ (vrOf A (vrOf A h.ver).prev).stamp <= h.least then (A, { h with ver := (vrOf A h.ver).prev, at_ := 23 }) else (A, { h with ver := (vrOf A h.ver).prev }))
 else if h.at_ = 23 then (if (vrOf A h.ver).prev < 0 then (A, qz4e A h) else (qz84 A h, qz4e (qz84 A h) { h with out := min (h.out + 1) 1000000 }))
 else (A, h)
theorem Stp.elsewhere {base : Nat} {w0 w w' : World} {b bo : Nat} {s0 g0 n0 r0 s g n r : Value} {A : Ar} {D : List Value} {c : Nat} (S : Stp base w0 w b bo s0 g0 n0 r0 s g n r A D) (k : Only c w w') (hc : w0.heap.size <= c) (h1 : b ≠ c) (h2 : bo ≠ c) (h3 : ∀ q, OwnB s g n r q -> q ≠ c) : Stp base w0 w' b bo s0 g0 n0 r0 s g n r A D :=
 have hB : But (fun q => q = c) w w' := But.of_only k rfl
 ⟨hB.range S.row (Nat.lt_trans S.lt S.hi) h1, hB.there S.th (Nat.lt_trans S.lt S.hi) h1, hB.there S.to S.hi h2, S.lo, S.lt, Nat.lt_of_lt_of_le S.hi k.size, S.own.kept hB h3, S.but.far k hc, S.blk, S.ne⟩
theorem qza5 (A : Ar) (h : Hd) : (qz84 A h).size = A.size := by simp [qz84, Ar.size]
theorem qz9d (base : Nat) (A : Ar) (h : Hd) (d : Dd) (tk : Bool) (s g n r : Value) (w : World) (hbase : base <= w.heap.size) (hA : A.size <= 1048576) (O : qz38 base w s g n r A) (x y z u : Int) (hOk : qz1o x y z u A = true) (hv0 : 0 <= h.ver) (hv1 : h.ver < (A.vers.length : Int)) (hx0 : 0 <= h.x_) (hx1 : h.x_ < (A.nodes.length : Int)) (ho0 : 0 <= h.out) (ho1 : h.out <= 1000000) (hnot : h.at_ ≠ 21) :
  Calls Try.prog 116 #[.agg (qze A.camera s g n r h d tk).toArray] w fun e w' => ∃ s' g' n' r', e = .returned (.agg (qze A.camera s' g' n' r' (qz4a A h).2 d tk).toArray) /\ qz2b base w w' s g n r s' g' n' r' (qz4a A h).1 := by
 have hA' := hA
 unfold Ar.size at hA
 obtain ⟨sa, sc, rfl⟩ := qzk O.rs
 obtain ⟨ga, gc, rfl⟩ := qzk O.rg
 obtain ⟨na, nc, rfl⟩ := qzk O.rn
 obtain ⟨rb, rc, rfl⟩ := qz19 O.rr (by omega)
 have S0 := qz7y base w (.slice sa A.slots.length sc) (.slice ga A.guides.length gc) (.slice na A.nodes.length nc) (.slice (some ⟨rb, 0, none⟩) A.vers.length rc) A (qze A.camera (.slice sa A.slots.length sc) (.slice ga A.guides.length gc) (.slice na A.nodes.length nc) (.slice (some ⟨rb, 0, none⟩) A.vers.length rc) h d tk) [.int .i64 0, .slice none 0 0, .slice none 0 0, .slice none 0 0, .slice none 0 0, .int .i64 0, .int .i64 0, .int .i64 0, .int .i64 0, .int .i64 0, .int .i64 0, .int .i64 0, .int .i64 0, .int .i64 0, .int .i64 0, .int .i64 0, .int .i64 0, .int .i64 0, .int .i64 0, .int .i64 0, .int .i64 0, .int .i64 0, .int .i64 0, .int .i64 0, .int .i64 0, .int .i64 0, .int .i64 0, .int .i64 0, .int .i64 0, .int .i64 0, .int .i64 0, .int .i64 0, .bool false] 147 O rfl rfl
 have hrb := qz2m O.rr (j := rb) rfl
 obtain ⟨vk, hvk⟩ : ∃ k : Nat, h.ver = k := ⟨h.ver.toNat, by omega⟩
 have hvl : vk < A.vers.length := by omega
 have hver := qz4l hOk vk hvl
 go_enter Try.func116, Try.ntmps116
 have tok : True := trivial
 go_wp2_with (clear tok; refine qz2e ((w.alloc (.cells (qze A.camera (.slice sa A.slots.length sc) (.slice ga A.guides.length gc) (.slice na A.nodes.length nc) (.slice (some ⟨rb, 0, none⟩) A.vers.length rc) h d tk).toArray 147)).alloc (.cells #[.int .i64 0, .slice none 0 0, .slice none 0 0, .slice none 0 0, .slice none 0 0, .int .i64 0, .int .i64 0, .int .i64 0, .int .i64 0, .int .i64 0, .int .i64 0, .int .i64 0, .int .i64 0, .int .i64 0, .int .i64 0, .int .i64 0, .int .i64 0, .int .i64 0, .int .i64 0, .int .i64 0, .int .i64 0, .int .i64 0, .int .i64 0, .int .i64 0, .int .i64 0, .int .i64 0, .int .i64 0, .int .i64 0, .int .i64 0, .int .i64 0, .int .i64 0, .int .i64 0, .bool false] 147)) ?_)
 generalize hw0 : (w.alloc (.cells (qze A.camera (.slice sa A.slots.length sc) (.slice ga A.guides.length gc) (.slice na A.nodes.length nc) (.slice (some ⟨rb, 0, none⟩) A.vers.length rc) h d tk).toArray 147)).alloc (.cells #[.int .i64 0, .slice none 0 0, .slice none 0 0, .slice none 0 0, .slice none 0 0, .int .i64 0, .int .i64 0, .int .i64 0, .int .i64 0, .int .i64 0, .int .i64 0, .int .i64 0, .int .i64 0, .int .i64 0, .int .i64 0, .int .i64 0, .int .i64 0, .int .i64 0, .int .i64 0, .int .i64 0, .int .i64 0, .int .i64 0, .int .i64 0, .int .i64 0, .int .i64 0, .int .i64 0, .int .i64 0, .int .i64 0, .int .i64 0, .int .i64 0, .int .i64 0, .int .i64 0, .bool false] 147) = w0 at *
 clear hw0
 show wpList _ _ _ _ _ w0
 have hset : (w0.alloc (.cells #[.int .i64 0, .int .i64 0, .int .i64 0, .int .i64 0, .int .i64 0, .int .i64 0, .int .i64 0, .int .i64 0, .int .i64 0, .int .i64 0, .int .i64 0, .int .i64 0, .int .i64 0, .int .i64 0, .int .i64 0, .int .i64 0, .int .i64 0, .int .i64 0, .int .i64 0, .int .i64 0, .int .i64 0, .int .i64 0] 27)).setCells w0.heap.size 0 (hdC h).toArray.toList = w0.alloc (.cells (hdC h).toArray 27) := qz11 w0 27 (hdC h) [] [.int .i64 0, .int .i64 0, .int .i64 0, .int .i64 0, .int .i64 0, .int .i64 0, .int .i64 0, .int .i64 0, .int .i64 0, .int .i64 0, .int .i64 0, .int .i64 0, .int .i64 0, .int .i64 0, .int .i64 0, .int .i64 0, .int .i64 0, .int .i64 0, .int .i64 0, .int .i64 0, .int .i64 0, .int .i64 0] rfl
 have FA := qzh w0 #[.int .i64 0, .int .i64 0, .int .i64 0, .int .i64 0, .int .i64 0, .int .i64 0, .int .i64 0, .int .i64 0, .int .i64 0, .int .i64 0, .int .i64 0, .int .i64 0, .int .i64 0, .int .i64 0, .int .i64 0, .int .i64 0, .int .i64 0, .int .i64 0, .int .i64 0, .int .i64 0, .int .i64 0, .int .i64 0] 27 22 (by decide)
 have S1 := S0.below ((Below.refl w0.heap.size w0).alloc (Nat.le_refl _) (.cells (hdC h).toArray 27))
 have HB := qzd w0 (hdC h) 27
 have TB := qzh w0 (hdC h).toArray 27 22 (by simp [hdC])
 have hbh := S0.hi
 have hbl : w0.heap.size < (w0.alloc (.cells (hdC h).toArray 27)).heap.size := by simp
 go_upto_region 2 with (first | (refine wpList_load_mid rfl 27 (.tmp 5) rfl w.heap.size 5 ?ax1 (hdC h) _ ?ac1 Try.underlying27 rfl (qz1 h) ?_) | (refine wpList_store_mid rfl 27 (.tmp 3) (.tmp 6) rfl w0.heap.size 0 _ rfl rfl FA (qza h) (qzf h) ?_; rw [hset]))
 try (case ax1 => rfl)
 try (case ac1 => exact (qzw S0.row).2.1)
 generalize hw1 : w0.alloc (.cells (hdC h).toArray 27) = w1 at *
 clear hw1 hset FA S0
 generalize w0.heap.size = bh at *
 have r0 : w1.cell? ⟨bh, 0, none⟩ = some (.int .i64 h.at_) := by simpa using HB 0 _ rfl
 have r11 : w1.cell? ⟨bh, 11, none⟩ = some (.int .i64 h.ver) := by simpa using HB 11 _ rfl
 have x0 := S1.cell 0 rfl
 have x4 := S1.cell 4 rfl
 have q0 := S1.cell 5 rfl
 have q7 := S1.cell 12 rfl
 have q11 := S1.cell 16 rfl
 have q19 := S1.cell 24 rfl
 have q20 := S1.cell 25 rfl
 have f5 := S1.free 5 (by decide)
 have f12 := S1.free 12 (by decide)
 have f16 := S1.free 16 (by decide)
 have f24 := S1.free 24 (by decide)
 have f25 := S1.free 25 (by decide)
 have hnb : ¬ (bh = w.heap.size) := by omega
 have hnb' : ¬ (w.heap.size = bh) := by omega
 rw [hvk] at r11
 have hv0' : (0 : Int) <= (vk : Int) := by omega
 have hv1' : (vk : Int) < (A.vers.length : Int) := by omega
 by_cases e20 : h.at_ = 20
 case pos =>
  have hd : Hid (qz4a A h = (A, { h with least := A.camera, index := 0, out := 0, at_ := 21 })) := by show _ = _; rw [qz4a, if_pos e20]
  rw [e20] at r0
  go_upto_region 29 with fail
  have S2 : Stp base w _ w.heap.size (w.heap.size + 1) (.slice sa A.slots.length sc) (.slice ga A.guides.length gc) (.slice na A.nodes.length nc) (.slice (some ⟨rb, 0, none⟩) A.vers.length rc) (.slice sa A.slots.length sc) (.slice ga A.guides.length gc) (.slice na A.nodes.length nc) (.slice (some ⟨rb, 0, none⟩) A.vers.length rc) A (qze A.camera (.slice sa A.slots.length sc) (.slice ga A.guides.length gc) (.slice na A.nodes.length nc) (.slice (some ⟨rb, 0, none⟩) A.vers.length rc) { h with least := A.camera, index := 0, out := 0, at_ := 21 } d tk) := ((((S1.put 24 (by simp [qze, hdC, ddC]) (.int .i64 A.camera)).put 25 (by simp [qze, hdC, ddC]) (.int .i64 0)).put 12 (by simp [qze, hdC, ddC]) (.int .i64 0)).put 5 (by simp [qze, hdC, ddC]) (.int .i64 21))
  go_wp2_with (first | (refine wpList_load_mid rfl 147 (.tmp 1) rfl w.heap.size 0 ?cx20 (qze A.camera (.slice sa A.slots.length sc) (.slice ga A.guides.length gc) (.slice na A.nodes.length nc) (.slice (some ⟨rb, 0, none⟩) A.vers.length rc) { h with least := A.camera, index := 0, out := 0, at_ := 21 } d tk) _ ?cc20 Try.underlying147 rfl (qz9 _ _ _ _ _ _ _ _) ?_) | (refine wpList_store_mid rfl 147 (.tmp 2) _ rfl (w.heap.size + 1) 0 (qze A.camera (.slice sa A.slots.length sc) (.slice ga A.guides.length gc) (.slice na A.nodes.length nc) (.slice (some ⟨rb, 0, none⟩) A.vers.length rc) { h with least := A.camera, index := 0, out := 0, at_ := 21 } d tk).toArray ?dx20 ?dy20 ?dt20 (qzt _ _ _ _ _ _ _ _) (qz13 _ _ _ _ _ _ _ _ _ _ _ _ _ _ _ _) ?_))
  try (case cx20 => rfl)
  try (case cc20 => exact S2.row)
  try (case dx20 => rfl)
  try (case dy20 => rfl)
  try (case dt20 => exact S2.to)
  refine bodyPost_ret (v := .agg (qze A.camera (.slice sa A.slots.length sc) (.slice ga A.guides.length gc) (.slice na A.nodes.length nc) (.slice (some ⟨rb, 0, none⟩) A.vers.length rc) { h with least := A.camera, index := 0, out := 0, at_ := 21 } d tk).toArray) ?_ rfl ⟨_, _, _, _, by rw [hd.out], by rw [hd.out]; exact S2.fin⟩
  exact qz5 Try.results116 _ _ (w.heap.size + 1) 0 rfl (qze A.camera (.slice sa A.slots.length sc) (.slice ga A.guides.length gc) (.slice na A.nodes.length nc) (.slice (some ⟨rb, 0, none⟩) A.vers.length rc) { h with least := A.camera, index := 0, out := 0, at_ := 21 } d tk) _ (S2.out rfl) Try.underlying147 rfl (qz9 _ _ _ _ _ _ _ _)
 have hvr : vrOf A h.ver = A.vers[vk] := by rw [hvk, qz32 A vk hvl]
 obtain ⟨c3, c3f⟩ := qz33 S1.own.rr (vk * 5 + 3) (.int .i64 A.vers[vk].prev) (by rw [qz1q (sz := 5) (fun _ => rfl) A.vers vk hvl 3 (by omega)]; rfl)
 have hvkH : Hid (h.ver = vk) := hvk
 have hNext5 : ∀ (wq : World), qz25 wq.heap.size wq (.slice sa A.slots.length sc) (.slice ga A.guides.length gc) (.slice na A.nodes.length nc) (.slice (some ⟨rb, 0, none⟩) A.vers.length rc) A -> Calls Try.prog 129 #[.agg #[.int .i64 A.camera, .slice sa A.slots.length sc, .slice ga A.guides.length gc, .slice na A.nodes.length nc, .slice (some ⟨rb, 0, none⟩) A.vers.length rc], .agg (hdC h).toArray] wq fun e w' => e = .returned (.agg (hdC (qz4e A h)).toArray) /\ Below wq.heap.size wq w' := by
  intro wq Iq
  exact qz6o wq.heap.size A h sa ga na (some ⟨rb, 0, none⟩) sc gc nc rc wq (Nat.le_refl _) hA' Iq hx0 hx1
 by_cases e22 : h.at_ = 22
 case pos =>
  rw [e22] at r0
  by_cases hp : A.vers[vk].prev < 0
  case pos =>
   have hd : Hid (qz4a A h = (A, qz4e A h)) := by show _ = _; rw [qz4a, if_neg e20, if_pos e22, hvr, if_pos hp]
   clear hvk
   have z0 := S1.cell 0 rfl; have z1 := S1.cell 1 rfl; have z2 := S1.cell 2 rfl; have z3 := S1.cell 3 rfl; have z4 := S1.cell 4 rfl
   go_upto_region 20 with (first | (refine wpList_load_mid rfl 27 (.tmp 3) rfl bh 0 ?nx5 (hdC h) _ ?nc5 Try.underlying27 rfl (qz1 h) ?_) | (go_at_call 129; refine (hNext5 _ S1.is).mono ?_; rintro e w5q ⟨rfl, b5q⟩; have S2 := S1.below b5q) | (refine wpList_store_mid rfl 27 (.tmp 89) _ rfl w.heap.size 5 (hdC (qz4e A h)).toArray ?bx5 ?by5 ?bt5 (qza _) (qzf _) ?_))
   try (case nx5 => rfl)
   try (case nc5 => exact HB)
   try (case bx5 => rfl)
   try (case by5 => rfl)
   try (case bt5 => have T := qz1c S2.th 5 22 (by omega); rw [Nat.zero_add] at T; exact T)
   have S9 := S2.hand (qz4e A h)
   go_wp2_with (first | (refine wpList_load_mid rfl 147 (.tmp 1) rfl w.heap.size 0 ?cx22 (qze A.camera (.slice sa A.slots.length sc) (.slice ga A.guides.length gc) (.slice na A.nodes.length nc) (.slice (some ⟨rb, 0, none⟩) A.vers.length rc) (qz4e A h) d tk) _ ?cc22 Try.underlying147 rfl (qz9 _ _ _ _ _ _ _ _) ?_) | (refine wpList_store_mid rfl 147 (.tmp 2) _ rfl (w.heap.size + 1) 0 (qze A.camera (.slice sa A.slots.length sc) (.slice ga A.guides.length gc) (.slice na A.nodes.length nc) (.slice (some ⟨rb, 0, none⟩) A.vers.length rc) (qz4e A h) d tk).toArray ?dx22 ?dy22 ?dt22 (qzt _ _ _ _ _ _ _ _) (qz13 _ _ _ _ _ _ _ _ _ _ _ _ _ _ _ _) ?_))
   try (case cx22 => rfl)
   try (case cc22 => exact S9.row)
   try (case dx22 => rfl)
   try (case dy22 => rfl)
   try (case dt22 => exact S9.to)
   refine bodyPost_ret (v := .agg (qze A.camera (.slice sa A.slots.length sc) (.slice ga A.guides.length gc) (.slice na A.nodes.length nc) (.slice (some ⟨rb, 0, none⟩) A.vers.length rc) (qz4e A h) d tk).toArray) ?_ rfl ⟨_, _, _, _, by rw [hd.out], by rw [hd.out]; exact S9.fin⟩
   exact qz5 Try.results116 _ _ (w.heap.size + 1) 0 rfl (qze A.camera (.slice sa A.slots.length sc) (.slice ga A.guides.length gc) (.slice na A.nodes.length nc) (.slice (some ⟨rb, 0, none⟩) A.vers.length rc) (qz4e A h) d tk) _ (S9.out rfl) Try.underlying147 rfl (qz9 _ _ _ _ _ _ _ _)
  obtain ⟨p, hpp⟩ : ∃ p : Nat, A.vers[vk].prev = p := ⟨A.vers[vk].prev.toNat, by omega⟩
  have hpl : p < A.vers.length := by omega
  have hpl' : (p : Int) < (A.vers.length : Int) := by omega
  have hpl0 : (0 : Int) <= (p : Int) := by omega
  have hp3 : ¬ ((p : Int) < 0) := by omega
  have hbk : Hid (qz4a A h = if qz2x A (p : Int) = true /\ A.vers[p].stamp <= h.least then (A, { h with ver := (p : Int), at_ := 23 }) else (A, { h with ver := (p : Int) })) := by show _ = _; rw [qz4a, if_neg e20, if_pos e22, hvr, hpp, if_neg hp3, qz32 A p hpl]
  rw [hpp] at c3
  clear hvk hpp hp hvr hver e22
  go_upto_region 22 with fail
  have S2 : Stp base w _ w.heap.size (w.heap.size + 1) (.slice sa A.slots.length sc) (.slice ga A.guides.length gc) (.slice na A.nodes.length nc) (.slice (some ⟨rb, 0, none⟩) A.vers.length rc) (.slice sa A.slots.length sc) (.slice ga A.guides.length gc) (.slice na A.nodes.length nc) (.slice (some ⟨rb, 0, none⟩) A.vers.length rc) A (qze A.camera (.slice sa A.slots.length sc) (.slice ga A.guides.length gc) (.slice na A.nodes.length nc) (.slice (some ⟨rb, 0, none⟩) A.vers.length rc) { h with ver := (p : Int) } d tk) := (S1.put 16 (by simp [qze, hdC, ddC]) (.int .i64 (p : Int)))
  have HBa := (But.of_only (S := fun q => q = w.heap.size) ((Only.refl w.heap.size w1).setCell (p := ⟨w.heap.size, 16, none⟩) (Or.inl rfl) (.int .i64 (p : Int))) rfl).range HB hbl hnb
  generalize w1.setCell ⟨w.heap.size, 16, none⟩ (.int .i64 (p : Int)) = wa at *
  clear HB TB r0 r11 x0 x4 q0 q7 q11 q19 q20 f5 f12 f16 f24 f25 c3 c3f
  have r19 : wa.cell? ⟨bh, 19, none⟩ = some (.int .i64 h.least) := by simpa using HBa 19 _ rfl
  have a0 := S2.cell 0 rfl
  have a1 := S2.cell 1 rfl
  have a2 := S2.cell 2 rfl
  have a3 := S2.cell 3 rfl
  have a4 := S2.cell 4 rfl
  have s2 := (qz33 S2.own.rr (p * 5 + 2) (.int .i64 A.vers[p].stamp) (by rw [qz1q (sz := 5) (fun _ => rfl) A.vers p hpl 2 (by omega)]; rfl)).1
  cases hst : qz2x A (p : Int)
  case false =>
   have hd : Hid (qz4a A h = (A, { h with ver := (p : Int) })) := by show _ = _; rw [hbk.out, if_neg (by rw [hst]; simp)]
   have y0 : ∀ (dq : Nat) (os : Array Obj), (grow (redrawn wa dq) os).cell? ⟨w.heap.size, 0, none⟩ = some (.int .i64 A.camera) := fun dq os => cell_regrown a0 dq os
   have y1 : ∀ (dq : Nat) (os : Array Obj), (grow (redrawn wa dq) os).cell? ⟨w.heap.size, 1, none⟩ = some (.slice sa A.slots.length sc) := fun dq os => cell_regrown a1 dq os
   have y2 : ∀ (dq : Nat) (os : Array Obj), (grow (redrawn wa dq) os).cell? ⟨w.heap.size, 2, none⟩ = some (.slice ga A.guides.length gc) := fun dq os => cell_regrown a2 dq os
   have y3 : ∀ (dq : Nat) (os : Array Obj), (grow (redrawn wa dq) os).cell? ⟨w.heap.size, 3, none⟩ = some (.slice na A.nodes.length nc) := fun dq os => cell_regrown a3 dq os
   have y4 : ∀ (dq : Nat) (os : Array Obj), (grow (redrawn wa dq) os).cell? ⟨w.heap.size, 4, none⟩ = some (.slice (some ⟨rb, 0, none⟩) A.vers.length rc) := fun dq os => cell_regrown a4 dq os
   have y9 : ∀ (dq : Nat) (os : Array Obj), (grow (redrawn wa dq) os).cell? ⟨bh, 19, none⟩ = some (.int .i64 h.least) := fun dq os => cell_regrown r19 dq os
   have ys : ∀ (dq : Nat) (os : Array Obj), (grow (redrawn wa dq) os).cell? ⟨rb, p * 5 + 2, none⟩ = some (.int .i64 A.vers[p].stamp) := fun dq os => cell_regrown s2 dq os
   have cS : ∀ (dq : Nat) (os : Array Obj), Calls Try.prog 120 #[.agg #[.int .i64 A.camera, .slice sa A.slots.length sc, .slice ga A.guides.length gc, .slice na A.nodes.length nc, .slice (some ⟨rb, 0, none⟩) A.vers.length rc], .int .i64 (p : Int)] (grow (redrawn wa dq) os) fun e w'' => e = .returned (.bool false) /\ ∃ q : Regrown, w'' = grow (redrawn wa q.d) q.os := fun dq os => by
    have hbq := below_regrown wa dq os
    have hcl := qz1s wa.heap.size A (p : Int) sa ga na (some ⟨rb, 0, none⟩) sc gc nc rc (grow (redrawn wa dq) os) hbq.size hA' (S2.is.below hbq)
    rw [hst] at hcl
    exact Calls.regrown_of hcl
   refine wp_region_quiet_below (by kernel_rfl) (by kernel_rfl) ?_
   repeat (go_big_quiet_step (exact cS _ _))
   refine wpQuiet_nil ?_
   intro _ hw'
   obtain ⟨⟨dq, osq⟩, hw''⟩ := hw'
   subst hw''
   have S3 := S2.below (below_regrown wa dq osq)
   generalize grow (redrawn wa dq) osq = wb at *
   clear cS y0 y1 y2 y3 y4 y9 ys
   go_upto_region 29 with fail
   go_wp2_with (first | (refine wpList_load_mid rfl 147 (.tmp 1) rfl w.heap.size 0 ?cx221 (qze A.camera (.slice sa A.slots.length sc) (.slice ga A.guides.length gc) (.slice na A.nodes.length nc) (.slice (some ⟨rb, 0, none⟩) A.vers.length rc) { h with ver := (p : Int) } d tk) _ ?cc221 Try.underlying147 rfl (qz9 _ _ _ _ _ _ _ _) ?_) | (refine wpList_store_mid rfl 147 (.tmp 2) _ rfl (w.heap.size + 1) 0 (qze A.camera (.slice sa A.slots.length sc) (.slice ga A.guides.length gc) (.slice na A.nodes.length nc) (.slice (some ⟨rb, 0, none⟩) A.vers.length rc) { h with ver := (p : Int) } d tk).toArray ?dx221 ?dy221 ?dt221 (qzt _ _ _ _ _ _ _ _) (qz13 _ _ _ _ _ _ _ _ _ _ _ _ _ _ _ _) ?_))
   try (case cx221 => rfl)
   try (case cc221 => exact S3.row)
   try (case dx221 => rfl)
   try (case dy221 => rfl)
   try (case dt221 => exact S3.to)
   refine bodyPost_ret (v := .agg (qze A.camera (.slice sa A.slots.length sc) (.slice ga A.guides.length gc) (.slice na A.nodes.length nc) (.slice (some ⟨rb, 0, none⟩) A.vers.length rc) { h with ver := (p : Int) } d tk).toArray) ?_ rfl ⟨_, _, _, _, by rw [hd.out], by rw [hd.out]; exact S3.fin⟩
   exact qz5 Try.results116 _ _ (w.heap.size + 1) 0 rfl (qze A.camera (.slice sa A.slots.length sc) (.slice ga A.guides.length gc) (.slice na A.nodes.length nc) (.slice (some ⟨rb, 0, none⟩) A.vers.length rc) { h with ver := (p : Int) } d tk) _ (S3.out rfl) Try.underlying147 rfl (qz9 _ _ _ _ _ _ _ _)
  by_cases hle : A.vers[p].stamp <= h.least
  case neg =>
   have hd : Hid (qz4a A h = (A, { h with ver := (p : Int) })) := by show _ = _; rw [hbk.out, if_neg (fun hq => hle hq.2)]
   have y0 : ∀ (dq : Nat) (os : Array Obj), (grow (redrawn wa dq) os).cell? ⟨w.heap.size, 0, none⟩ = some (.int .i64 A.camera) := fun dq os => cell_regrown a0 dq os
   have y1 : ∀ (dq : Nat) (os : Array Obj), (grow (redrawn wa dq) os).cell? ⟨w.heap.size, 1, none⟩ = some (.slice sa A.slots.length sc) := fun dq os => cell_regrown a1 dq os
   have y2 : ∀ (dq : Nat) (os : Array Obj), (grow (redrawn wa dq) os).cell? ⟨w.heap.size, 2, none⟩ = some (.slice ga A.guides.length gc) := fun dq os => cell_regrown a2 dq os
   have y3 : ∀ (dq : Nat) (os : Array Obj), (grow (redrawn wa dq) os).cell? ⟨w.heap.size, 3, none⟩ = some (.slice na A.nodes.length nc) := fun dq os => cell_regrown a3 dq os
   have y4 : ∀ (dq : Nat) (os : Array Obj), (grow (redrawn wa dq) os).cell? ⟨w.heap.size, 4, none⟩ = some (.slice (some ⟨rb, 0, none⟩) A.vers.length rc) := fun dq os => cell_regrown a4 dq os
   have y9 : ∀ (dq : Nat) (os : Array Obj), (grow (redrawn wa dq) os).cell? ⟨bh, 19, none⟩ = some (.int .i64 h.least) := fun dq os => cell_regrown r19 dq os
   have ys : ∀ (dq : Nat) (os : Array Obj), (grow (redrawn wa dq) os).cell? ⟨rb, p * 5 + 2, none⟩ = some (.int .i64 A.vers[p].stamp) := fun dq os => cell_regrown s2 dq os
   have cS : ∀ (dq : Nat) (os : Array Obj), Calls Try.prog 120 #[.agg #[.int .i64 A.camera, .slice sa A.slots.length sc, .slice ga A.guides.length gc, .slice na A.nodes.length nc, .slice (some ⟨rb, 0, none⟩) A.vers.length rc], .int .i64 (p : Int)] (grow (redrawn wa dq) os) fun e w'' => e = .returned (.bool true) /\ ∃ q : Regrown, w'' = grow (redrawn wa q.d) q.os := fun dq os => by
    have hbq := below_regrown wa dq os
    have hcl := qz1s wa.heap.size A (p : Int) sa ga na (some ⟨rb, 0, none⟩) sc gc nc rc (grow (redrawn wa dq) os) hbq.size hA' (S2.is.below hbq)
    rw [hst] at hcl
    exact Calls.regrown_of hcl
   refine wp_region_quiet_below (by kernel_rfl) (by kernel_rfl) ?_
   repeat (go_big_quiet_step (exact cS _ _))
   refine wpQuiet_nil ?_
   intro _ hw'
   obtain ⟨⟨dq, osq⟩, hw''⟩ := hw'
   subst hw''
   have S3 := S2.below (below_regrown wa dq osq)
   generalize grow (redrawn wa dq) osq = wb at *
   clear cS y0 y1 y2 y3 y4 y9 ys
   go_upto_region 29 with fail
   go_wp2_with (first | (refine wpList_load_mid rfl 147 (.tmp 1) rfl w.heap.size 0 ?cx222 (qze A.camera (.slice sa A.slots.length sc) (.slice ga A.guides.length gc) (.slice na A.nodes.length nc) (.slice (some ⟨rb, 0, none⟩) A.vers.length rc) { h with ver := (p : Int) } d tk) _ ?cc222 Try.underlying147 rfl (qz9 _ _ _ _ _ _ _ _) ?_) | (refine wpList_store_mid rfl 147 (.tmp 2) _ rfl (w.heap.size + 1) 0 (qze A.camera (.slice sa A.slots.length sc) (.slice ga A.guides.length gc) (.slice na A.nodes.length nc) (.slice (some ⟨rb, 0, none⟩) A.vers.length rc) { h with ver := (p : Int) } d tk).toArray ?dx222 ?dy222 ?dt222 (qzt _ _ _ _ _ _ _ _) (qz13 _ _ _ _ _ _ _ _ _ _ _ _ _ _ _ _) ?_))
   try (case cx222 => rfl)
   try (case cc222 => exact S3.row)
   try (case dx222 => rfl)
   try (case dy222 => rfl)
   try (case dt222 => exact S3.to)
   refine bodyPost_ret (v := .agg (qze A.camera (.slice sa A.slots.length sc) (.slice ga A.guides.length gc) (.slice na A.nodes.length nc) (.slice (some ⟨rb, 0, none⟩) A.vers.length rc) { h with ver := (p : Int) } d tk).toArray) ?_ rfl ⟨_, _, _, _, by rw [hd.out], by rw [hd.out]; exact S3.fin⟩
   exact qz5 Try.results116 _ _ (w.heap.size + 1) 0 rfl (qze A.camera (.slice sa A.slots.length sc) (.slice ga A.guides.length gc) (.slice na A.nodes.length nc) (.slice (some ⟨rb, 0, none⟩) A.vers.length rc) { h with ver := (p : Int) } d tk) _ (S3.out rfl) Try.underlying147 rfl (qz9 _ _ _ _ _ _ _ _)
  have hd : Hid (qz4a A h = (A, { h with ver := (p : Int), at_ := 23 })) := by show _ = _; rw [hbk.out, if_pos ⟨hst, hle⟩]
  have y0 : ∀ (dq : Nat) (os : Array Obj), (grow (redrawn wa dq) os).cell? ⟨w.heap.size, 0, none⟩ = some (.int .i64 A.camera) := fun dq os => cell_regrown a0 dq os
  have y1 : ∀ (dq : Nat) (os : Array Obj), (grow (redrawn wa dq) os).cell? ⟨w.heap.size, 1, none⟩ = some (.slice sa A.slots.length sc) := fun dq os => cell_regrown a1 dq os
  have y2 : ∀ (dq : Nat) (os : Array Obj), (grow (redrawn wa dq) os).cell? ⟨w.heap.size, 2, none⟩ = some (.slice ga A.guides.length gc) := fun dq os => cell_regrown a2 dq os
  have y3 : ∀ (dq : Nat) (os : Array Obj), (grow (redrawn wa dq) os).cell? ⟨w.heap.size, 3, none⟩ = some (.slice na A.nodes.length nc) := fun dq os => cell_regrown a3 dq os
  have y4 : ∀ (dq : Nat) (os : Array Obj), (grow (redrawn wa dq) os).cell? ⟨w.heap.size, 4, none⟩ = some (.slice (some ⟨rb, 0, none⟩) A.vers.length rc) := fun dq os => cell_regrown a4 dq os
  have y9 : ∀ (dq : Nat) (os : Array Obj), (grow (redrawn wa dq) os).cell? ⟨bh, 19, none⟩ = some (.int .i64 h.least) := fun dq os => cell_regrown r19 dq os
  have ys : ∀ (dq : Nat) (os : Array Obj), (grow (redrawn wa dq) os).cell? ⟨rb, p * 5 + 2, none⟩ = some (.int .i64 A.vers[p].stamp) := fun dq os => cell_regrown s2 dq os
  have cS : ∀ (dq : Nat) (os : Array Obj), Calls Try.prog 120 #[.agg #[.int .i64 A.camera, .slice sa A.slots.length sc, .slice ga A.guides.length gc, .slice na A.nodes.length nc, .slice (some ⟨rb, 0, none⟩) A.vers.length rc], .int .i64 (p : Int)] (grow (redrawn wa dq) os) fun e w'' => e = .returned (.bool true) /\ ∃ q : Regrown, w'' = grow (redrawn wa q.d) q.os := fun dq os => by
   have hbq := below_regrown wa dq os
   have hcl := qz1s wa.heap.size A (p : Int) sa ga na (some ⟨rb, 0, none⟩) sc gc nc rc (grow (redrawn wa dq) os) hbq.size hA' (S2.is.below hbq)
   rw [hst] at hcl
   exact Calls.regrown_of hcl
  refine wp_region_quiet_below (by kernel_rfl) (by kernel_rfl) ?_
  repeat (go_big_quiet_step (exact cS _ _))
  refine wpQuiet_nil ?_
  intro _ hw'
  obtain ⟨⟨dq, osq⟩, hw''⟩ := hw'
  subst hw''
  have S3 := S2.below (below_regrown wa dq osq)
  generalize grow (redrawn wa dq) osq = wb at *
  clear cS y0 y1 y2 y3 y4 y9 ys
  have q0 := S3.cell 5 rfl
  have f5 := S3.free 5 (by decide)
  go_upto_region 29 with fail
  have S4 : Stp base w _ w.heap.size (w.heap.size + 1) (.slice sa A.slots.length sc) (.slice ga A.guides.length gc) (.slice na A.nodes.length nc) (.slice (some ⟨rb, 0, none⟩) A.vers.length rc) (.slice sa A.slots.length sc) (.slice ga A.guides.length gc) (.slice na A.nodes.length nc) (.slice (some ⟨rb, 0, none⟩) A.vers.length rc) A (qze A.camera (.slice sa A.slots.length sc) (.slice ga A.guides.length gc) (.slice na A.nodes.length nc) (.slice (some ⟨rb, 0, none⟩) A.vers.length rc) { h with ver := (p : Int), at_ := 23 } d tk) := (S3.put 5 (by simp [qze, hdC, ddC]) (.int .i64 23))
  go_wp2_with (first | (refine wpList_load_mid rfl 147 (.tmp 1) rfl w.heap.size 0 ?cx223 (qze A.camera (.slice sa A.slots.length sc) (.slice ga A.guides.length gc) (.slice na A.nodes.length nc) (.slice (some ⟨rb, 0, none⟩) A.vers.length rc) { h with ver := (p : Int), at_ := 23 } d tk) _ ?cc223 Try.underlying147 rfl (qz9 _ _ _ _ _ _ _ _) ?_) | (refine wpList_store_mid rfl 147 (.tmp 2) _ rfl (w.heap.size + 1) 0 (qze A.camera (.slice sa A.slots.length sc) (.slice ga A.guides.length gc) (.slice na A.nodes.length nc) (.slice (some ⟨rb, 0, none⟩) A.vers.length rc) { h with ver := (p : Int), at_ := 23 } d tk).toArray ?dx223 ?dy223 ?dt223 (qzt _ _ _ _ _ _ _ _) (qz13 _ _ _ _ _ _ _ _ _ _ _ _ _ _ _ _) ?_))
  try (case cx223 => rfl)
  try (case cc223 => exact S4.row)
  try (case dx223 => rfl)
  try (case dy223 => rfl)
  try (case dt223 => exact S4.to)
  refine bodyPost_ret (v := .agg (qze A.camera (.slice sa A.slots.length sc) (.slice ga A.guides.length gc) (.slice na A.nodes.length nc) (.slice (some ⟨rb, 0, none⟩) A.vers.length rc) { h with ver := (p : Int), at_ := 23 } d tk).toArray) ?_ rfl ⟨_, _, _, _, by rw [hd.out], by rw [hd.out]; exact S4.fin⟩
  exact qz5 Try.results116 _ _ (w.heap.size + 1) 0 rfl (qze A.camera (.slice sa A.slots.length sc) (.slice ga A.guides.length gc) (.slice na A.nodes.length nc) (.slice (some ⟨rb, 0, none⟩) A.vers.length rc) { h with ver := (p : Int), at_ := 23 } d tk) _ (S4.out rfl) Try.underlying147 rfl (qz9 _ _ _ _ _ _ _ _)
 by_cases e23 : h.at_ = 23
 case neg =>
  have hd : Hid (qz4a A h = (A, h)) := by show _ = _; rw [qz4a, if_neg e20, if_neg e22, if_neg e23]
  have e21 : ¬ (h.at_ = 21) := hnot
  go_upto_region 29 with fail
  go_wp2_with (first | (refine wpList_load_mid rfl 147 (.tmp 1) rfl w.heap.size 0 ?cx29 (qze A.camera (.slice sa A.slots.length sc) (.slice ga A.guides.length gc) (.slice na A.nodes.length nc) (.slice (some ⟨rb, 0, none⟩) A.vers.length rc) h d tk) _ ?cc29 Try.underlying147 rfl (qz9 _ _ _ _ _ _ _ _) ?_) | (refine wpList_store_mid rfl 147 (.tmp 2) _ rfl (w.heap.size + 1) 0 (qze A.camera (.slice sa A.slots.length sc) (.slice ga A.guides.length gc) (.slice na A.nodes.length nc) (.slice (some ⟨rb, 0, none⟩) A.vers.length rc) h d tk).toArray ?dx29 ?dy29 ?dt29 (qzt _ _ _ _ _ _ _ _) (qz13 _ _ _ _ _ _ _ _ _ _ _ _ _ _ _ _) ?_))
  try (case cx29 => rfl)
  try (case cc29 => exact S1.row)
  try (case dx29 => rfl)
  try (case dy29 => rfl)
  try (case dt29 => exact S1.to)
  refine bodyPost_ret (v := .agg (qze A.camera (.slice sa A.slots.length sc) (.slice ga A.guides.length gc) (.slice na A.nodes.length nc) (.slice (some ⟨rb, 0, none⟩) A.vers.length rc) h d tk).toArray) ?_ rfl ⟨_, _, _, _, by rw [hd.out], by rw [hd.out]; exact S1.fin⟩
  exact qz5 Try.results116 _ _ (w.heap.size + 1) 0 rfl (qze A.camera (.slice sa A.slots.length sc) (.slice ga A.guides.length gc) (.slice na A.nodes.length nc) (.slice (some ⟨rb, 0, none⟩) A.vers.length rc) h d tk) _ (S1.out rfl) Try.underlying147 rfl (qz9 _ _ _ _ _ _ _ _)
 rw [e23] at r0
 by_cases hp : A.vers[vk].prev < 0
 case pos =>
  have hd : Hid (qz4a A h = (A, qz4e A h)) := by show _ = _; rw [qz4a, if_neg e20, if_neg e22, if_pos e23, hvr, if_pos hp]
  clear hvk
  have z0 := S1.cell 0 rfl; have z1 := S1.cell 1 rfl; have z2 := S1.cell 2 rfl; have z3 := S1.cell 3 rfl; have z4 := S1.cell 4 rfl
  go_upto_region 29 with (first | (refine wpList_load_mid rfl 27 (.tmp 3) rfl bh 0 ?nx5 (hdC h) _ ?nc5 Try.underlying27 rfl (qz1 h) ?_) | (go_at_call 129; refine (hNext5 _ S1.is).mono ?_; rintro e w5q ⟨rfl, b5q⟩; have S2 := S1.below b5q) | (refine wpList_store_mid rfl 27 (.tmp 139) _ rfl w.heap.size 5 (hdC (qz4e A h)).toArray ?bx5 ?by5 ?bt5 (qza _) (qzf _) ?_))
  try (case nx5 => rfl)
  try (case nc5 => exact HB)
  try (case bx5 => rfl)
  try (case by5 => rfl)
  try (case bt5 => have T := qz1c S2.th 5 22 (by omega); rw [Nat.zero_add] at T; exact T)
  have S9 := S2.hand (qz4e A h)
  go_wp2_with (first | (refine wpList_load_mid rfl 147 (.tmp 1) rfl w.heap.size 0 ?cx23 (qze A.camera (.slice sa A.slots.length sc) (.slice ga A.guides.length gc) (.slice na A.nodes.length nc) (.slice (some ⟨rb, 0, none⟩) A.vers.length rc) (qz4e A h) d tk) _ ?cc23 Try.underlying147 rfl (qz9 _ _ _ _ _ _ _ _) ?_) | (refine wpList_store_mid rfl 147 (.tmp 2) _ rfl (w.heap.size + 1) 0 (qze A.camera (.slice sa A.slots.length sc) (.slice ga A.guides.length gc) (.slice na A.nodes.length nc) (.slice (some ⟨rb, 0, none⟩) A.vers.length rc) (qz4e A h) d tk).toArray ?dx23 ?dy23 ?dt23 (qzt _ _ _ _ _ _ _ _) (qz13 _ _ _ _ _ _ _ _ _ _ _ _ _ _ _ _) ?_))
  try (case cx23 => rfl)
  try (case cc23 => exact S9.row)
  try (case dx23 => rfl)
  try (case dy23 => rfl)
  try (case dt23 => exact S9.to)
  refine bodyPost_ret (v := .agg (qze A.camera (.slice sa A.slots.length sc) (.slice ga A.guides.length gc) (.slice na A.nodes.length nc) (.slice (some ⟨rb, 0, none⟩) A.vers.length rc) (qz4e A h) d tk).toArray) ?_ rfl ⟨_, _, _, _, by rw [hd.out], by rw [hd.out]; exact S9.fin⟩
  exact qz5 Try.results116 _ _ (w.heap.size + 1) 0 rfl (qze A.camera (.slice sa A.slots.length sc) (.slice ga A.guides.length gc) (.slice na A.nodes.length nc) (.slice (some ⟨rb, 0, none⟩) A.vers.length rc) (qz4e A h) d tk) _ (S9.out rfl) Try.underlying147 rfl (qz9 _ _ _ _ _ _ _ _)
 obtain ⟨H', hH⟩ : ∃ H' : Hd, Hid (H' = { h with out := min (h.out + 1) 1000000 }) := by exact ⟨_, rfl⟩
 have hd : Hid (qz4a A h = (qz84 A h, qz4e (qz84 A h) H')) := by show _ = _; rw [qz4a, if_neg e20, if_neg e22, if_pos e23, hvr, if_neg hp, hH.out]
 have hsA : qz84 A h = { A with vers := A.vers.set vk { A.vers[vk] with prev := -1 } } := by rw [qz84, hvk, qz32 A vk hvl]; rfl
 have hAs := qza5 A h
 have hl : (qz84 A h).vers.length = A.vers.length := by rw [hsA]; simp
 have S2 := S1.ver (S1.blk rb (Or.inr (Or.inr (Or.inr rfl)))) vk hvl 3 (by omega) { A.vers[vk] with prev := -1 } (.int .i64 (-1)) rfl
 rw [<- hsA] at S2
 have hrn : ¬ (bh = rb) := by omega
 have hrn' : ¬ (rb = bh) := by omega
 have HB2 := (But.of_only (S := fun q => q = rb) ((Only.refl rb w1).setCell (p := ⟨rb, vk * 5 + 3, none⟩) (Or.inl rfl) (.int .i64 (-1))) rfl).range HB hbl hrn
 have TB2 := (But.of_only (S := fun q => q = rb) ((Only.refl rb w1).setCell (p := ⟨rb, vk * 5 + 3, none⟩) (Or.inl rfl) (.int .i64 (-1))) rfl).there TB hbl hrn
 have S3 := S2.elsewhere (c := bh) ((Only.refl bh _).setCell (p := ⟨bh, 7, none⟩) (Or.inl rfl) (.int .i64 (min (h.out + 1) 1000000))) (by omega) (by omega) (by omega) (fun q hq => by have := O.lt q hq; omega)
 have HB3 : ((w1.setCell ⟨rb, vk * 5 + 3, none⟩ (.int .i64 (-1))).setCell ⟨bh, 7, none⟩ (.int .i64 (min (h.out + 1) 1000000))).rangeAt bh 0 (hdC { h with out := min (h.out + 1) 1000000 }) := qzc HB2 7 (by simp [hdC]) _
 rw [<- hH.out] at HB3
 have hHx : H'.x_ = h.x_ := by rw [hH.out]
 have hNext6 : ∀ (wq : World), qz25 wq.heap.size wq (.slice sa A.slots.length sc) (.slice ga A.guides.length gc) (.slice na A.nodes.length nc) (.slice (some ⟨rb, 0, none⟩) A.vers.length rc) (qz84 A h) -> Calls Try.prog 129 #[.agg #[.int .i64 A.camera, .slice sa A.slots.length sc, .slice ga A.guides.length gc, .slice na A.nodes.length nc, .slice (some ⟨rb, 0, none⟩) A.vers.length rc], .agg (hdC H').toArray] wq fun e w' => e = .returned (.agg (hdC (qz4e (qz84 A h) H')).toArray) /\ Below wq.heap.size wq w' := by
  intro wq Iq
  have := qz6o wq.heap.size (qz84 A h) H' sa ga na (some ⟨rb, 0, none⟩) sc gc nc rc wq (Nat.le_refl _) (by rw [hAs]; exact hA') (by rw [hl]; exact Iq) (by rw [hHx]; exact hx0) (by rw [hHx]; exact hx1)
  rw [hl] at this
  exact this
 have r7 : w1.cell? ⟨bh, 7, none⟩ = some (.int .i64 h.out) := by simpa using HB 7 _ rfl
 have r7f : w1.frozen? ⟨bh, 7, none⟩ = false := by simpa using (TB 7 (by decide)).2
 have v1 : -9223372036854775808 <= h.out + 1 := by omega
 have v2 : h.out + 1 <= 9223372036854775807 := by omega
 clear hsA hvk hAs
 generalize qz84 A h = As at *
 go_upto_region 28 with (go_at_call 97; refine (qzr _ _ _).mono ?_; rintro e w' ⟨rfl, hw⟩; obtain rfl := hw.symm)
 generalize (w1.setCell ⟨rb, vk * 5 + 3, none⟩ (.int .i64 (-1))).setCell ⟨bh, 7, none⟩ (.int .i64 (min (h.out + 1) 1000000)) = w3 at *
 clear r0 r11 r7 r7f x0 x4 q0 q7 q11 q19 q20 f5 f12 f16 f24 f25 c3 c3f S1 S2 HB TB HB2 TB2
 have z0 := S3.cell 0 rfl; have z1 := S3.cell 1 rfl; have z2 := S3.cell 2 rfl; have z3 := S3.cell 3 rfl; have z4 := S3.cell 4 rfl
 go_upto_region 29 with (first | (refine wpList_load_mid rfl 27 (.tmp 3) rfl bh 0 ?nx6 (hdC H') _ ?nc6 Try.underlying27 rfl (qz1 H') ?_) | (go_at_call 129; refine (hNext6 _ S3.is).mono ?_; rintro e w6q ⟨rfl, b6q⟩; have S4 := S3.below b6q) | (refine wpList_store_mid rfl 27 (.tmp 139) _ rfl w.heap.size 5 (hdC (qz4e As H')).toArray ?bx6 ?by6 ?bt6 (qza _) (qzf _) ?_))
 try (case nx6 => rfl)
 try (case nc6 => exact HB3)
 try (case bx6 => rfl)
 try (case by6 => rfl)
 try (case bt6 => have T := qz1c S4.th 5 22 (by omega); rw [Nat.zero_add] at T; exact T)
 have S9 := S4.hand (qz4e As H')
 go_wp2_with (first | (refine wpList_load_mid rfl 147 (.tmp 1) rfl w.heap.size 0 ?cx24 (qze A.camera (.slice sa A.slots.length sc) (.slice ga A.guides.length gc) (.slice na A.nodes.length nc) (.slice (some ⟨rb, 0, none⟩) A.vers.length rc) (qz4e As H') d tk) _ ?cc24 Try.underlying147 rfl (qz9 _ _ _ _ _ _ _ _) ?_) | (refine wpList_store_mid rfl 147 (.tmp 2) _ rfl (w.heap.size + 1) 0 (qze A.camera (.slice sa A.slots.length sc) (.slice ga A.guides.length gc) (.slice na A.nodes.length nc) (.slice (some ⟨rb, 0, none⟩) A.vers.length rc) (qz4e As H') d tk).toArray ?dx24 ?dy24 ?dt24 (qzt _ _ _ _ _ _ _ _) (qz13 _ _ _ _ _ _ _ _ _ _ _ _ _ _ _ _) ?_))
 try (case cx24 => rfl)
 try (case cc24 => exact S9.row)
 try (case dx24 => rfl)
 try (case dy24 => rfl)
 try (case dt24 => exact S9.to)
 refine bodyPost_ret (v := .agg (qze A.camera (.slice sa A.slots.length sc) (.slice ga A.guides.length gc) (.slice na A.nodes.length nc) (.slice (some ⟨rb, 0, none⟩) A.vers.length rc) (qz4e As H') d tk).toArray) ?_ rfl ⟨_, _, _, _, by rw [hd.out], by rw [hd.out]; exact S9.fin⟩
 exact qz5 Try.results116 _ _ (w.heap.size + 1) 0 rfl (qze A.camera (.slice sa A.slots.length sc) (.slice ga A.guides.length gc) (.slice na A.nodes.length nc) (.slice (some ⟨rb, 0, none⟩) A.vers.length rc) (qz4e As H') d tk) _ (S9.out rfl) Try.underlying147 rfl (qz9 _ _ _ _ _ _ _ _)
end
section
open Go.ChangeShapes Go.WideShapes Go.ChangeAt Go.RowKit Go.Sort
attribute [local go_sem ↓] Go.wp_at_zero Go.wp_at_succ
def qzau (A : Ar) (h : Hd) : Int := if h.index < (A.slots.length : Int) /\ 0 <= A.slots.getD h.index.toNat 0 then min h.least (A.slots.getD h.index.toNat 0) else h.least
def qz6k (A : Ar) (h : Hd) : Hd :=
 if (A.slots.length : Int) <= min (h.index + 1) 60 then { h with least := qzau A h, index := min (h.index + 1) 60, x_ := 0, then_ := 7, at_ := 2 } else { h with least := qzau A h, index := min (h.index + 1) 60 }
theorem qza2 (base : Nat) (A : Ar) (h : Hd) (d : Dd) (tk : Bool) (s g n r : Value) (w : World) (hbase : base <= w.heap.size) (hA : A.size <= 1048576) (O : qz38 base w s g n r A) (x y z u : Int) (hOk : qz1o x y z u A = true) (hv0 : 0 <= h.ver) (hv1 : h.ver < (A.vers.length : Int)) (hx0 : 0 <= h.x_) (hx1 : h.x_ < (A.nodes.length : Int)) (ho0 : 0 <= h.out) (ho1 : h.out <= 1000000) (e21 : h.at_ = 21) (hi0 : 0 <= h.index) (hi1 : h.index <= 60) :
  Calls Try.prog 116 #[.agg (qze A.camera s g n r h d tk).toArray] w fun e w' => ∃ s' g' n' r', e = .returned (.agg (qze A.camera s' g' n' r' (qz6k A h) d tk).toArray) /\ qz2b base w w' s g n r s' g' n' r' A := by
 have hA' := hA
 unfold Ar.size at hA
 obtain ⟨sa, sc, rfl⟩ := qzk O.rs
 obtain ⟨ga, gc, rfl⟩ := qzk O.rg
 obtain ⟨na, nc, rfl⟩ := qzk O.rn
 obtain ⟨rb, rc, rfl⟩ := qz19 O.rr (by omega)
 have S0 := qz7y base w (.slice sa A.slots.length sc) (.slice ga A.guides.length gc) (.slice na A.nodes.length nc) (.slice (some ⟨rb, 0, none⟩) A.vers.length rc) A (qze A.camera (.slice sa A.slots.length sc) (.slice ga A.guides.length gc) (.slice na A.nodes.length nc) (.slice (some ⟨rb, 0, none⟩) A.vers.length rc) h d tk) [.int .i64 0, .slice none 0 0, .slice none 0 0, .slice none 0 0, .slice none 0 0, .int .i64 0, .int .i64 0, .int .i64 0, .int .i64 0, .int .i64 0, .int .i64 0, .int .i64 0, .int .i64 0, .int .i64 0, .int .i64 0, .int .i64 0, .int .i64 0, .int .i64 0, .int .i64 0, .int .i64 0, .int .i64 0, .int .i64 0, .int .i64 0, .int .i64 0, .int .i64 0, .int .i64 0, .int .i64 0, .int .i64 0, .int .i64 0, .int .i64 0, .int .i64 0, .int .i64 0, .bool false] 147 O rfl rfl
 have hrb := qz2m O.rr (j := rb) rfl
 obtain ⟨vk, hvk⟩ : ∃ k : Nat, h.ver = k := ⟨h.ver.toNat, by omega⟩
 have hvl : vk < A.vers.length := by omega
 have hver := qz4l hOk vk hvl
 go_enter Try.func116, Try.ntmps116
 have tok : True := trivial
 go_wp2_with (clear tok; refine qz2e ((w.alloc (.cells (qze A.camera (.slice sa A.slots.length sc) (.slice ga A.guides.length gc) (.slice na A.nodes.length nc) (.slice (some ⟨rb, 0, none⟩) A.vers.length rc) h d tk).toArray 147)).alloc (.cells #[.int .i64 0, .slice none 0 0, .slice none 0 0, .slice none 0 0, .slice none 0 0, .int .i64 0, .int .i64 0, .int .i64 0, .int .i64 0, .int .i64 0, .int .i64 0, .int .i64 0, .int .i64 0, .int .i64 0, .int .i64 0, .int .i64 0, .int .i64 0, .int .i64 0, .int .i64 0, .int .i64 0, .int .i64 0, .int .i64 0, .int .i64 0, .int .i64 0, .int .i64 0, .int .i64 0, .int .i64 0, .int .i64 0, .int .i64 0, .int .i64 0, .int .i64 0, .int .i64 0, .bool false] 147)) ?_)
 generalize hw0 : (w.alloc (.cells (qze A.camera (.slice sa A.slots.length sc) (.slice ga A.guides.length gc) (.slice na A.nodes.length nc) (.slice (some ⟨rb, 0, none⟩) A.vers.length rc) h d tk).toArray 147)).alloc (.cells #[.int .i64 0, .slice none 0 0, .slice none 0 0, .slice none 0 0, .slice none 0 0, .int .i64 0, .int .i64 0, .int .i64 0, .int .i64 0, .int .i64 0, .int .i64 0, .int .i64 0, .int .i64 0, .int .i64 0, .int .i64 0, .int .i64 0, .int .i64 0, .int .i64 0, .int .i64 0, .int .i64 0, .int .i64 0, .int .i64 0, .int .i64 0, .int .i64 0, .int .i64 0, .int .i64 0, .int .i64 0, .int .i64 0, .int .i64 0, .int .i64 0, .int .i64 0, .int .i64 0, .bool false] 147) = w0 at *
 clear hw0
 show wpList _ _ _ _ _ w0
 have hset : (w0.alloc (.cells #[.int .i64 0, .int .i64 0, .int .i64 0, .int .i64 0, .int .i64 0, .int .i64 0, .int .i64 0, .int .i64 0, .int .i64 0, .int .i64 0, .int .i64 0, .int .i64 0, .int .i64 0, .int .i64 0, .int .i64 0, .int .i64 0, .int .i64 0, .int .i64 0, .int .i64 0, .int .i64 0, .int .i64 0, .int .i64 0] 27)).setCells w0.heap.size 0 (hdC h).toArray.toList = w0.alloc (.cells (hdC h).toArray 27) := qz11 w0 27 (hdC h) [] [.int .i64 0, .int .i64 0, .int .i64 0, .int .i64 0, .int .i64 0, .int .i64 0, .int .i64 0, .int .i64 0, .int .i64 0, .int .i64 0, .int .i64 0, .int .i64 0, .int .i64 0, .int .i64 0, .int .i64 0, .int .i64 0, .int .i64 0, .int .i64 0, .int .i64 0, .int .i64 0, .int .i64 0, .int .i64 0] rfl
 have FA := qzh w0 #[.int .i64 0, .int .i64 0, .int .i64 0, .int .i64 0, .int .i64 0, .int .i64 0, .int .i64 0, .int .i64 0, .int .i64 0, .int .i64 0, .int .i64 0, .int .i64 0, .int .i64 0, .int .i64 0, .int .i64 0, .int .i64 0, .int .i64 0, .int .i64 0, .int .i64 0, .int .i64 0, .int .i64 0, .int .i64 0] 27 22 (by decide)
 have S1 := S0.below ((Below.refl w0.heap.size w0).alloc (Nat.le_refl _) (.cells (hdC h).toArray 27))
 have HB := qzd w0 (hdC h) 27
 have TB := qzh w0 (hdC h).toArray 27 22 (by simp [hdC])
 have hbh := S0.hi
 have hbl : w0.heap.size < (w0.alloc (.cells (hdC h).toArray 27)).heap.size := by simp
 go_upto_region 2 with (first | (refine wpList_load_mid rfl 27 (.tmp 5) rfl w.heap.size 5 ?ax1 (hdC h) _ ?ac1 Try.underlying27 rfl (qz1 h) ?_) | (refine wpList_store_mid rfl 27 (.tmp 3) (.tmp 6) rfl w0.heap.size 0 _ rfl rfl FA (qza h) (qzf h) ?_; rw [hset]))
 try (case ax1 => rfl)
 try (case ac1 => exact (qzw S0.row).2.1)
 generalize hw1 : w0.alloc (.cells (hdC h).toArray 27) = w1 at *
 clear hw1 hset FA S0
 generalize w0.heap.size = bh at *
 have r0 : w1.cell? ⟨bh, 0, none⟩ = some (.int .i64 h.at_) := by simpa using HB 0 _ rfl
 have r19 : w1.cell? ⟨bh, 19, none⟩ = some (.int .i64 h.least) := by simpa using HB 19 _ rfl
 have r20 : w1.cell? ⟨bh, 20, none⟩ = some (.int .i64 h.index) := by simpa using HB 20 _ rfl
 have x1 := S1.cell 1 rfl
 have q0 := S1.cell 5 rfl
 have q1 := S1.cell 6 rfl
 have q10 := S1.cell 15 rfl
 have q19 := S1.cell 24 rfl
 have q20 := S1.cell 25 rfl
 have f5 := S1.free 5 (by decide)
 have f6 := S1.free 6 (by decide)
 have f15 := S1.free 15 (by decide)
 have f24 := S1.free 24 (by decide)
 have f25 := S1.free 25 (by decide)
 have hnb : ¬ (bh = w.heap.size) := by omega
 have hnb' : ¬ (w.heap.size = bh) := by omega
 have hv0' : (0 : Int) <= (vk : Int) := by omega
 have hv1' : (vk : Int) < (A.vers.length : Int) := by omega
 obtain ⟨m, hm⟩ : ∃ m, Hid (min (h.index + 1) 60 = m) := ⟨_, rfl⟩
 obtain ⟨ik, hik⟩ : ∃ k : Nat, h.index = k := ⟨h.index.toNat, by omega⟩
 have hikH : Hid (h.index = ik) := hik
 have v1 : -9223372036854775808 <= h.index + 1 := by omega
 have v2 : h.index + 1 <= 9223372036854775807 := by omega
 rw [e21] at r0
 by_cases hlt : h.index < (A.slots.length : Int)
 case neg =>
  have hln : qzau A h = h.least := by rw [qzau, if_neg (fun hq => hlt hq.1)]
  clear hik
  by_cases hend : (A.slots.length : Int) <= m
  case pos =>
   have hd : Hid (qz6k A h = { h with index := m, x_ := 0, then_ := 7, at_ := 2 }) := by show _ = _; rw [qz6k, hm.out, if_pos hend, hln]
   clear hln e21
   skip
   go_upto_region 12 with (go_at_call 97; refine (qzr _ _ _).mono ?_; rintro e w' ⟨rfl, hw⟩; obtain rfl := hw.symm; first | rw [hm.out] | skip)
   skip
   go_upto_region 29 with fail
   have S8 : Stp base w _ w.heap.size (w.heap.size + 1) (.slice sa A.slots.length sc) (.slice ga A.guides.length gc) (.slice na A.nodes.length nc) (.slice (some ⟨rb, 0, none⟩) A.vers.length rc) (.slice sa A.slots.length sc) (.slice ga A.guides.length gc) (.slice na A.nodes.length nc) (.slice (some ⟨rb, 0, none⟩) A.vers.length rc) A (qze A.camera (.slice sa A.slots.length sc) (.slice ga A.guides.length gc) (.slice na A.nodes.length nc) (.slice (some ⟨rb, 0, none⟩) A.vers.length rc) { h with index := m, x_ := 0, then_ := 7, at_ := 2 } d tk) := ((((S1.put 25 (by simp [qze, hdC, ddC]) (.int .i64 m)).put 15 (by simp [qze, hdC, ddC]) (.int .i64 0)).put 6 (by simp [qze, hdC, ddC]) (.int .i64 7)).put 5 (by simp [qze, hdC, ddC]) (.int .i64 2))
   go_wp2_with (first | (refine wpList_load_mid rfl 147 (.tmp 1) rfl w.heap.size 0 ?cx310 (qze A.camera (.slice sa A.slots.length sc) (.slice ga A.guides.length gc) (.slice na A.nodes.length nc) (.slice (some ⟨rb, 0, none⟩) A.vers.length rc) { h with index := m, x_ := 0, then_ := 7, at_ := 2 } d tk) _ ?cc310 Try.underlying147 rfl (qz9 _ _ _ _ _ _ _ _) ?_) | (refine wpList_store_mid rfl 147 (.tmp 2) _ rfl (w.heap.size + 1) 0 (qze A.camera (.slice sa A.slots.length sc) (.slice ga A.guides.length gc) (.slice na A.nodes.length nc) (.slice (some ⟨rb, 0, none⟩) A.vers.length rc) { h with index := m, x_ := 0, then_ := 7, at_ := 2 } d tk).toArray ?dx310 ?dy310 ?dt310 (qzt _ _ _ _ _ _ _ _) (qz13 _ _ _ _ _ _ _ _ _ _ _ _ _ _ _ _) ?_))
   try (case cx310 => rfl)
   try (case cc310 => exact S8.row)
   try (case dx310 => rfl)
   try (case dy310 => rfl)
   try (case dt310 => exact S8.to)
   refine bodyPost_ret (v := .agg (qze A.camera (.slice sa A.slots.length sc) (.slice ga A.guides.length gc) (.slice na A.nodes.length nc) (.slice (some ⟨rb, 0, none⟩) A.vers.length rc) { h with index := m, x_ := 0, then_ := 7, at_ := 2 } d tk).toArray) ?_ rfl ⟨_, _, _, _, by rw [hd.out], by exact S8.fin⟩
   exact qz5 Try.results116 _ _ (w.heap.size + 1) 0 rfl (qze A.camera (.slice sa A.slots.length sc) (.slice ga A.guides.length gc) (.slice na A.nodes.length nc) (.slice (some ⟨rb, 0, none⟩) A.vers.length rc) { h with index := m, x_ := 0, then_ := 7, at_ := 2 } d tk) _ (S8.out rfl) Try.underlying147 rfl (qz9 _ _ _ _ _ _ _ _)
  case neg =>
   have hd : Hid (qz6k A h = { h with index := m }) := by show _ = _; rw [qz6k, hm.out, if_neg hend, hln]
   clear hln e21
   have hend2 : m < (A.slots.length : Int) := (by omega)
   go_upto_region 12 with (go_at_call 97; refine (qzr _ _ _).mono ?_; rintro e w' ⟨rfl, hw⟩; obtain rfl := hw.symm; first | rw [hm.out] | skip)
   skip
   go_upto_region 29 with fail
   have S8 : Stp base w _ w.heap.size (w.heap.size + 1) (.slice sa A.slots.length sc) (.slice ga A.guides.length gc) (.slice na A.nodes.length nc) (.slice (some ⟨rb, 0, none⟩) A.vers.length rc) (.slice sa A.slots.length sc) (.slice ga A.guides.length gc) (.slice na A.nodes.length nc) (.slice (some ⟨rb, 0, none⟩) A.vers.length rc) A (qze A.camera (.slice sa A.slots.length sc) (.slice ga A.guides.length gc) (.slice na A.nodes.length nc) (.slice (some ⟨rb, 0, none⟩) A.vers.length rc) { h with index := m } d tk) := (S1.put 25 (by simp [qze, hdC, ddC]) (.int .i64 m))
   go_wp2_with (first | (refine wpList_load_mid rfl 147 (.tmp 1) rfl w.heap.size 0 ?cx311 (qze A.camera (.slice sa A.slots.length sc) (.slice ga A.guides.length gc) (.slice na A.nodes.length nc) (.slice (some ⟨rb, 0, none⟩) A.vers.length rc) { h with index := m } d tk) _ ?cc311 Try.underlying147 rfl (qz9 _ _ _ _ _ _ _ _) ?_) | (refine wpList_store_mid rfl 147 (.tmp 2) _ rfl (w.heap.size + 1) 0 (qze A.camera (.slice sa A.slots.length sc) (.slice ga A.guides.length gc) (.slice na A.nodes.length nc) (.slice (some ⟨rb, 0, none⟩) A.vers.length rc) { h with index := m } d tk).toArray ?dx311 ?dy311 ?dt311 (qzt _ _ _ _ _ _ _ _) (qz13 _ _ _ _ _ _ _ _ _ _ _ _ _ _ _ _) ?_))
   try (case cx311 => rfl)
   try (case cc311 => exact S8.row)
   try (case dx311 => rfl)
   try (case dy311 => rfl)
   try (case dt311 => exact S8.to)
   refine bodyPost_ret (v := .agg (qze A.camera (.slice sa A.slots.length sc) (.slice ga A.guides.length gc) (.slice na A.nodes.length nc) (.slice (some ⟨rb, 0, none⟩) A.vers.length rc) { h with index := m } d tk).toArray) ?_ rfl ⟨_, _, _, _, by rw [hd.out], by exact S8.fin⟩
   exact qz5 Try.results116 _ _ (w.heap.size + 1) 0 rfl (qze A.camera (.slice sa A.slots.length sc) (.slice ga A.guides.length gc) (.slice na A.nodes.length nc) (.slice (some ⟨rb, 0, none⟩) A.vers.length rc) { h with index := m } d tk) _ (S8.out rfl) Try.underlying147 rfl (qz9 _ _ _ _ _ _ _ _)
 have hil : ik < A.slots.length := by omega
 have hil' : (ik : Int) < (A.slots.length : Int) := by omega
 have hil0 : (0 : Int) <= (ik : Int) := by omega
 have hsl : A.slots.getD h.index.toNat 0 = A.slots[ik] := by rw [hik]; simp [hil]
 obtain ⟨sb, sc', es⟩ := qz19 S1.own.rs (by omega)
 cases es
 have cs := (qz33 S1.own.rs ik (.int .i64 A.slots[ik]) (by have := qz1q (f := intC) (sz := 1) (fun _ => rfl) A.slots ik hil 0 (by omega); rw [Nat.mul_one, Nat.add_zero] at this; rw [this]; rfl)).1
 have hsb := qz2m O.rs (j := sb) rfl
 rw [hik] at r20
 by_cases hs0 : 0 <= A.slots[ik]
 case neg =>
  have hln : qzau A h = h.least := by rw [qzau, hsl, if_neg (fun hq => hs0 hq.2)]
  have hmk : Hid (min ((ik : Int) + 1) 60 = m) := by show _ = _; rw [<- hik]; exact hm.out
  have v3 : -9223372036854775808 <= (ik : Int) + 1 := by omega
  have v4 : (ik : Int) + 1 <= 9223372036854775807 := by omega
  clear hik hsl hlt
  by_cases hend : (A.slots.length : Int) <= m
  case pos =>
   have hd : Hid (qz6k A h = { h with index := m, x_ := 0, then_ := 7, at_ := 2 }) := by show _ = _; rw [qz6k, hm.out, if_pos hend, hln]
   clear hln e21
   skip
   go_upto_region 12 with (go_at_call 97; refine (qzr _ _ _).mono ?_; rintro e w' ⟨rfl, hw⟩; obtain rfl := hw.symm; first | rw [hmk.out] | skip)
   generalize A.slots[ik] = sv at *; clear hil hil' hil0 hs0 v1 v2 v3 v4 hi0 hi1
   go_upto_region 29 with fail
   have S8 : Stp base w _ w.heap.size (w.heap.size + 1) (.slice (some ⟨sb, 0, none⟩) A.slots.length sc) (.slice ga A.guides.length gc) (.slice na A.nodes.length nc) (.slice (some ⟨rb, 0, none⟩) A.vers.length rc) (.slice (some ⟨sb, 0, none⟩) A.slots.length sc) (.slice ga A.guides.length gc) (.slice na A.nodes.length nc) (.slice (some ⟨rb, 0, none⟩) A.vers.length rc) A (qze A.camera (.slice (some ⟨sb, 0, none⟩) A.slots.length sc) (.slice ga A.guides.length gc) (.slice na A.nodes.length nc) (.slice (some ⟨rb, 0, none⟩) A.vers.length rc) { h with index := m, x_ := 0, then_ := 7, at_ := 2 } d tk) := ((((S1.put 25 (by simp [qze, hdC, ddC]) (.int .i64 m)).put 15 (by simp [qze, hdC, ddC]) (.int .i64 0)).put 6 (by simp [qze, hdC, ddC]) (.int .i64 7)).put 5 (by simp [qze, hdC, ddC]) (.int .i64 2))
   go_wp2_with (first | (refine wpList_load_mid rfl 147 (.tmp 1) rfl w.heap.size 0 ?cx320 (qze A.camera (.slice (some ⟨sb, 0, none⟩) A.slots.length sc) (.slice ga A.guides.length gc) (.slice na A.nodes.length nc) (.slice (some ⟨rb, 0, none⟩) A.vers.length rc) { h with index := m, x_ := 0, then_ := 7, at_ := 2 } d tk) _ ?cc320 Try.underlying147 rfl (qz9 _ _ _ _ _ _ _ _) ?_) | (refine wpList_store_mid rfl 147 (.tmp 2) _ rfl (w.heap.size + 1) 0 (qze A.camera (.slice (some ⟨sb, 0, none⟩) A.slots.length sc) (.slice ga A.guides.length gc) (.slice na A.nodes.length nc) (.slice (some ⟨rb, 0, none⟩) A.vers.length rc) { h with index := m, x_ := 0, then_ := 7, at_ := 2 } d tk).toArray ?dx320 ?dy320 ?dt320 (qzt _ _ _ _ _ _ _ _) (qz13 _ _ _ _ _ _ _ _ _ _ _ _ _ _ _ _) ?_))
   try (case cx320 => rfl)
   try (case cc320 => exact S8.row)
   try (case dx320 => rfl)
   try (case dy320 => rfl)
   try (case dt320 => exact S8.to)
   refine bodyPost_ret (v := .agg (qze A.camera (.slice (some ⟨sb, 0, none⟩) A.slots.length sc) (.slice ga A.guides.length gc) (.slice na A.nodes.length nc) (.slice (some ⟨rb, 0, none⟩) A.vers.length rc) { h with index := m, x_ := 0, then_ := 7, at_ := 2 } d tk).toArray) ?_ rfl ⟨_, _, _, _, by rw [hd.out], by exact S8.fin⟩
   exact qz5 Try.results116 _ _ (w.heap.size + 1) 0 rfl (qze A.camera (.slice (some ⟨sb, 0, none⟩) A.slots.length sc) (.slice ga A.guides.length gc) (.slice na A.nodes.length nc) (.slice (some ⟨rb, 0, none⟩) A.vers.length rc) { h with index := m, x_ := 0, then_ := 7, at_ := 2 } d tk) _ (S8.out rfl) Try.underlying147 rfl (qz9 _ _ _ _ _ _ _ _)
  case neg =>
   have hd : Hid (qz6k A h = { h with index := m }) := by show _ = _; rw [qz6k, hm.out, if_neg hend, hln]
   clear hln e21
   have hend2 : m < (A.slots.length : Int) := (by omega)
   go_upto_region 12 with (go_at_call 97; refine (qzr _ _ _).mono ?_; rintro e w' ⟨rfl, hw⟩; obtain rfl := hw.symm; first | rw [hmk.out] | skip)
   generalize A.slots[ik] = sv at *; clear hil hil' hil0 hs0 v1 v2 v3 v4 hi0 hi1
   go_upto_region 29 with fail
   have S8 : Stp base w _ w.heap.size (w.heap.size + 1) (.slice (some ⟨sb, 0, none⟩) A.slots.length sc) (.slice ga A.guides.length gc) (.slice na A.nodes.length nc) (.slice (some ⟨rb, 0, none⟩) A.vers.length rc) (.slice (some ⟨sb, 0, none⟩) A.slots.length sc) (.slice ga A.guides.length gc) (.slice na A.nodes.length nc) (.slice (some ⟨rb, 0, none⟩) A.vers.length rc) A (qze A.camera (.slice (some ⟨sb, 0, none⟩) A.slots.length sc) (.slice ga A.guides.length gc) (.slice na A.nodes.length nc) (.slice (some ⟨rb, 0, none⟩) A.vers.length rc) { h with index := m } d tk) := (S1.put 25 (by simp [qze, hdC, ddC]) (.int .i64 m))
   go_wp2_with (first | (refine wpList_load_mid rfl 147 (.tmp 1) rfl w.heap.size 0 ?cx321 (qze A.camera (.slice (some ⟨sb, 0, none⟩) A.slots.length sc) (.slice ga A.guides.length gc) (.slice na A.nodes.length nc) (.slice (some ⟨rb, 0, none⟩) A.vers.length rc) { h with index := m } d tk) _ ?cc321 Try.underlying147 rfl (qz9 _ _ _ _ _ _ _ _) ?_) | (refine wpList_store_mid rfl 147 (.tmp 2) _ rfl (w.heap.size + 1) 0 (qze A.camera (.slice (some ⟨sb, 0, none⟩) A.slots.length sc) (.slice ga A.guides.length gc) (.slice na A.nodes.length nc) (.slice (some ⟨rb, 0, none⟩) A.vers.length rc) { h with index := m } d tk).toArray ?dx321 ?dy321 ?dt321 (qzt _ _ _ _ _ _ _ _) (qz13 _ _ _ _ _ _ _ _ _ _ _ _ _ _ _ _) ?_))
   try (case cx321 => rfl)
   try (case cc321 => exact S8.row)
   try (case dx321 => rfl)
   try (case dy321 => rfl)
   try (case dt321 => exact S8.to)
   refine bodyPost_ret (v := .agg (qze A.camera (.slice (some ⟨sb, 0, none⟩) A.slots.length sc) (.slice ga A.guides.length gc) (.slice na A.nodes.length nc) (.slice (some ⟨rb, 0, none⟩) A.vers.length rc) { h with index := m } d tk).toArray) ?_ rfl ⟨_, _, _, _, by rw [hd.out], by exact S8.fin⟩
   exact qz5 Try.results116 _ _ (w.heap.size + 1) 0 rfl (qze A.camera (.slice (some ⟨sb, 0, none⟩) A.slots.length sc) (.slice ga A.guides.length gc) (.slice na A.nodes.length nc) (.slice (some ⟨rb, 0, none⟩) A.vers.length rc) { h with index := m } d tk) _ (S8.out rfl) Try.underlying147 rfl (qz9 _ _ _ _ _ _ _ _)
 obtain ⟨lm, hlm⟩ : ∃ lm, Hid (min h.least A.slots[ik] = lm) := by exact ⟨_, rfl⟩
 have hln : qzau A h = lm := by rw [qzau, hsl, if_pos ⟨hlt, hs0⟩]; exact hlm.out
 have hmk : Hid (min ((ik : Int) + 1) 60 = m) := by show _ = _; rw [<- hik]; exact hm.out
 have v3 : -9223372036854775808 <= (ik : Int) + 1 := by omega
 have v4 : (ik : Int) + 1 <= 9223372036854775807 := by omega
 clear hik hsl hlt
 have hsn : ¬ (w.heap.size = sb) := by omega
 have hsn2 : ¬ (sb = w.heap.size) := by omega
 have hHB2 := (But.of_only (S := fun q => q = w.heap.size) ((Only.refl w.heap.size w1).setCell (p := ⟨w.heap.size, 24, none⟩) (Or.inl rfl) (.int .i64 lm)) rfl).range HB hbl hnb
 have S2 := ((S1.put 24 (by simp [qze, hdC, ddC]) (.int .i64 lm))).below ((Below.refl _ _).drew)
 have kk1 := S2.cell 1 rfl
 go_upto_region 10 with fail
 go_region_held3 (fun w' => w'.cell? ⟨bh, 19, none⟩ = some (.int .i64 h.least) /\ w'.cell? ⟨w.heap.size, 1, none⟩ = some (.slice (some ⟨sb, 0, none⟩) A.slots.length sc) /\ w'.cell? ⟨bh, 20, none⟩ = some (.int .i64 (ik : Int)) /\ w'.cell? ⟨sb, ik, none⟩ = some (.int .i64 A.slots[ik])) (go_keep) (first | (go_at_call 97; refine (qzr _ _ _).mono ?_; rintro e w' ⟨rfl, hw⟩; obtain rfl := hw.symm; rw [hlm.out]))
 have r20q : ((w1.setCell ⟨w.heap.size, 24, none⟩ (.int .i64 lm)).drew).cell? ⟨bh, 20, none⟩ = some (.int .i64 h.index) := by simpa using hHB2 20 _ rfl
 rw [hikH.out] at r20q
 generalize (w1.setCell ⟨w.heap.size, 24, none⟩ (.int .i64 lm)).drew = w2 at *
 clear kk1 r0 r19 r20 x1 q0 q1 q10 q19 q20 f5 f6 f15 f24 f25 cs S1 HB TB hHB2
 have x1 := S2.cell 1 rfl
 have q0 := S2.cell 5 rfl
 have q1 := S2.cell 6 rfl
 have q10 := S2.cell 15 rfl
 have q20 := S2.cell 25 rfl
 have f5 := S2.free 5 (by decide)
 have f6 := S2.free 6 (by decide)
 have f15 := S2.free 15 (by decide)
 have f25 := S2.free 25 (by decide)
 by_cases hend : (A.slots.length : Int) <= m
 case pos =>
  have hd : Hid (qz6k A h = { h with least := lm, index := m, x_ := 0, then_ := 7, at_ := 2 }) := by show _ = _; rw [qz6k, hm.out, if_pos hend, hln]
  clear hln e21
  skip
  go_upto_region 12 with (go_at_call 97; refine (qzr _ _ _).mono ?_; rintro e w' ⟨rfl, hw⟩; obtain rfl := hw.symm; first | rw [hmk.out] | skip)
  generalize A.slots[ik] = sv at *; clear hil hil' hil0 hs0 v1 v2 v3 v4 hi0 hi1
  go_upto_region 29 with fail
  have S8 : Stp base w _ w.heap.size (w.heap.size + 1) (.slice (some ⟨sb, 0, none⟩) A.slots.length sc) (.slice ga A.guides.length gc) (.slice na A.nodes.length nc) (.slice (some ⟨rb, 0, none⟩) A.vers.length rc) (.slice (some ⟨sb, 0, none⟩) A.slots.length sc) (.slice ga A.guides.length gc) (.slice na A.nodes.length nc) (.slice (some ⟨rb, 0, none⟩) A.vers.length rc) A (qze A.camera (.slice (some ⟨sb, 0, none⟩) A.slots.length sc) (.slice ga A.guides.length gc) (.slice na A.nodes.length nc) (.slice (some ⟨rb, 0, none⟩) A.vers.length rc) { h with least := lm, index := m, x_ := 0, then_ := 7, at_ := 2 } d tk) := ((((S2.put 25 (by simp [qze, hdC, ddC]) (.int .i64 m)).put 15 (by simp [qze, hdC, ddC]) (.int .i64 0)).put 6 (by simp [qze, hdC, ddC]) (.int .i64 7)).put 5 (by simp [qze, hdC, ddC]) (.int .i64 2))
  go_wp2_with (first | (refine wpList_load_mid rfl 147 (.tmp 1) rfl w.heap.size 0 ?cx330 (qze A.camera (.slice (some ⟨sb, 0, none⟩) A.slots.length sc) (.slice ga A.guides.length gc) (.slice na A.nodes.length nc) (.slice (some ⟨rb, 0, none⟩) A.vers.length rc) { h with least := lm, index := m, x_ := 0, then_ := 7, at_ := 2 } d tk) _ ?cc330 Try.underlying147 rfl (qz9 _ _ _ _ _ _ _ _) ?_) | (refine wpList_store_mid rfl 147 (.tmp 2) _ rfl (w.heap.size + 1) 0 (qze A.camera (.slice (some ⟨sb, 0, none⟩) A.slots.length sc) (.slice ga A.guides.length gc) (.slice na A.nodes.length nc) (.slice (some ⟨rb, 0, none⟩) A.vers.length rc) { h with least := lm, index := m, x_ := 0, then_ := 7, at_ := 2 } d tk).toArray ?dx330 ?dy330 ?dt330 (qzt _ _ _ _ _ _ _ _) (qz13 _ _ _ _ _ _ _ _ _ _ _ _ _ _ _ _) ?_))
  try (case cx330 => rfl)
  try (case cc330 => exact S8.row)
  try (case dx330 => rfl)
  try (case dy330 => rfl)
  try (case dt330 => exact S8.to)
  refine bodyPost_ret (v := .agg (qze A.camera (.slice (some ⟨sb, 0, none⟩) A.slots.length sc) (.slice ga A.guides.length gc) (.slice na A.nodes.length nc) (.slice (some ⟨rb, 0, none⟩) A.vers.length rc) { h with least := lm, index := m, x_ := 0, then_ := 7, at_ := 2 } d tk).toArray) ?_ rfl ⟨_, _, _, _, by rw [hd.out], by exact S8.fin⟩
  exact qz5 Try.results116 _ _ (w.heap.size + 1) 0 rfl (qze A.camera (.slice (some ⟨sb, 0, none⟩) A.slots.length sc) (.slice ga A.guides.length gc) (.slice na A.nodes.length nc) (.slice (some ⟨rb, 0, none⟩) A.vers.length rc) { h with least := lm, index := m, x_ := 0, then_ := 7, at_ := 2 } d tk) _ (S8.out rfl) Try.underlying147 rfl (qz9 _ _ _ _ _ _ _ _)
 case neg =>
  have hd : Hid (qz6k A h = { h with least := lm, index := m }) := by show _ = _; rw [qz6k, hm.out, if_neg hend, hln]
  clear hln e21
  have hend2 : m < (A.slots.length : Int) := (by omega)
  go_upto_region 12 with (go_at_call 97; refine (qzr _ _ _).mono ?_; rintro e w' ⟨rfl, hw⟩; obtain rfl := hw.symm; first | rw [hmk.out] | skip)
  generalize A.slots[ik] = sv at *; clear hil hil' hil0 hs0 v1 v2 v3 v4 hi0 hi1
  go_upto_region 29 with fail
  have S8 : Stp base w _ w.heap.size (w.heap.size + 1) (.slice (some ⟨sb, 0, none⟩) A.slots.length sc) (.slice ga A.guides.length gc) (.slice na A.nodes.length nc) (.slice (some ⟨rb, 0, none⟩) A.vers.length rc) (.slice (some ⟨sb, 0, none⟩) A.slots.length sc) (.slice ga A.guides.length gc) (.slice na A.nodes.length nc) (.slice (some ⟨rb, 0, none⟩) A.vers.length rc) A (qze A.camera (.slice (some ⟨sb, 0, none⟩) A.slots.length sc) (.slice ga A.guides.length gc) (.slice na A.nodes.length nc) (.slice (some ⟨rb, 0, none⟩) A.vers.length rc) { h with least := lm, index := m } d tk) := (S2.put 25 (by simp [qze, hdC, ddC]) (.int .i64 m))
  go_wp2_with (first | (refine wpList_load_mid rfl 147 (.tmp 1) rfl w.heap.size 0 ?cx331 (qze A.camera (.slice (some ⟨sb, 0, none⟩) A.slots.length sc) (.slice ga A.guides.length gc) (.slice na A.nodes.length nc) (.slice (some ⟨rb, 0, none⟩) A.vers.length rc) { h with least := lm, index := m } d tk) _ ?cc331 Try.underlying147 rfl (qz9 _ _ _ _ _ _ _ _) ?_) | (refine wpList_store_mid rfl 147 (.tmp 2) _ rfl (w.heap.size + 1) 0 (qze A.camera (.slice (some ⟨sb, 0, none⟩) A.slots.length sc) (.slice ga A.guides.length gc) (.slice na A.nodes.length nc) (.slice (some ⟨rb, 0, none⟩) A.vers.length rc) { h with least := lm, index := m } d tk).toArray ?dx331 ?dy331 ?dt331 (qzt _ _ _ _ _ _ _ _) (qz13 _ _ _ _ _ _ _ _ _ _ _ _ _ _ _ _) ?_))
  try (case cx331 => rfl)
  try (case cc331 => exact S8.row)
  try (case dx331 => rfl)
  try (case dy331 => rfl)
  try (case dt331 => exact S8.to)
  refine bodyPost_ret (v := .agg (qze A.camera (.slice (some ⟨sb, 0, none⟩) A.slots.length sc) (.slice ga A.guides.length gc) (.slice na A.nodes.length nc) (.slice (some ⟨rb, 0, none⟩) A.vers.length rc) { h with least := lm, index := m } d tk).toArray) ?_ rfl ⟨_, _, _, _, by rw [hd.out], by exact S8.fin⟩
  exact qz5 Try.results116 _ _ (w.heap.size + 1) 0 rfl (qze A.camera (.slice (some ⟨sb, 0, none⟩) A.slots.length sc) (.slice ga A.guides.length gc) (.slice na A.nodes.length nc) (.slice (some ⟨rb, 0, none⟩) A.vers.length rc) { h with least := lm, index := m } d tk) _ (S8.out rfl) Try.underlying147 rfl (qz9 _ _ _ _ _ _ _ _)
end
end Go.Proofs.Ytclkglkhhnapiaa
