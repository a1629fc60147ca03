/-
  What the law's proof goes by, part 9.
-/
import Derived.Deep.AppendLies
import Derived.Deep.Cut
import Derived.Deep.QuietTactic
import Derived.ScopeJumps
import Derived.WalkMore
import Derived.Test.YtlfjhcdjgoeafaaDoorStartFor00
import Derived.Test.YtlfjhcdjgoeafaaDoorStartFor03
import Derived.Test.YtlfjhcdjgoeafaaDoorStartFor04
import Derived.Test.YtlfjhcdjgoeafaaDoorStartFor06
import Derived.Test.YtlfjhcdjgoeafaaDoorStartFor07
namespace Go.Proofs.YtlfjhcdjgoeafaaDoor
open Go.ChangeShapes Go.WideShapes Go.ChangeAt Go.RowKit
set_option linter.unusedVariables false
set_option linter.unusedSimpArgs false
set_option linter.unnecessarySimpa false
set_option linter.unusedSectionVars false
section
attribute [local go_sem ↓] Go.wp_at_zero Go.wp_at_succ
def turnH (h : Hd) (n : Int) : Hd := { h with at_ := n }
set_option maxRecDepth 100000 in
set_option maxHeartbeats 4000000 in
theorem turnedTo_any (h : Hd) (n : Int) (w : World)  :
  Calls Tryd.prog 87 #[.agg (hdC h).toArray, .int .i64 n] w fun e w' => e = .returned (.agg (hdC (turnH h n)).toArray) ∧ Below w.heap.size w w' := by
 have H0 := World.rangeAt_alloc (rangeAt_new w (hdC h) 70) (.cells #[.int .i64 0, .int .i64 0, .int .i64 0, .int .i64 0, .int .i64 0, .int .i64 0, .int .i64 0, .int .i64 0, .int .i64 0, .int .i64 0, .int .i64 0, .int .i64 0, .int .i64 0, .int .i64 0, .int .i64 0, .int .i64 0, .int .i64 0, .int .i64 0, .int .i64 0, .int .i64 0, .int .i64 0, .int .i64 0] 70)
 have G0 := World.there_alloc (there_new w (hdC h).toArray 70 22 (by simp [hdC])) (.cells #[.int .i64 0, .int .i64 0, .int .i64 0, .int .i64 0, .int .i64 0, .int .i64 0, .int .i64 0, .int .i64 0, .int .i64 0, .int .i64 0, .int .i64 0, .int .i64 0, .int .i64 0, .int .i64 0, .int .i64 0, .int .i64 0, .int .i64 0, .int .i64 0, .int .i64 0, .int .i64 0, .int .i64 0, .int .i64 0] 70)
 have F0 := there_new (w.alloc (.cells (hdC h).toArray 70)) #[.int .i64 0, .int .i64 0, .int .i64 0, .int .i64 0, .int .i64 0, .int .i64 0, .int .i64 0, .int .i64 0, .int .i64 0, .int .i64 0, .int .i64 0, .int .i64 0, .int .i64 0, .int .i64 0, .int .i64 0, .int .i64 0, .int .i64 0, .int .i64 0, .int .i64 0, .int .i64 0, .int .i64 0, .int .i64 0] 70 22 (by decide)
 have K0 := (((Below.refl w.heap.size w).alloc (Nat.le_refl _) (.cells (hdC h).toArray 70)).alloc (by simp) (.cells #[.int .i64 0, .int .i64 0, .int .i64 0, .int .i64 0, .int .i64 0, .int .i64 0, .int .i64 0, .int .i64 0, .int .i64 0, .int .i64 0, .int .i64 0, .int .i64 0, .int .i64 0, .int .i64 0, .int .i64 0, .int .i64 0, .int .i64 0, .int .i64 0, .int .i64 0, .int .i64 0, .int .i64 0, .int .i64 0] 70))
 have hz0 : w.heap.size + 1 < ((w.alloc (.cells (hdC h).toArray 70)).alloc (.cells #[.int .i64 0, .int .i64 0, .int .i64 0, .int .i64 0, .int .i64 0, .int .i64 0, .int .i64 0, .int .i64 0, .int .i64 0, .int .i64 0, .int .i64 0, .int .i64 0, .int .i64 0, .int .i64 0, .int .i64 0, .int .i64 0, .int .i64 0, .int .i64 0, .int .i64 0, .int .i64 0, .int .i64 0, .int .i64 0] 70)).heap.size := by simp
 simp only [World.size_alloc] at F0
 go_enter Tryd.func87, Tryd.ntmps87
 have tok : True := trivial
 go_wp2_with (clear tok; refine stopAt ((w.alloc (.cells (hdC h).toArray 70)).alloc (.cells #[.int .i64 0, .int .i64 0, .int .i64 0, .int .i64 0, .int .i64 0, .int .i64 0, .int .i64 0, .int .i64 0, .int .i64 0, .int .i64 0, .int .i64 0, .int .i64 0, .int .i64 0, .int .i64 0, .int .i64 0, .int .i64 0, .int .i64 0, .int .i64 0, .int .i64 0, .int .i64 0, .int .i64 0, .int .i64 0] 70)) ?_)
 generalize hw0 : (w.alloc (.cells (hdC h).toArray 70)).alloc (.cells #[.int .i64 0, .int .i64 0, .int .i64 0, .int .i64 0, .int .i64 0, .int .i64 0, .int .i64 0, .int .i64 0, .int .i64 0, .int .i64 0, .int .i64 0, .int .i64 0, .int .i64 0, .int .i64 0, .int .i64 0, .int .i64 0, .int .i64 0, .int .i64 0, .int .i64 0, .int .i64 0, .int .i64 0, .int .i64 0] 70) = w0 at *
 clear hw0
 show wpList _ _ _ _ _ w0
 have q0 : w0.cell? ⟨w.heap.size, 0, none⟩ = some (.int .i64 h.at_) := by simpa using H0 0 (.int .i64 h.at_) rfl
 have f0 : w0.frozen? ⟨w.heap.size, 0, none⟩ = false := by simpa using (G0 0 (by decide)).2
 obtain ⟨H', hH⟩ : ∃ H' : Hd, Hid (H' = { h with at_ := n }) := by exact ⟨_, rfl⟩
 have hv : Hid (turnH h n = H') := by show _ = _; rw [hH.out]; rfl
 go_wp2_with (first | (refine wpList_load_mid rfl 70 (.tmp 2) rfl (w.heap.size) 0 ?hxln19 (hdC H') _ ?hcn19 Tryd.underlying70 rfl (sizeHandL H') ?_) | (refine wpList_store_mid rfl 70 (.tmp 4) _ rfl (w.heap.size + 1) 0 (hdC H').toArray ?hxn19 ?hyn19 ?htn19 (sizeHand _) (oneHand _) ?_))
 try (case hxln19 => rfl)
 case hcn19 => rw [hH.out]; exact (rangeAt_set H0 0 (by simp [hdC]) _)
 try (case hxn19 => rfl)
 try (case hyn19 => rfl)
 case htn19 => exact (there_setCell F0 _ _)
 refine bodyPost_ret (v := .agg (hdC H').toArray) ?_ rfl ⟨by rw [hv.out], ?_⟩
 ·exact results_row Tryd.results87 _ _ (w.heap.size + 1) 0 rfl (hdC H') _ (World.rangeAt_setCells_same _ _ _ _ (there_setCell F0 _ _)) Tryd.underlying70 rfl (sizeHandL _)
 ·exact Below.setCells (by omega) _ _ _ (Below.setCell K0 (p := ⟨w.heap.size, 0, none⟩) (by show w.heap.size ≤ w.heap.size; omega) _)
end
section
attribute [local go_sem ↓] Go.wp_at_zero Go.wp_at_succ
def swapOf (z : Int) (A : Ar) (node v next : Int) (gone : Bool) (kind : Int) : Ar × Int :=
 if z ≤ (A.vers.length : Int) then (A, -2)
 else if (ndOf A node).head ≠ v then (A, -1)
 else ({ A with vers := A.vers ++ [⟨next, gone, -1, v, kind⟩], nodes := A.nodes.set node.toNat { ndOf A node with head := (A.vers.length : Int) } }, (A.vers.length : Int))
end
section
def findOf (x y z u : Int) (A : Ar) (h : Hd) : Ar × Hd :=
 if h.at_ = 1 then (A, { h with round := min (h.round + 1) 20000, x_ := startI x y z u A h.key, then_ := 1, at_ := 2 })
 else ((swapOf z A h.pred h.predVer (vrOf A h.currVer).next false 0).1, if (swapOf z A h.pred h.predVer (vrOf A h.currVer).next false 0).2 = -2 then restOf h 5 0 0 else if (swapOf z A h.pred h.predVer (vrOf A h.currVer).next false 0).2 = -1 then { h with at_ := 1 } else { h with ver := (swapOf z A h.pred h.predVer (vrOf A h.currVer).next false 0).2, then_ := 3, at_ := 3 })
end
section
attribute [local go_sem ↓] Go.wp_at_zero Go.wp_at_succ
def begunH (h : Hd) : Hd := { h with round := min (h.round + 1) 20000, x_ := 0, then_ := 1, at_ := 2 }
set_option maxRecDepth 100000 in
set_option maxHeartbeats 4000000 in
theorem begun_any (h : Hd) (w : World) (hr0 : 0 ≤ h.round) (hr1 : h.round ≤ 20000) :
  Calls Tryd.prog 72 #[.agg (hdC h).toArray] w fun e w' => e = .returned (.agg (hdC (begunH h)).toArray) ∧ Below w.heap.size w w' := by
 have H0 := World.rangeAt_alloc (rangeAt_new w (hdC h) 70) (.cells #[.int .i64 0, .int .i64 0, .int .i64 0, .int .i64 0, .int .i64 0, .int .i64 0, .int .i64 0, .int .i64 0, .int .i64 0, .int .i64 0, .int .i64 0, .int .i64 0, .int .i64 0, .int .i64 0, .int .i64 0, .int .i64 0, .int .i64 0, .int .i64 0, .int .i64 0, .int .i64 0, .int .i64 0, .int .i64 0] 70)
 have G0 := World.there_alloc (there_new w (hdC h).toArray 70 22 (by simp [hdC])) (.cells #[.int .i64 0, .int .i64 0, .int .i64 0, .int .i64 0, .int .i64 0, .int .i64 0, .int .i64 0, .int .i64 0, .int .i64 0, .int .i64 0, .int .i64 0, .int .i64 0, .int .i64 0, .int .i64 0, .int .i64 0, .int .i64 0, .int .i64 0, .int .i64 0, .int .i64 0, .int .i64 0, .int .i64 0, .int .i64 0] 70)
 have F0 := there_new (w.alloc (.cells (hdC h).toArray 70)) #[.int .i64 0, .int .i64 0, .int .i64 0, .int .i64 0, .int .i64 0, .int .i64 0, .int .i64 0, .int .i64 0, .int .i64 0, .int .i64 0, .int .i64 0, .int .i64 0, .int .i64 0, .int .i64 0, .int .i64 0, .int .i64 0, .int .i64 0, .int .i64 0, .int .i64 0, .int .i64 0, .int .i64 0, .int .i64 0] 70 22 (by decide)
 have K0 := ((Below.refl w.heap.size w).alloc (Nat.le_refl _) (.cells (hdC h).toArray 70)).alloc (by simp) (.cells #[.int .i64 0, .int .i64 0, .int .i64 0, .int .i64 0, .int .i64 0, .int .i64 0, .int .i64 0, .int .i64 0, .int .i64 0, .int .i64 0, .int .i64 0, .int .i64 0, .int .i64 0, .int .i64 0, .int .i64 0, .int .i64 0, .int .i64 0, .int .i64 0, .int .i64 0, .int .i64 0, .int .i64 0, .int .i64 0] 70)
 have hz0 : w.heap.size + 1 < ((w.alloc (.cells (hdC h).toArray 70)).alloc (.cells #[.int .i64 0, .int .i64 0, .int .i64 0, .int .i64 0, .int .i64 0, .int .i64 0, .int .i64 0, .int .i64 0, .int .i64 0, .int .i64 0, .int .i64 0, .int .i64 0, .int .i64 0, .int .i64 0, .int .i64 0, .int .i64 0, .int .i64 0, .int .i64 0, .int .i64 0, .int .i64 0, .int .i64 0, .int .i64 0] 70)).heap.size := by simp
 simp only [World.size_alloc] at F0
 go_enter Tryd.func72, Tryd.ntmps72
 go_upto_region 1 with fail
 generalize hw0 : (w.alloc (.cells (hdC h).toArray 70)).alloc (.cells #[.int .i64 0, .int .i64 0, .int .i64 0, .int .i64 0, .int .i64 0, .int .i64 0, .int .i64 0, .int .i64 0, .int .i64 0, .int .i64 0, .int .i64 0, .int .i64 0, .int .i64 0, .int .i64 0, .int .i64 0, .int .i64 0, .int .i64 0, .int .i64 0, .int .i64 0, .int .i64 0, .int .i64 0, .int .i64 0] 70) = w0 at *
 clear hw0
 have f21 : w0.frozen? ⟨w.heap.size, 21, none⟩ = false := by simpa using (G0 21 (by omega)).2
 have f10 : w0.frozen? ⟨w.heap.size, 10, none⟩ = false := by simpa using (G0 10 (by omega)).2
 have f1 : w0.frozen? ⟨w.heap.size, 1, none⟩ = false := by simpa using (G0 1 (by omega)).2
 have c21 : w0.cell? ⟨w.heap.size, 21, none⟩ = some (.int .i64 h.round) := by simpa using H0 21 (.int .i64 h.round) rfl
 have c10 : w0.cell? ⟨w.heap.size, 10, none⟩ = some (.int .i64 h.x_) := by simpa using H0 10 (.int .i64 h.x_) rfl
 have c1 : w0.cell? ⟨w.heap.size, 1, none⟩ = some (.int .i64 h.then_) := by simpa using H0 1 (.int .i64 h.then_) rfl
 obtain ⟨u1, hu1⟩ : ∃ u1 : Int, Hid (u1 = min (h.round + 1) 20000) := by exact ⟨_, rfl⟩
 have mn1 : (if (20000 : Int) < h.round + 1 then (20000 : Int) else h.round + 1) = u1 := by rw [hu1.out]; omega
 have wr1 : IntKind.i64.wrap (h.round + 1) = h.round + 1 := IntWalk.i64_in _ (by omega)
 obtain ⟨W1, hW1⟩ : ∃ W1 : World, Hid (W1 = ((w0.setCell ⟨w.heap.size, 21, none⟩ (.int .i64 u1)).setCell ⟨w.heap.size, 10, none⟩ (.int .i64 0)).setCell ⟨w.heap.size, 1, none⟩ (.int .i64 1)) := ⟨_, rfl⟩
 have H2 : W1.rangeAt w.heap.size 0 (hdC { h with round := u1, x_ := 0, then_ := 1 }) := by rw [hW1.out]; exact rangeAt_set (rangeAt_set (rangeAt_set H0 21 (by show _ < 22; omega) (.int .i64 u1)) 10 (by show _ < 22; omega) (.int .i64 0)) 1 (by show _ < 22; omega) (.int .i64 1)
 have F2 : W1.there (w.heap.size + 1) 0 22 := by rw [hW1.out]; exact there_setCell (there_setCell (there_setCell F0 _ _) _ _) _ _
 have K2 : Below w.heap.size w W1 := by rw [hW1.out]; exact Below.setCell (Below.setCell (Below.setCell K0 (p := ⟨w.heap.size, 21, none⟩) (Nat.le_refl _) _) (p := ⟨w.heap.size, 10, none⟩) (Nat.le_refl _) _) (p := ⟨w.heap.size, 1, none⟩) (Nat.le_refl _) _
 have hz2 : w.heap.size + 1 < W1.heap.size := by rw [hW1.out]; simpa using hz0
 have hb : Hid (begunH h = turnH { h with round := u1, x_ := 0, then_ := 1 } 2) := by show _ = _; rw [hu1.out]; rfl
 clear H0 F0 G0 K0 hr0 hr1
 go_upto_region 2 with fail
 rw [← hW1.out]
 clear hW1 f21 f10 f1 c21 c10 c1 mn1 wr1 hu1
 go_wp2_with (refine wpList_load_mid rfl 70 (.tmp 1) rfl w.heap.size 0 ?lx1 (hdC { h with round := u1, x_ := 0, then_ := 1 }) _ ?lc1 Tryd.underlying70 rfl (sizeHandL _) ?_)
 try (case lx1 => rfl)
 try (case lc1 => exact H2)
 refine (turnedTo_any { h with round := u1, x_ := 0, then_ := 1 } 2 _).mono ?_
 rintro e w3 ⟨rfl, b3⟩
 have F3 := there_below F2 b3 (by omega)
 have K3 := K2.trans (b3.mono (by omega))
 go_wp2_with (refine wpList_store_mid rfl 70 (.tmp 2) _ rfl (w.heap.size + 1) 0 (hdC (turnH { h with round := u1, x_ := 0, then_ := 1 } 2)).toArray ?hx3 ?hy3 ?ht3 (sizeHand _) (oneHand _) ?_)
 try (case hx3 => rfl)
 try (case hy3 => rfl)
 case ht3 => exact F3
 refine bodyPost_ret (v := .agg (hdC (turnH { h with round := u1, x_ := 0, then_ := 1 } 2)).toArray) ?_ rfl ⟨by rw [hb.out], Below.setCells (by omega) _ _ _ K3⟩
 exact results_row Tryd.results72 _ _ (w.heap.size + 1) 0 rfl (hdC (turnH { h with round := u1, x_ := 0, then_ := 1 } 2)) _ (World.rangeAt_setCells_same _ _ _ _ F3) Tryd.underlying70 rfl (sizeHandL _)
def startG (A : Ar) (g : Int) (key : Int) : Int := if (ndOf A (A.guides.getD g.toNat 0)).key < key then A.guides.getD g.toNat 0 else 0
set_option maxRecDepth 100000 in
set_option maxHeartbeats 4000000 in
theorem startBy_any (base : Nat) (cb : Nat) (s g n r : Value) (ps qs : List Addr) (A : Ar) (gi key : Int) (w : World) (C : OwnCells base w cb s g n r ps qs A) (hA : A.size ≤ 1048576) (hg0 : 0 ≤ gi) (hg1 : gi < (A.guides.length : Int)) (hgn : ∀ k (h : k < A.guides.length), 0 ≤ A.guides[k] ∧ A.guides[k] < (A.nodes.length : Int)) :
  Calls Tryd.prog 74 #[.pointer (some ⟨cb, 0, none⟩), .int .i64 gi, .int .i64 key] w fun e w' => e = .returned (.int .i64 (startG A gi key)) ∧ w' = w := by
 unfold Ar.size at hA
 obtain ⟨gk, rfl⟩ : ∃ k : Nat, gi = k := ⟨gi.toNat, by omega⟩
 have hgl : gk < A.guides.length := by omega
 obtain ⟨g0, g1⟩ := hgn gk hgl
 obtain ⟨nk, hnk⟩ : ∃ k : Nat, A.guides[gk] = k := ⟨(A.guides[gk]).toNat, by omega⟩
 have hnl : nk < A.nodes.length := by omega
 obtain ⟨ga, gc, rfl⟩ := own_is C.sg
 obtain ⟨gb, rfl, -, -, -, RG⟩ := row_blk C.sg (by omega)
 obtain ⟨na, nc, rfl⟩ := own_is C.sn
 obtain ⟨nb, rfl, -, -, -, RN⟩ := row_blk C.sn (by omega)
 obtain ⟨vb, vo, vm, p1, -, p3, -, p5⟩ := C.np.at' nk hnl
 have hpc : w.cell? ⟨nb, nk, none⟩ = some (.pointer (some ⟨vb, vo, none⟩)) := by
  have hkp : nk < ps.length := by rw [C.np.len]; exact hnl
  have h1 := (rangeAt_elem (sz := 1) (f := ptrC) (fun _ => rfl) RN nk hkp) 0 (.pointer (some ps[nk])) rfl
  rw [List.getElem?_eq_getElem hkp] at p1
  rw [Option.some.inj p1] at h1
  simpa using h1
 have hgc : w.cell? ⟨gb, gk, none⟩ = some (.int .i64 (nk : Int)) := by
  have h1 := (rangeAt_elem (sz := 1) (f := intC) (fun _ => rfl) RG gk hgl) 0 (.int .i64 A.guides[gk]) rfl
  rw [hnk] at h1
  simpa using h1
 have hkc : w.cell? ⟨vb, vo, none⟩ = some (.int .i64 A.nodes[nk].key) := p5 0 _ rfl
 obtain ⟨x0, x1, x2, x3, x4⟩ := row5 C.row
 have hs : Hid (startG A (gk : Int) key = if A.nodes[nk].key < key then (nk : Int) else 0) := by
  show _ = _
  have e1 : A.guides.getD ((gk : Int)).toNat 0 = (nk : Int) := by simp [List.getD, hgl, hnk]
  rw [startG, e1, ndOf_nat A nk hnl]
 have i0 : (0 : Int) ≤ (gk : Int) := by omega
 have i1 : (gk : Int) < (A.guides.length : Int) := by omega
 have j0 : (0 : Int) ≤ (nk : Int) := by omega
 have j1 : (nk : Int) < (A.nodes.length : Int) := by omega
 clear RG RN p1 p3 p5 hnk g0 g1 hgn C
 by_cases hlt : A.nodes[nk].key < key
 ·have hd : decide (A.nodes[nk].key < key) = true := by simp [hlt]
  have hltH : Hid (A.nodes[nk].key < key) := hlt
  go_enter Tryd.func74, Tryd.ntmps74
  go_wp2
  go_ret
  exact ⟨by rw [hs.out, if_pos hltH.out]; rfl, rfl⟩
 ·have hd : decide (A.nodes[nk].key < key) = false := by simp [hlt]
  have hltH : Hid (¬ A.nodes[nk].key < key) := hlt
  go_enter Tryd.func74, Tryd.ntmps74
  go_wp2
  go_ret
  exact ⟨by rw [hs.out, if_neg (by have := hltH.out; omega)]; rfl, rfl⟩
end
section
attribute [local go_sem ↓] Go.wp_at_zero Go.wp_at_succ
theorem guideI_ge (x y z u k : Int) : -1 ≤ guideI x y z u k := by
 unfold guideI
 split
 ·rename_i hh
  simp only [Bool.and_eq_true] at hh
  have hp := (planB_iff x y z u).1 hh.1
  have hk := (inB_iff _ _ _).1 hh.2
  have : 0 ≤ k * u / 64 := Int.ediv_nonneg (Int.mul_nonneg (by omega) (by omega)) (by omega)
  omega
 ·omega
theorem startI_guide (x y z u : Int) (A : Ar) (key : Int) (h : 0 ≤ guideI x y z u key) : startI x y z u A key = startG A (guideI x y z u key) key := by
 unfold startI startG
 by_cases h2 : (ndOf A (A.guides.getD (guideI x y z u key).toNat 0)).key < key
 ·rw [if_pos ⟨h, h2⟩, if_pos h2]
 ·rw [if_neg (fun c => h2 c.2), if_neg h2]
theorem startI_none (x y z u : Int) (A : Ar) (key : Int) (h : guideI x y z u key = -1) : startI x y z u A key = 0 := by
 unfold startI
 rw [if_neg (by omega)]
def beginG (b0 b1 : Nat) (x y z u : Int) (h : Hd) : Nat → Value → World → Prop
 | 0, v, _ => v = .agg (hdC h).toArray
 | 1, v, _ => v = .agg (hdC (begunH h)).toArray
 | 2, v, _ => v = .agg #[.int .i64 x, .int .i64 y, .int .i64 z, .int .i64 u]
 | 3, v, _ => v = .pointer (some ⟨b1, 3, none⟩)
 | 4, v, _ => v = .int .i64 h.key
 | 5, v, _ => v = .int .i64 (guideI x y z u h.key)
 | _, _, _ => True
theorem beginG_kept {b0 b1 : Nat} {x y z u : Int} {h : Hd} (i : Nat) (v : Value) (w w' : World) (hq : beginG b0 b1 x y z u h i v w) (hb : Below w.heap.size w w') : beginG b0 b1 x y z u h i v w' := by
 match i, hq with
 | 0, h | 1, h | 2, h | 3, h | 4, h | 5, h => exact h
 | n + 6, h => exact trivial
set_option maxRecDepth 100000 in
set_option maxHeartbeats 4000000 in
theorem find_begin (base : Nat) (cb : Nat) (s g n r : Value) (ps qs : List Addr) (A : Ar) (h : Hd) (x y z u : Int) (eN eF eU : Addr) (w : World) (hbase : base ≤ w.heap.size) (hA : A.size ≤ 1048576) (C : OwnCells base w cb s g n r ps qs A) (ha : h.at_ = 1) (hr0 : 0 ≤ h.round) (hr1 : h.round ≤ 20000) (hOk : arenaB x y z u A = true) :
  Calls Tryd.prog 43 #[.pointer (some ⟨cb, 0, none⟩), .agg #[.int .i64 x, .int .i64 y, .int .i64 z, .int .i64 u], .agg (hdC h).toArray] w fun e w' => e = .returned (.agg (hdC (findOf x y z u A h).2).toArray) ∧ Below w.heap.size w w' := by
 have hfo : Hid ((findOf x y z u A h).2 = { begunH h with x_ := startI x y z u A h.key }) := by show _ = _; rw [findOf, if_pos ha]; rfl
 have P0 := World.rangeAt_alloc (World.rangeAt_alloc (rangeAt_new w [.int .i64 x, .int .i64 y, .int .i64 z, .int .i64 u] 36) (.cells (hdC h).toArray 70)) (.cells #[.int .i64 0, .int .i64 0, .int .i64 0, .int .i64 0, .int .i64 0, .int .i64 0, .int .i64 0, .int .i64 0, .int .i64 0, .int .i64 0, .int .i64 0, .int .i64 0, .int .i64 0, .int .i64 0, .int .i64 0, .int .i64 0, .int .i64 0, .int .i64 0, .int .i64 0, .int .i64 0, .int .i64 0, .int .i64 0] 70)
 have H0 := World.rangeAt_alloc (rangeAt_new (w.alloc (.cells #[.int .i64 x, .int .i64 y, .int .i64 z, .int .i64 u] 36)) (hdC h) 70) (.cells #[.int .i64 0, .int .i64 0, .int .i64 0, .int .i64 0, .int .i64 0, .int .i64 0, .int .i64 0, .int .i64 0, .int .i64 0, .int .i64 0, .int .i64 0, .int .i64 0, .int .i64 0, .int .i64 0, .int .i64 0, .int .i64 0, .int .i64 0, .int .i64 0, .int .i64 0, .int .i64 0, .int .i64 0, .int .i64 0] 70)
 have G0 := World.there_alloc (there_new (w.alloc (.cells #[.int .i64 x, .int .i64 y, .int .i64 z, .int .i64 u] 36)) (hdC h).toArray 70 22 (by simp [hdC])) (.cells #[.int .i64 0, .int .i64 0, .int .i64 0, .int .i64 0, .int .i64 0, .int .i64 0, .int .i64 0, .int .i64 0, .int .i64 0, .int .i64 0, .int .i64 0, .int .i64 0, .int .i64 0, .int .i64 0, .int .i64 0, .int .i64 0, .int .i64 0, .int .i64 0, .int .i64 0, .int .i64 0, .int .i64 0, .int .i64 0] 70)
 have F0 := there_new ((w.alloc (.cells #[.int .i64 x, .int .i64 y, .int .i64 z, .int .i64 u] 36)).alloc (.cells (hdC h).toArray 70)) #[.int .i64 0, .int .i64 0, .int .i64 0, .int .i64 0, .int .i64 0, .int .i64 0, .int .i64 0, .int .i64 0, .int .i64 0, .int .i64 0, .int .i64 0, .int .i64 0, .int .i64 0, .int .i64 0, .int .i64 0, .int .i64 0, .int .i64 0, .int .i64 0, .int .i64 0, .int .i64 0, .int .i64 0, .int .i64 0] 70 22 (by decide)
 have K0 := (((Below.refl w.heap.size w).alloc (Nat.le_refl _) (.cells #[.int .i64 x, .int .i64 y, .int .i64 z, .int .i64 u] 36)).alloc (by simp) (.cells (hdC h).toArray 70)).alloc (by simp; omega) (.cells #[.int .i64 0, .int .i64 0, .int .i64 0, .int .i64 0, .int .i64 0, .int .i64 0, .int .i64 0, .int .i64 0, .int .i64 0, .int .i64 0, .int .i64 0, .int .i64 0, .int .i64 0, .int .i64 0, .int .i64 0, .int .i64 0, .int .i64 0, .int .i64 0, .int .i64 0, .int .i64 0, .int .i64 0, .int .i64 0] 70)
 have hz0 : w.heap.size + 1 + 1 < (((w.alloc (.cells #[.int .i64 x, .int .i64 y, .int .i64 z, .int .i64 u] 36)).alloc (.cells (hdC h).toArray 70)).alloc (.cells #[.int .i64 0, .int .i64 0, .int .i64 0, .int .i64 0, .int .i64 0, .int .i64 0, .int .i64 0, .int .i64 0, .int .i64 0, .int .i64 0, .int .i64 0, .int .i64 0, .int .i64 0, .int .i64 0, .int .i64 0, .int .i64 0, .int .i64 0, .int .i64 0, .int .i64 0, .int .i64 0, .int .i64 0, .int .i64 0] 70)).heap.size := by simp
 simp only [World.size_alloc] at H0 G0 F0
 have C0 := C.grown K0
 go_enter Tryd.func43, Tryd.ntmps43
 go_upto_region 1 with fail
 generalize hw0 : ((w.alloc (.cells #[.int .i64 x, .int .i64 y, .int .i64 z, .int .i64 u] 36)).alloc (.cells (hdC h).toArray 70)).alloc (.cells #[.int .i64 0, .int .i64 0, .int .i64 0, .int .i64 0, .int .i64 0, .int .i64 0, .int .i64 0, .int .i64 0, .int .i64 0, .int .i64 0, .int .i64 0, .int .i64 0, .int .i64 0, .int .i64 0, .int .i64 0, .int .i64 0, .int .i64 0, .int .i64 0, .int .i64 0, .int .i64 0, .int .i64 0, .int .i64 0] 70) = w0 at *
 clear hw0
 have q0 : w0.cell? ⟨w.heap.size + 1, 0, none⟩ = some (.int .i64 1) := by rw [← ha]; simpa using H0 0 (.int .i64 h.at_) rfl
 obtain ⟨y0, y1, y2, y3⟩ : w0.cell? ⟨w.heap.size, 0, none⟩ = some (.int .i64 x) ∧ w0.cell? ⟨w.heap.size, 1, none⟩ = some (.int .i64 y) ∧ w0.cell? ⟨w.heap.size, 2, none⟩ = some (.int .i64 z) ∧ w0.cell? ⟨w.heap.size, 3, none⟩ = some (.int .i64 u) := ⟨by simpa using P0 0 _ rfl, by simpa using P0 1 _ rfl, by simpa using P0 2 _ rfl, by simpa using P0 3 _ rfl⟩
 go_wp2_with fail
 refine wp_scope_jumps 0 (fun a' w' => w'.rangeAt (w.heap.size + 1) 0 (hdC (begunH h)) ∧ w'.there (w.heap.size + 1) 0 22 ∧ w'.there (w.heap.size + 1 + 1) 0 22 ∧ OwnCells base w' cb s g n r ps qs A ∧ Below w.heap.size w w' ∧ w.heap.size + 1 + 1 < w'.heap.size ∧ ∃ (u8 u9 u10 u11 u12 u13 u14 u15 u16 u17 u18 u19 u20 u21 u22 u23 u24 u25 u26 u27 u28 u29 u30 u31 u32 u33 u34 u35 : Value), a' = { tmps := #[.pointer (some ⟨cb, 0, none⟩), .agg #[.int .i64 x, .int .i64 y, .int .i64 z, .int .i64 u], .agg (hdC h).toArray, undef, .pointer (some ⟨w.heap.size, 0, none⟩), .pointer (some ⟨w.heap.size + 1, 0, none⟩), .pointer (some ⟨w.heap.size + 1 + 1, 0, none⟩), .int .i64 (guideI x y z u h.key), u8, u9, u10, u11, u12, u13, u14, u15, u16, u17, u18, u19, u20, u21, u22, u23, u24, u25, u26, u27, u28, u29, u30, u31, u32, u33, u34, u35], defers := [] }) (fun _ _ => 0) rfl ?first ?pass
 case first =>
  go_wp2_with fail
  go_step3
  go_wp2_with fail
  refine any_order_tail 6 (by kernel_rfl) (beginG w.heap.size (w.heap.size + 1) x y z u h) (fun _ => false) (by kernel_rfl) (by kernel_rfl) (by kernel_rfl) (by kernel_rfl) (by rfl) (fun i v w w' _ h hb => beginG_kept i v w w' h hb) (fun i v w q hf h hq => by cases hf) ?step ?final
  case step =>
   intro i o hik ho a V hb hnn hd K hK
   have HV := rangeAt_below H0 hb (by omega)
   have PV := rangeAt_below P0 hb (by omega)
   have q3 : V.cell? ⟨w.heap.size + 1, 3, none⟩ = some (.int .i64 h.key) := by simpa using HV 3 (.int .i64 h.key) rfl
   have hp0 : V.cell? ⟨w.heap.size, 0, none⟩ = some (.int .i64 x) := by simpa using PV 0 _ rfl
   have hp1 : V.cell? ⟨w.heap.size, 1, none⟩ = some (.int .i64 y) := by simpa using PV 1 _ rfl
   have hp2 : V.cell? ⟨w.heap.size, 2, none⟩ = some (.int .i64 z) := by simpa using PV 2 _ rfl
   have hp3 : V.cell? ⟨w.heap.size, 3, none⟩ = some (.int .i64 u) := by simpa using PV 3 _ rfl
   clear q0 y0 y1 y2 y3 P0 H0 G0 F0 C0 K0 C
   match i, ho with
   | 0, ho =>
    obtain rfl := Option.some.inj ho
    exact step_load 70 (.tmp 5) rfl (w.heap.size + 1) 0 (hnn 5 rfl) (hdC h) _ HV Tryd.underlying70 rfl (sizeHandL h) (hK _ _ rfl (Below.refl _ _) (fun h => by cases h))
   | 1, ho =>
    obtain rfl := Option.some.inj ho
    have e1 : a.eval (.tmp 20) = .agg (hdC h).toArray := hd ⟨0, .data⟩ (by simp) rfl 20 rfl
    have ef : a.eval (.func 72) = .func (.func 72) #[] #[] := rfl
    refine step_call (f := 72) (args := #[.agg (hdC h).toArray]) (R := fun v w' => v = .agg (hdC (begunH h)).toArray ∧ Below V.heap.size V w') ?_ ((begun_any h V hr0 hr1).mono (fun e w' h => ⟨_, h.1, rfl, h.2⟩)) (fun v w' h => hK v w' h.1 h.2 (fun h => by cases h))
    clear HV PV q3 hp0 hp1 hp2 hp3
    generalize a.eval = ev at *
    go_simp
   | 2, ho =>
    obtain rfl := Option.some.inj ho
    have e1 : a.eval (.tmp 4) = .pointer (some ⟨w.heap.size, 0, none⟩) := hnn 4 rfl
    refine step_value (v := .agg #[.int .i64 x, .int .i64 y, .int .i64 z, .int .i64 u]) (w' := V) ?_ (hK _ _ rfl (Below.refl _ _) (fun h => by cases h))
    clear HV PV q3
    generalize a.eval = ev at *
    go_simp
   | 3, ho =>
    obtain rfl := Option.some.inj ho
    have e1 : a.eval (.tmp 5) = .pointer (some ⟨w.heap.size + 1, 0, none⟩) := hnn 5 rfl
    refine step_value (v := .pointer (some ⟨w.heap.size + 1, 3, none⟩)) (w' := V) ?_ (hK _ _ rfl (Below.refl _ _) (fun h => by cases h))
    clear HV PV q3 hp0 hp1 hp2 hp3
    generalize a.eval = ev at *
    go_simp
   | 4, ho =>
    obtain rfl := Option.some.inj ho
    have e1 : a.eval (.tmp 23) = .pointer (some ⟨w.heap.size + 1, 3, none⟩) := hd ⟨3, .data⟩ (by simp) rfl 23 rfl
    refine step_value (v := .int .i64 h.key) (w' := V) ?_ (hK _ _ rfl (Below.refl _ _) (fun h => by cases h))
    clear HV PV hp0 hp1 hp2 hp3
    generalize a.eval = ev at *
    go_simp
   | 5, ho =>
    obtain rfl := Option.some.inj ho
    have e1 : a.eval (.tmp 22) = .agg #[.int .i64 x, .int .i64 y, .int .i64 z, .int .i64 u] := hd ⟨2, .data⟩ (by simp) rfl 22 rfl
    have e2 : a.eval (.tmp 24) = .int .i64 h.key := hd ⟨4, .data⟩ (by simp) rfl 24 rfl
    have ef : a.eval (.func 73) = .func (.func 73) #[] #[] := rfl
    refine step_call (f := 73) (args := #[.agg #[.int .i64 x, .int .i64 y, .int .i64 z, .int .i64 u], .int .i64 h.key]) (R := fun v w' => v = .int .i64 (guideI x y z u h.key) ∧ Below V.heap.size V w') ?_ ((guideOf_any x y z u h.key V).mono (fun e w' h => ⟨_, h.1, rfl, h.2⟩)) (fun v w' h => hK v w' h.1 h.2 (fun h => by cases h))
    clear HV PV q3 hp0 hp1 hp2 hp3
    generalize a.eval = ev at *
    go_simp
   | n + 6, ho => omega
  case final =>
   intro vs V hb hG _
   have g1 : vs 1 = .agg (hdC (begunH h)).toArray := hG 1 (by decide)
   have g5 : vs 5 = .int .i64 (guideI x y z u h.key) := hG 5 (by decide)
   have G1 := there_below G0 hb (by omega)
   have F1 := there_below F0 hb (by omega)
   have C1 := C0.grown hb
   have K1 := K0.trans (hb.mono (by omega))
   have hs1 := hb.size
   generalize hl : laid _ vs _ _ _ = A'
   have hA'' : A' = { tmps := #[.pointer (some ⟨cb, 0, none⟩), .agg #[.int .i64 x, .int .i64 y, .int .i64 z, .int .i64 u], .agg (hdC h).toArray, undef, .pointer (some ⟨w.heap.size, 0, none⟩), .pointer (some ⟨w.heap.size + 1, 0, none⟩), .pointer (some ⟨w.heap.size + 1 + 1, 0, none⟩), .int .i64 (-1), .bool false, .pointer (some ⟨w.heap.size + 1, 0, none⟩), .int .i64 1, .bool false, undef, undef, undef, undef, .bool true, .pointer (some ⟨w.heap.size + 1, 0, none⟩), .int .i64 1, .bool true, vs 0, vs 1, vs 2, vs 3, vs 4, vs 5, undef, undef, undef, undef, undef, undef, undef, undef, undef, undef], defers := [] } := by
    rw [← hl]
    kernel_rfl
   subst hA''
   rw [g1, g5]
   clear hl hG g1 g5 hb
   simp only [List.drop_succ_cons, List.drop_zero]
   refine wpList_store_mid rfl 70 (.tmp 5) (.tmp 21) rfl (w.heap.size + 1) 0 (hdC (begunH h)).toArray rfl rfl G1 (sizeHand _) (oneHand _) ?_
   show wpList _ _ _ _ _ (V.setCells (w.heap.size + 1) 0 (hdC (begunH h)))
   have R2 : (V.setCells (w.heap.size + 1) 0 (hdC (begunH h))).rangeAt (w.heap.size + 1) 0 (hdC (begunH h)) := World.rangeAt_setCells_same _ _ _ _ G1
   have G2 : (V.setCells (w.heap.size + 1) 0 (hdC (begunH h))).there (w.heap.size + 1) 0 22 := World.there_setCells G1 _ _ _
   have F2 : (V.setCells (w.heap.size + 1) 0 (hdC (begunH h))).there (w.heap.size + 1 + 1) 0 22 := World.there_setCells F1 _ _ _
   have K2 : Below w.heap.size w (V.setCells (w.heap.size + 1) 0 (hdC (begunH h))) := Below.setCells (by omega) _ _ _ K1
   have C2 : OwnCells base (V.setCells (w.heap.size + 1) 0 (hdC (begunH h))) cb s g n r ps qs A := C.grown K2
   have hz2 : w.heap.size + 1 + 1 < (V.setCells (w.heap.size + 1) 0 (hdC (begunH h))).heap.size := by rw [setCells_size]; omega
   clear G1 F1 C1 K1 H0 P0 G0 F0 K0 C0 q0 y0 y1 y2 y3
   go_wp2_with fail
   go_step3
   exact ⟨rfl, R2, G2, F2, C2, K2, hz2, _, _, _, _, _, _, _, _, _, _, _, _, _, _, _, _, _, _, _, _, _, _, _, _, _, _, _, _, rfl⟩
 case pass =>
  rintro a' w' ⟨R2, G2, F2, C2, K2, hz2, u8, u9, u10, u11, u12, u13, u14, u15, u16, u17, u18, u19, u20, u21, u22, u23, u24, u25, u26, u27, u28, u29, u30, u31, u32, u33, u34, u35, rfl⟩
  have q0 : w'.cell? ⟨w.heap.size + 1, 0, none⟩ = some (.int .i64 2) := by simpa using R2 0 (.int .i64 2) rfl
  have q3 : w'.cell? ⟨w.heap.size + 1, 3, none⟩ = some (.int .i64 h.key) := by simpa using R2 3 (.int .i64 h.key) rfl
  have q10 : w'.cell? ⟨w.heap.size + 1, 10, none⟩ = some (.int .i64 0) := by simpa using R2 10 (.int .i64 0) rfl
  have f10 : w'.frozen? ⟨w.heap.size + 1, 10, none⟩ = false := by simpa using (G2 10 (by omega)).2
  clear H0 P0 G0 F0 K0 C0 y0 y1 y2 y3
  have hge := guideI_ge x y z u h.key
  by_cases hg : 0 ≤ guideI x y z u h.key
  case neg =>
   have hgm : guideI x y z u h.key = -1 := by omega
   have hv : Hid ((findOf x y z u A h).2 = begunH h) := by show _ = _; rw [hfo.out, startI_none x y z u A h.key hgm]; rfl
   rw [hgm]
   clear hg hge hgm
   go_wp2_with (first | (refine wpList_load_mid rfl 70 (.tmp 5) rfl (w.heap.size + 1) 0 ?lx8 (hdC (begunH h)) _ ?lc8 Tryd.underlying70 rfl (sizeHandL _) ?_) | (refine wpList_store_mid rfl 70 (.tmp 6) _ rfl (w.heap.size + 1 + 1) 0 (hdC ((begunH h))).toArray ?hx8 ?hy8 ?ht8 (sizeHand _) (oneHand _) ?_))
   try (case lx8 => rfl)
   try (case lc8 => exact R2)
   try (case hx8 => rfl)
   try (case hy8 => rfl)
   try (case ht8 => exact F2)
   simp only [Exit.jump]
   refine bodyPost_ret (v := .agg (hdC (begunH h)).toArray) ?_ rfl ⟨by rw [hv.out], Below.setCells (by omega) _ _ _ K2⟩
   exact results_row Tryd.results43 _ _ (w.heap.size + 1 + 1) 0 rfl (hdC (begunH h)) _ (World.rangeAt_setCells_same _ _ _ _ F2) Tryd.underlying70 rfl (sizeHandL _)
  obtain ⟨hgl, hgs⟩ := arenaB_guides hOk
  have hgu := guideI_lt x y z u h.key hg
  have hv : Hid ((findOf x y z u A h).2 = { begunH h with x_ := startG A (guideI x y z u h.key) h.key }) := by show _ = _; rw [hfo.out, startI_guide x y z u A h.key hg]
  generalize guideI x y z u h.key = gi at *
  have bg : (gi != -1) = true := by simp; omega
  have hg1 : gi < (A.guides.length : Int) := by omega
  obtain ⟨W3, hW3⟩ : ∃ W3 : World, Hid (W3 = w'.setCell ⟨w.heap.size + 1, 10, none⟩ (.int .i64 (startG A gi h.key))) := ⟨_, rfl⟩
  have R3 : W3.rangeAt (w.heap.size + 1) 0 (hdC { begunH h with x_ := startG A gi h.key }) := by rw [hW3.out]; exact rangeAt_set R2 10 (by show _ < 22; omega) (.int .i64 (startG A gi h.key))
  have F3 : W3.there (w.heap.size + 1 + 1) 0 22 := by rw [hW3.out]; exact there_setCell F2 _ _
  have K3 : Below w.heap.size w W3 := by rw [hW3.out]; exact Below.setCell K2 (p := ⟨w.heap.size + 1, 10, none⟩) (by show w.heap.size ≤ w.heap.size + 1; omega) _
  have hgH : Hid (0 ≤ gi) := hg
  clear hg hge hgl hgu
  go_upto_region 8 with (go_at_call 74; refine (startBy_any base cb s g n r ps qs A gi h.key w' C2 hA hgH.out hg1 hgs).mono ?_; rintro e w'' ⟨rfl, hw⟩; obtain rfl := hw.symm)
  rw [← hW3.out]
  clear hW3 q0 q3 q10 f10 R2 G2 F2 C2 K2
  go_wp2_with (first | (refine wpList_load_mid rfl 70 (.tmp 5) rfl (w.heap.size + 1) 0 ?lx9 (hdC { begunH h with x_ := startG A gi h.key }) _ ?lc9 Tryd.underlying70 rfl (sizeHandL _) ?_) | (refine wpList_store_mid rfl 70 (.tmp 6) _ rfl (w.heap.size + 1 + 1) 0 (hdC ({ begunH h with x_ := startG A gi h.key })).toArray ?hx9 ?hy9 ?ht9 (sizeHand _) (oneHand _) ?_))
  try (case lx9 => rfl)
  try (case lc9 => exact R3)
  try (case hx9 => rfl)
  try (case hy9 => rfl)
  try (case ht9 => exact F3)
  simp only [Exit.jump]
  refine bodyPost_ret (v := .agg (hdC { begunH h with x_ := startG A gi h.key }).toArray) ?_ rfl ⟨by rw [hv.out], Below.setCells (by omega) _ _ _ K3⟩
  exact results_row Tryd.results43 _ _ (w.heap.size + 1 + 1) 0 rfl (hdC { begunH h with x_ := startG A gi h.key }) _ (World.rangeAt_setCells_same _ _ _ _ F3) Tryd.underlying70 rfl (sizeHandL _)
end
end Go.Proofs.YtlfjhcdjgoeafaaDoor
