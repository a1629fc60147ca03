/-
  What the law's proof goes by, part 19.
-/
import Derived.Deep.Cut
import Derived.Deep.QuietTactic
import Derived.Test.YtlfjhcdjgoeafaaGreatDoorFindStep00
import Derived.Test.YtlfjhcdjgoeafaaGreatDoorFindStep06
import Derived.Test.YtlfjhcdjgoeafaaGreatDoorFindStep07
import Derived.Test.YtlfjhcdjgoeafaaGreatDoorFindStep16
import Derived.Test.YtlfjhcdjgoeafaaGreatDoorFindStep17
namespace Go.Proofs.YtlfjhcdjgoeafaaGreatDoor
open Go.ChangeShapes Go.WideShapes Go.ChangeAt Go.RowKit
set_option linter.unusedVariables false
set_option linter.unusedSimpArgs false
set_option linter.unnecessarySimpa false
set_option linter.unusedSectionVars false
section
attribute [local go_sem ↓] Go.wp_at_zero Go.wp_at_succ
def begunH (h : Hd) : Hd := { h with round := min (h.round + 1) 20000, x_ := 0, then_ := 1, at_ := 2 }
set_option maxRecDepth 100000 in
set_option maxHeartbeats 4000000 in
theorem begun_any (h : Hd) (w : World) (hr0 : 0 ≤ h.round) (hr1 : h.round ≤ 20000) :
  Calls Tryz.prog 60 #[.agg (hdC h).toArray] w fun e w' => e = .returned (.agg (hdC (begunH h)).toArray) ∧ Below w.heap.size w w' := by
 have H0 := World.rangeAt_alloc (rangeAt_new w (hdC h) 36) (.cells #[.int .i64 0, .int .i64 0, .int .i64 0, .int .i64 0, .int .i64 0, .int .i64 0, .int .i64 0, .int .i64 0, .int .i64 0, .int .i64 0, .int .i64 0, .int .i64 0, .int .i64 0, .int .i64 0, .int .i64 0, .int .i64 0, .int .i64 0, .int .i64 0, .int .i64 0, .int .i64 0, .int .i64 0, .int .i64 0] 36)
 have G0 := World.there_alloc (there_new w (hdC h).toArray 36 22 (by simp [hdC])) (.cells #[.int .i64 0, .int .i64 0, .int .i64 0, .int .i64 0, .int .i64 0, .int .i64 0, .int .i64 0, .int .i64 0, .int .i64 0, .int .i64 0, .int .i64 0, .int .i64 0, .int .i64 0, .int .i64 0, .int .i64 0, .int .i64 0, .int .i64 0, .int .i64 0, .int .i64 0, .int .i64 0, .int .i64 0, .int .i64 0] 36)
 have F0 := there_new (w.alloc (.cells (hdC h).toArray 36)) #[.int .i64 0, .int .i64 0, .int .i64 0, .int .i64 0, .int .i64 0, .int .i64 0, .int .i64 0, .int .i64 0, .int .i64 0, .int .i64 0, .int .i64 0, .int .i64 0, .int .i64 0, .int .i64 0, .int .i64 0, .int .i64 0, .int .i64 0, .int .i64 0, .int .i64 0, .int .i64 0, .int .i64 0, .int .i64 0] 36 22 (by decide)
 have K0 := ((Below.refl w.heap.size w).alloc (Nat.le_refl _) (.cells (hdC h).toArray 36)).alloc (by simp) (.cells #[.int .i64 0, .int .i64 0, .int .i64 0, .int .i64 0, .int .i64 0, .int .i64 0, .int .i64 0, .int .i64 0, .int .i64 0, .int .i64 0, .int .i64 0, .int .i64 0, .int .i64 0, .int .i64 0, .int .i64 0, .int .i64 0, .int .i64 0, .int .i64 0, .int .i64 0, .int .i64 0, .int .i64 0, .int .i64 0] 36)
 have hz0 : w.heap.size + 1 < ((w.alloc (.cells (hdC h).toArray 36)).alloc (.cells #[.int .i64 0, .int .i64 0, .int .i64 0, .int .i64 0, .int .i64 0, .int .i64 0, .int .i64 0, .int .i64 0, .int .i64 0, .int .i64 0, .int .i64 0, .int .i64 0, .int .i64 0, .int .i64 0, .int .i64 0, .int .i64 0, .int .i64 0, .int .i64 0, .int .i64 0, .int .i64 0, .int .i64 0, .int .i64 0] 36)).heap.size := by simp
 simp only [World.size_alloc] at F0
 go_enter Tryz.func60, Tryz.ntmps60
 go_upto_region 1 with fail
 generalize hw0 : (w.alloc (.cells (hdC h).toArray 36)).alloc (.cells #[.int .i64 0, .int .i64 0, .int .i64 0, .int .i64 0, .int .i64 0, .int .i64 0, .int .i64 0, .int .i64 0, .int .i64 0, .int .i64 0, .int .i64 0, .int .i64 0, .int .i64 0, .int .i64 0, .int .i64 0, .int .i64 0, .int .i64 0, .int .i64 0, .int .i64 0, .int .i64 0, .int .i64 0, .int .i64 0] 36) = w0 at *
 clear hw0
 have f21 : w0.frozen? ⟨w.heap.size, 21, none⟩ = false := by simpa using (G0 21 (by omega)).2
 have f10 : w0.frozen? ⟨w.heap.size, 10, none⟩ = false := by simpa using (G0 10 (by omega)).2
 have f1 : w0.frozen? ⟨w.heap.size, 1, none⟩ = false := by simpa using (G0 1 (by omega)).2
 have c21 : w0.cell? ⟨w.heap.size, 21, none⟩ = some (.int .i64 h.round) := by simpa using H0 21 (.int .i64 h.round) rfl
 have c10 : w0.cell? ⟨w.heap.size, 10, none⟩ = some (.int .i64 h.x_) := by simpa using H0 10 (.int .i64 h.x_) rfl
 have c1 : w0.cell? ⟨w.heap.size, 1, none⟩ = some (.int .i64 h.then_) := by simpa using H0 1 (.int .i64 h.then_) rfl
 obtain ⟨u1, hu1⟩ : ∃ u1 : Int, Hid (u1 = min (h.round + 1) 20000) := by exact ⟨_, rfl⟩
 have mn1 : (if (20000 : Int) < h.round + 1 then (20000 : Int) else h.round + 1) = u1 := by rw [hu1.out]; omega
 have wr1 : IntKind.i64.wrap (h.round + 1) = h.round + 1 := IntWalk.i64_in _ (by omega)
 obtain ⟨W1, hW1⟩ : ∃ W1 : World, Hid (W1 = ((w0.setCell ⟨w.heap.size, 21, none⟩ (.int .i64 u1)).setCell ⟨w.heap.size, 10, none⟩ (.int .i64 0)).setCell ⟨w.heap.size, 1, none⟩ (.int .i64 1)) := ⟨_, rfl⟩
 have H2 : W1.rangeAt w.heap.size 0 (hdC { h with round := u1, x_ := 0, then_ := 1 }) := by rw [hW1.out]; exact rangeAt_set (rangeAt_set (rangeAt_set H0 21 (by show _ < 22; omega) (.int .i64 u1)) 10 (by show _ < 22; omega) (.int .i64 0)) 1 (by show _ < 22; omega) (.int .i64 1)
 have F2 : W1.there (w.heap.size + 1) 0 22 := by rw [hW1.out]; exact there_setCell (there_setCell (there_setCell F0 _ _) _ _) _ _
 have K2 : Below w.heap.size w W1 := by rw [hW1.out]; exact Below.setCell (Below.setCell (Below.setCell K0 (p := ⟨w.heap.size, 21, none⟩) (Nat.le_refl _) _) (p := ⟨w.heap.size, 10, none⟩) (Nat.le_refl _) _) (p := ⟨w.heap.size, 1, none⟩) (Nat.le_refl _) _
 have hz2 : w.heap.size + 1 < W1.heap.size := by rw [hW1.out]; simpa using hz0
 have hb : Hid (begunH h = turnH { h with round := u1, x_ := 0, then_ := 1 } 2) := by show _ = _; rw [hu1.out]; rfl
 clear H0 F0 G0 K0 hr0 hr1
 go_upto_region 2 with fail
 rw [← hW1.out]
 clear hW1 f21 f10 f1 c21 c10 c1 mn1 wr1 hu1
 go_wp2_with (refine wpList_load_mid rfl 36 (.tmp 1) rfl w.heap.size 0 ?lx1 (hdC { h with round := u1, x_ := 0, then_ := 1 }) _ ?lc1 Tryz.underlying36 rfl (sizeHandL _) ?_)
 try (case lx1 => rfl)
 try (case lc1 => exact H2)
 refine (turnedTo_any { h with round := u1, x_ := 0, then_ := 1 } 2 _).mono ?_
 rintro e w3 ⟨rfl, b3⟩
 have F3 := there_below F2 b3 (by omega)
 have K3 := K2.trans (b3.mono (by omega))
 go_wp2_with (refine wpList_store_mid rfl 36 (.tmp 2) _ rfl (w.heap.size + 1) 0 (hdC (turnH { h with round := u1, x_ := 0, then_ := 1 } 2)).toArray ?hx3 ?hy3 ?ht3 (sizeHand _) (oneHand _) ?_)
 try (case hx3 => rfl)
 try (case hy3 => rfl)
 case ht3 => exact F3
 refine bodyPost_ret (v := .agg (hdC (turnH { h with round := u1, x_ := 0, then_ := 1 } 2)).toArray) ?_ rfl ⟨by rw [hb.out], Below.setCells (by omega) _ _ _ K3⟩
 exact results_row Tryz.results60 _ _ (w.heap.size + 1) 0 rfl (hdC (turnH { h with round := u1, x_ := 0, then_ := 1 } 2)) _ (World.rangeAt_setCells_same _ _ _ _ F3) Tryz.underlying36 rfl (sizeHandL _)
def findsB (h : Hd) : Bool := h.at_ == 1 || h.at_ == 6
set_option maxRecDepth 100000 in
set_option maxHeartbeats 4000000 in
theorem finds_any (h : Hd) (w : World) :
  Calls Tryz.prog 25 #[.agg (hdC h).toArray] w fun e w' => e = .returned (.bool (findsB h)) ∧ Below w.heap.size w w' := by
 have H0 := rangeAt_new w (hdC h) 36
 have K0 := (Below.refl w.heap.size w).alloc (Nat.le_refl _) (.cells (hdC h).toArray 36)
 have q0 : (w.alloc (.cells (hdC h).toArray 36)).cell? ⟨w.heap.size, 0, none⟩ = some (.int .i64 h.at_) := by simpa using H0 0 (.int .i64 h.at_) rfl
 go_enter Tryz.func25, Tryz.ntmps25
 go_upto_region 1 with fail
 generalize hw0 : w.alloc (.cells (hdC h).toArray 36) = w0 at *
 clear hw0 H0
 by_cases e1 : h.at_ = 1
 ·have hb : Hid (findsB h = true) := by show _ = _; simp [findsB, e1]
  rw [e1] at q0
  go_wp2
  go_ret
  exact ⟨by rw [hb.out]; rfl, K0⟩
 ·have b1 : (h.at_ == 1) = false := by simp [e1]
  have hb : Hid (findsB h = (h.at_ == 6)) := by show _ = _; simp [findsB, b1]
  go_wp2
  go_ret
  exact ⟨by rw [hb.out]; rfl, K0⟩
def startG (A : Ar) (g : Int) (key : Int) : Int := if (ndOf A (A.guides.getD g.toNat 0)).key < key then A.guides.getD g.toNat 0 else 0
set_option maxRecDepth 100000 in
set_option maxHeartbeats 4000000 in
theorem startBy_any (base : Nat) (cb : Nat) (s g n r : Value) (ps qs : List Addr) (A : Ar) (gi key : Int) (w : World) (C : OwnCells base w cb s g n r ps qs A) (hA : A.size ≤ 1048576) (hg0 : 0 ≤ gi) (hg1 : gi < (A.guides.length : Int)) (hgn : ∀ k (h : k < A.guides.length), 0 ≤ A.guides[k] ∧ A.guides[k] < (A.nodes.length : Int)) :
  Calls Tryz.prog 62 #[.pointer (some ⟨cb, 0, none⟩), .int .i64 gi, .int .i64 key] w fun e w' => e = .returned (.int .i64 (startG A gi key)) ∧ w' = w := by
 unfold Ar.size at hA
 obtain ⟨gk, rfl⟩ : ∃ k : Nat, gi = k := ⟨gi.toNat, by omega⟩
 have hgl : gk < A.guides.length := by omega
 obtain ⟨g0, g1⟩ := hgn gk hgl
 obtain ⟨nk, hnk⟩ : ∃ k : Nat, A.guides[gk] = k := ⟨(A.guides[gk]).toNat, by omega⟩
 have hnl : nk < A.nodes.length := by omega
 obtain ⟨ga, gc, rfl⟩ := own_is C.sg
 obtain ⟨gb, rfl, -, -, -, RG⟩ := row_blk C.sg (by omega)
 obtain ⟨na, nc, rfl⟩ := own_is C.sn
 obtain ⟨nb, rfl, -, -, -, RN⟩ := row_blk C.sn (by omega)
 obtain ⟨vb, vo, vm, p1, -, p3, -, p5⟩ := C.np.at' nk hnl
 have hpc : w.cell? ⟨nb, nk, none⟩ = some (.pointer (some ⟨vb, vo, none⟩)) := by
  have hkp : nk < ps.length := by rw [C.np.len]; exact hnl
  have h1 := (rangeAt_elem (sz := 1) (f := ptrC) (fun _ => rfl) RN nk hkp) 0 (.pointer (some ps[nk])) rfl
  rw [List.getElem?_eq_getElem hkp] at p1
  rw [Option.some.inj p1] at h1
  simpa using h1
 have hgc : w.cell? ⟨gb, gk, none⟩ = some (.int .i64 (nk : Int)) := by
  have h1 := (rangeAt_elem (sz := 1) (f := intC) (fun _ => rfl) RG gk hgl) 0 (.int .i64 A.guides[gk]) rfl
  rw [hnk] at h1
  simpa using h1
 have hkc : w.cell? ⟨vb, vo, none⟩ = some (.int .i64 A.nodes[nk].key) := p5 0 _ rfl
 obtain ⟨x0, x1, x2, x3, x4⟩ := row5 C.row
 have hs : Hid (startG A (gk : Int) key = if A.nodes[nk].key < key then (nk : Int) else 0) := by
  show _ = _
  have e1 : A.guides.getD ((gk : Int)).toNat 0 = (nk : Int) := by simp [List.getD, hgl, hnk]
  rw [startG, e1, ndOf_nat A nk hnl]
 have i0 : (0 : Int) ≤ (gk : Int) := by omega
 have i1 : (gk : Int) < (A.guides.length : Int) := by omega
 have j0 : (0 : Int) ≤ (nk : Int) := by omega
 have j1 : (nk : Int) < (A.nodes.length : Int) := by omega
 clear RG RN p1 p3 p5 hnk g0 g1 hgn C
 by_cases hlt : A.nodes[nk].key < key
 ·have hd : decide (A.nodes[nk].key < key) = true := by simp [hlt]
  have hltH : Hid (A.nodes[nk].key < key) := hlt
  go_enter Tryz.func62, Tryz.ntmps62
  go_wp2
  go_ret
  exact ⟨by rw [hs.out, if_pos hltH.out]; rfl, rfl⟩
 ·have hd : decide (A.nodes[nk].key < key) = false := by simp [hlt]
  have hltH : Hid (¬ A.nodes[nk].key < key) := hlt
  go_enter Tryz.func62, Tryz.ntmps62
  go_wp2
  go_ret
  exact ⟨by rw [hs.out, if_neg (by have := hltH.out; omega)]; rfl, rfl⟩
def pastV (A : Ar) (h : Hd) : Vr := ⟨(vrOf A h.currVer).next, false, -1, h.predVer, 0⟩
def pastG (lo b1 cb rb rc ck vb vo : Nat) (nl : Nat) (next prev : Int) : Nat → Value → World → Prop
 | 0, v, _ => v = .pointer (some ⟨cb, 0, none⟩)
 | 1, v, _ => v = .pointer (some ⟨cb, 0, none⟩)
 | 2, v, _ => v = .pointer (some ⟨cb, 4, none⟩)
 | 3, v, _ => v = .slice (some ⟨rb, 0, none⟩) nl rc
 | 4, v, _ => v = .pointer (some ⟨b1, 17, none⟩)
 | 5, v, _ => v = .int .i64 (ck : Int)
 | 6, v, _ => v = .pointer (some ⟨rb, ck, none⟩)
 | 7, v, _ => v = .pointer (some ⟨vb, vo, none⟩)
 | 8, v, _ => v = .pointer (some ⟨vb, vo, none⟩)
 | 9, v, _ => v = .pointer (some ⟨vb, vo, none⟩)
 | 10, v, _ => v = .int .i64 next
 | 11, v, _ => v = .pointer (some ⟨b1, 15, none⟩)
 | 12, v, _ => v = .int .i64 prev
 | 13, v, _ => v = .agg (vrC ⟨next, false, -1, prev, 0⟩).toArray
 | 14, v, w => ∃ b, v = .pointer (some ⟨b, 0, none⟩) ∧ lo ≤ b ∧ Blk w b 83 5
 | _, _, _ => True
theorem pastG_kept {lo b1 cb rb rc ck vb vo : Nat} {nl : Nat} {next prev : Int} (i : Nat) (v : Value) (w w' : World) (hq : pastG lo b1 cb rb rc ck vb vo nl next prev i v w) (hb : Below w.heap.size w w') : pastG lo b1 cb rb rc ck vb vo nl next prev i v w' := by
 match i, hq with
 | 0, h | 1, h | 2, h | 3, h | 4, h | 5, h | 6, h | 7, h | 8, h | 9, h | 10, h | 11, h | 12, h | 13, h => exact h
 | 14, h => obtain ⟨b, e, h1, h2⟩ := h; exact ⟨b, e, h1, h2.grown hb⟩
 | n + 15, h => exact trivial
set_option maxRecDepth 100000 in
set_option maxHeartbeats 4000000 in
theorem unlinkedBy_any (base : Nat) (cb : Nat) (s g n r : Value) (ps qs : List Addr) (A : Ar) (h : Hd) (x y z u : Int) (eN eF eU : Addr) (w : World) (hbase : base ≤ w.heap.size) (hA : A.size ≤ 1048576) (C : OwnCells base w cb s g n r ps qs A) (hp0 : 0 ≤ h.pred) (hp1 : h.pred < (A.nodes.length : Int)) (hc0 : 0 ≤ h.currVer) (hc1 : h.currVer < (A.vers.length : Int)) (E : Errs base w eN eF eU) :
  Calls Tryz.prog 59 #[.pointer (some ⟨cb, 0, none⟩), .agg #[.int .i64 x, .int .i64 y, .int .i64 z, .int .i64 u], .agg (hdC h).toArray] w fun e w' => ∃ r' qs', e = .returned (.agg (hdC (swappedH h (swapN A (swapC z A h.pred (pastV A h))) (swapC z A h.pred (pastV A h)) 3)).toArray) ∧ OwnCells base w' cb s g n r' ps qs' (swapA A h.pred (pastV A h) (swapC z A h.pred (pastV A h))) ∧ Below base w w' ∧ But (swapS w cb) w w' := by
 have hA' := hA
 unfold Ar.size at hA
 obtain ⟨ck, hck⟩ : ∃ k : Nat, h.currVer = k := ⟨h.currVer.toNat, by omega⟩
 have hcl : ck < A.vers.length := by omega
 have hpv : Hid (pastV A h = ⟨A.vers[ck].next, false, -1, h.predVer, 0⟩) := by show _ = _; rw [pastV, hck, vrOf_nat A ck hcl]
 have P0 := World.rangeAt_alloc (World.rangeAt_alloc (rangeAt_new w [.int .i64 x, .int .i64 y, .int .i64 z, .int .i64 u] 43) (.cells (hdC h).toArray 36)) (.cells #[.int .i64 0, .int .i64 0, .int .i64 0, .int .i64 0, .int .i64 0, .int .i64 0, .int .i64 0, .int .i64 0, .int .i64 0, .int .i64 0, .int .i64 0, .int .i64 0, .int .i64 0, .int .i64 0, .int .i64 0, .int .i64 0, .int .i64 0, .int .i64 0, .int .i64 0, .int .i64 0, .int .i64 0, .int .i64 0] 36)
 have H0 := World.rangeAt_alloc (rangeAt_new (w.alloc (.cells #[.int .i64 x, .int .i64 y, .int .i64 z, .int .i64 u] 43)) (hdC h) 36) (.cells #[.int .i64 0, .int .i64 0, .int .i64 0, .int .i64 0, .int .i64 0, .int .i64 0, .int .i64 0, .int .i64 0, .int .i64 0, .int .i64 0, .int .i64 0, .int .i64 0, .int .i64 0, .int .i64 0, .int .i64 0, .int .i64 0, .int .i64 0, .int .i64 0, .int .i64 0, .int .i64 0, .int .i64 0, .int .i64 0] 36)
 have F0 := there_new ((w.alloc (.cells #[.int .i64 x, .int .i64 y, .int .i64 z, .int .i64 u] 43)).alloc (.cells (hdC h).toArray 36)) #[.int .i64 0, .int .i64 0, .int .i64 0, .int .i64 0, .int .i64 0, .int .i64 0, .int .i64 0, .int .i64 0, .int .i64 0, .int .i64 0, .int .i64 0, .int .i64 0, .int .i64 0, .int .i64 0, .int .i64 0, .int .i64 0, .int .i64 0, .int .i64 0, .int .i64 0, .int .i64 0, .int .i64 0, .int .i64 0] 36 22 (by decide)
 have K0 := (((Below.refl w.heap.size w).alloc (Nat.le_refl _) (.cells #[.int .i64 x, .int .i64 y, .int .i64 z, .int .i64 u] 43)).alloc (by simp) (.cells (hdC h).toArray 36)).alloc (by simp; omega) (.cells #[.int .i64 0, .int .i64 0, .int .i64 0, .int .i64 0, .int .i64 0, .int .i64 0, .int .i64 0, .int .i64 0, .int .i64 0, .int .i64 0, .int .i64 0, .int .i64 0, .int .i64 0, .int .i64 0, .int .i64 0, .int .i64 0, .int .i64 0, .int .i64 0, .int .i64 0, .int .i64 0, .int .i64 0, .int .i64 0] 36)
 have hz0 : w.heap.size + 1 + 1 < (((w.alloc (.cells #[.int .i64 x, .int .i64 y, .int .i64 z, .int .i64 u] 43)).alloc (.cells (hdC h).toArray 36)).alloc (.cells #[.int .i64 0, .int .i64 0, .int .i64 0, .int .i64 0, .int .i64 0, .int .i64 0, .int .i64 0, .int .i64 0, .int .i64 0, .int .i64 0, .int .i64 0, .int .i64 0, .int .i64 0, .int .i64 0, .int .i64 0, .int .i64 0, .int .i64 0, .int .i64 0, .int .i64 0, .int .i64 0, .int .i64 0, .int .i64 0] 36)).heap.size := by simp
 simp only [World.size_alloc] at H0 F0
 have QH0 := (Blk.new (w.alloc (.cells #[.int .i64 x, .int .i64 y, .int .i64 z, .int .i64 u] 43)) (hdC h).toArray 36).grown ((Below.refl _ _).alloc (Nat.le_refl _) (.cells #[.int .i64 0, .int .i64 0, .int .i64 0, .int .i64 0, .int .i64 0, .int .i64 0, .int .i64 0, .int .i64 0, .int .i64 0, .int .i64 0, .int .i64 0, .int .i64 0, .int .i64 0, .int .i64 0, .int .i64 0, .int .i64 0, .int .i64 0, .int .i64 0, .int .i64 0, .int .i64 0, .int .i64 0, .int .i64 0] 36))
 have QF0 := Blk.new ((w.alloc (.cells #[.int .i64 x, .int .i64 y, .int .i64 z, .int .i64 u] 43)).alloc (.cells (hdC h).toArray 36)) #[.int .i64 0, .int .i64 0, .int .i64 0, .int .i64 0, .int .i64 0, .int .i64 0, .int .i64 0, .int .i64 0, .int .i64 0, .int .i64 0, .int .i64 0, .int .i64 0, .int .i64 0, .int .i64 0, .int .i64 0, .int .i64 0, .int .i64 0, .int .i64 0, .int .i64 0, .int .i64 0, .int .i64 0, .int .i64 0] 36
 simp only [World.size_alloc] at QH0 QF0
 replace QH0 : Blk (((w.alloc (.cells #[.int .i64 x, .int .i64 y, .int .i64 z, .int .i64 u] 43)).alloc (.cells (hdC h).toArray 36)).alloc (.cells #[.int .i64 0, .int .i64 0, .int .i64 0, .int .i64 0, .int .i64 0, .int .i64 0, .int .i64 0, .int .i64 0, .int .i64 0, .int .i64 0, .int .i64 0, .int .i64 0, .int .i64 0, .int .i64 0, .int .i64 0, .int .i64 0, .int .i64 0, .int .i64 0, .int .i64 0, .int .i64 0, .int .i64 0, .int .i64 0] 36)) (w.heap.size + 1) 36 22 := QH0
 replace QF0 : Blk (((w.alloc (.cells #[.int .i64 x, .int .i64 y, .int .i64 z, .int .i64 u] 43)).alloc (.cells (hdC h).toArray 36)).alloc (.cells #[.int .i64 0, .int .i64 0, .int .i64 0, .int .i64 0, .int .i64 0, .int .i64 0, .int .i64 0, .int .i64 0, .int .i64 0, .int .i64 0, .int .i64 0, .int .i64 0, .int .i64 0, .int .i64 0, .int .i64 0, .int .i64 0, .int .i64 0, .int .i64 0, .int .i64 0, .int .i64 0, .int .i64 0, .int .i64 0] 36)) (w.heap.size + 1 + 1) 36 22 := QF0
 have C0 := C.grown K0
 have E0 := E.below (K0.mono hbase)
 obtain ⟨ra, rc, rfl⟩ := own_is C.sr
 obtain ⟨rb, rfl, hrbB, -, -, -⟩ := row_blk C.sr (by omega)
 go_enter Tryz.func59, Tryz.ntmps59
 go_upto_region 1 with fail
 generalize hw0 : ((w.alloc (.cells #[.int .i64 x, .int .i64 y, .int .i64 z, .int .i64 u] 43)).alloc (.cells (hdC h).toArray 36)).alloc (.cells #[.int .i64 0, .int .i64 0, .int .i64 0, .int .i64 0, .int .i64 0, .int .i64 0, .int .i64 0, .int .i64 0, .int .i64 0, .int .i64 0, .int .i64 0, .int .i64 0, .int .i64 0, .int .i64 0, .int .i64 0, .int .i64 0, .int .i64 0, .int .i64 0, .int .i64 0, .int .i64 0, .int .i64 0, .int .i64 0] 36) = w0 at *
 clear hw0
 obtain ⟨_, e9, -, -, -, RR⟩ := row_blk C0.sr (by omega)
 cases e9
 obtain ⟨vb, vo, vm, p1, plo, p3, pfit, p5⟩ := C0.vp.at' ck hcl
 have hpc : w0.cell? ⟨rb, ck, none⟩ = some (.pointer (some ⟨vb, vo, none⟩)) := by
  have hkp : ck < qs.length := by rw [C0.vp.len]; exact hcl
  have h1 := (rangeAt_elem (sz := 1) (f := ptrC) (fun _ => rfl) RR ck hkp) 0 (.pointer (some qs[ck])) rfl
  rw [List.getElem?_eq_getElem hkp] at p1
  rw [Option.some.inj p1] at h1
  simpa using h1
 have hnx : w0.cell? ⟨vb, vo, none⟩ = some (.int .i64 A.vers[ck].next) := p5 0 _ rfl
 obtain ⟨x0, x1, x2, x3, x4⟩ := row5 C0.row
 have q15 : w0.cell? ⟨w.heap.size + 1, 15, none⟩ = some (.int .i64 h.predVer) := by simpa using H0 15 (.int .i64 h.predVer) rfl
 have q17 : w0.cell? ⟨w.heap.size + 1, 17, none⟩ = some (.int .i64 (ck : Int)) := by rw [← hck]; simpa using H0 17 (.int .i64 h.currVer) rfl
 have l1 : cb < w0.heap.size := C0.blk.lt
 have l2 : rb < w0.heap.size := World.block_lt_of_cell? w0 _ hpc
 have l3 : vb < w0.heap.size := p3.lt
 have hk0 : (0 : Int) ≤ (ck : Int) := by omega
 have hk1 : (ck : Int) < (A.vers.length : Int) := by omega
 have hckH : Hid (h.currVer = ck) := hck
 clear RR p1 p5 hck
 refine any_order_tail 15 (by kernel_rfl) (pastG w0.heap.size (w.heap.size + 1) cb rb rc ck vb vo A.vers.length A.vers[ck].next h.predVer) (fun _ => false) (by kernel_rfl) (by kernel_rfl) (by kernel_rfl) (by kernel_rfl) (by rfl) (fun i v w w' _ h hb => pastG_kept i v w w' h hb) (fun i v w q hf h hq => by cases hf) ?step ?final
 case step =>
  intro i o hik ho a V hb hnn hd K hK
  have y4 : V.cell? ⟨cb, 4, none⟩ = some (.slice (some ⟨rb, 0, none⟩) A.vers.length rc) := (World.cell?_of_block (w := w0) (hb.block cb l1)).trans x4
  have y5 : V.cell? ⟨rb, ck, none⟩ = some (.pointer (some ⟨vb, vo, none⟩)) := (World.cell?_of_block (w := w0) (hb.block rb l2)).trans hpc
  have y6 : V.cell? ⟨vb, vo, none⟩ = some (.int .i64 A.vers[ck].next) := (World.cell?_of_block (w := w0) (hb.block vb l3)).trans hnx
  have y7 : V.cell? ⟨w.heap.size + 1, 15, none⟩ = some (.int .i64 h.predVer) := (World.cell?_of_block (w := w0) (hb.block _ (by show w.heap.size + 1 < _; omega))).trans q15
  have y8 : V.cell? ⟨w.heap.size + 1, 17, none⟩ = some (.int .i64 (ck : Int)) := (World.cell?_of_block (w := w0) (hb.block _ (by show w.heap.size + 1 < _; omega))).trans q17
  have hs := hb.size
  clear x0 x1 x2 x3 x4 hpc hnx q15 q17 H0 P0 F0 C0 E0 C E K0 p3
  match i, ho with
  | 0, ho =>
   obtain rfl := Option.some.inj ho
   have e0 : a.eval (.tmp 0) = .pointer (some ⟨cb, 0, none⟩) := hnn 0 rfl
   refine step_value (v := .pointer (some ⟨cb, 0, none⟩)) (w' := V) ?_ (hK _ _ rfl (Below.refl _ _) (fun h => by cases h))
   clear y4 y5 y6 y7 y8
   generalize a.eval = ev at *
   go_simp
  | 1, ho =>
   obtain rfl := Option.some.inj ho
   have d0 : a.eval (.tmp 10) = .pointer (some ⟨cb, 0, none⟩) := hd ⟨0, .data⟩ (by simp) rfl 10 rfl
   refine step_value (v := .pointer (some ⟨cb, 0, none⟩)) (w' := V) ?_ (hK _ _ rfl (Below.refl _ _) (fun h => by cases h))
   clear y4 y5 y6 y7 y8
   generalize a.eval = ev at *
   go_simp
  | 2, ho =>
   obtain rfl := Option.some.inj ho
   have d1 : a.eval (.tmp 11) = .pointer (some ⟨cb, 0, none⟩) := hd ⟨1, .data⟩ (by simp) rfl 11 rfl
   refine step_value (v := .pointer (some ⟨cb, 4, none⟩)) (w' := V) ?_ (hK _ _ rfl (Below.refl _ _) (fun h => by cases h))
   clear y4 y5 y6 y7 y8
   generalize a.eval = ev at *
   go_simp
  | 3, ho =>
   obtain rfl := Option.some.inj ho
   have d2 : a.eval (.tmp 12) = .pointer (some ⟨cb, 4, none⟩) := hd ⟨2, .data⟩ (by simp) rfl 12 rfl
   refine step_value (v := .slice (some ⟨rb, 0, none⟩) A.vers.length rc) (w' := V) ?_ (hK _ _ rfl (Below.refl _ _) (fun h => by cases h))
   clear y5 y6 y7 y8
   generalize a.eval = ev at *
   go_simp
  | 4, ho =>
   obtain rfl := Option.some.inj ho
   have e5 : a.eval (.tmp 5) = .pointer (some ⟨w.heap.size + 1, 0, none⟩) := hnn 5 rfl
   refine step_value (v := .pointer (some ⟨w.heap.size + 1, 17, none⟩)) (w' := V) ?_ (hK _ _ rfl (Below.refl _ _) (fun h => by cases h))
   clear y4 y5 y6 y7 y8
   generalize a.eval = ev at *
   go_simp
  | 5, ho =>
   obtain rfl := Option.some.inj ho
   have d4 : a.eval (.tmp 14) = .pointer (some ⟨w.heap.size + 1, 17, none⟩) := hd ⟨4, .data⟩ (by simp) rfl 14 rfl
   refine step_value (v := .int .i64 (ck : Int)) (w' := V) ?_ (hK _ _ rfl (Below.refl _ _) (fun h => by cases h))
   clear y4 y5 y6 y7
   generalize a.eval = ev at *
   go_simp
  | 6, ho =>
   obtain rfl := Option.some.inj ho
   have d3 : a.eval (.tmp 13) = .slice (some ⟨rb, 0, none⟩) A.vers.length rc := hd ⟨3, .data⟩ (by simp) rfl 13 rfl
   have d5 : a.eval (.tmp 15) = .int .i64 (ck : Int) := hd ⟨5, .data⟩ (by simp) rfl 15 rfl
   refine step_value (v := .pointer (some ⟨rb, ck, none⟩)) (w' := V) ?_ (hK _ _ rfl (Below.refl _ _) (fun h => by cases h))
   clear y4 y5 y6 y7 y8
   generalize a.eval = ev at *
   go_simp
  | 7, ho =>
   obtain rfl := Option.some.inj ho
   have d6 : a.eval (.tmp 16) = .pointer (some ⟨rb, ck, none⟩) := hd ⟨6, .data⟩ (by simp) rfl 16 rfl
   refine step_value (v := .pointer (some ⟨vb, vo, none⟩)) (w' := V) ?_ (hK _ _ rfl (Below.refl _ _) (fun h => by cases h))
   clear y4 y6 y7 y8
   generalize a.eval = ev at *
   go_simp
  | 8, ho =>
   obtain rfl := Option.some.inj ho
   have d7 : a.eval (.tmp 17) = .pointer (some ⟨vb, vo, none⟩) := hd ⟨7, .data⟩ (by simp) rfl 17 rfl
   refine step_value (v := .pointer (some ⟨vb, vo, none⟩)) (w' := V) ?_ (hK _ _ rfl (Below.refl _ _) (fun h => by cases h))
   clear y4 y5 y6 y7 y8
   generalize a.eval = ev at *
   go_simp
  | 9, ho =>
   obtain rfl := Option.some.inj ho
   have d8 : a.eval (.tmp 18) = .pointer (some ⟨vb, vo, none⟩) := hd ⟨8, .data⟩ (by simp) rfl 18 rfl
   refine step_value (v := .pointer (some ⟨vb, vo, none⟩)) (w' := V) ?_ (hK _ _ rfl (Below.refl _ _) (fun h => by cases h))
   clear y4 y5 y6 y7 y8
   generalize a.eval = ev at *
   go_simp
  | 10, ho =>
   obtain rfl := Option.some.inj ho
   have d9 : a.eval (.tmp 19) = .pointer (some ⟨vb, vo, none⟩) := hd ⟨9, .data⟩ (by simp) rfl 19 rfl
   refine step_value (v := .int .i64 A.vers[ck].next) (w' := V) ?_ (hK _ _ rfl (Below.refl _ _) (fun h => by cases h))
   clear y4 y5 y7 y8
   generalize a.eval = ev at *
   go_simp
  | 11, ho =>
   obtain rfl := Option.some.inj ho
   have e5 : a.eval (.tmp 5) = .pointer (some ⟨w.heap.size + 1, 0, none⟩) := hnn 5 rfl
   refine step_value (v := .pointer (some ⟨w.heap.size + 1, 15, none⟩)) (w' := V) ?_ (hK _ _ rfl (Below.refl _ _) (fun h => by cases h))
   clear y4 y5 y6 y7 y8
   generalize a.eval = ev at *
   go_simp
  | 12, ho =>
   obtain rfl := Option.some.inj ho
   have d11 : a.eval (.tmp 21) = .pointer (some ⟨w.heap.size + 1, 15, none⟩) := hd ⟨11, .data⟩ (by simp) rfl 21 rfl
   refine step_value (v := .int .i64 h.predVer) (w' := V) ?_ (hK _ _ rfl (Below.refl _ _) (fun h => by cases h))
   clear y4 y5 y6 y8
   generalize a.eval = ev at *
   go_simp
  | 13, ho =>
   obtain rfl := Option.some.inj ho
   have d10 : a.eval (.tmp 20) = .int .i64 A.vers[ck].next := hd ⟨10, .data⟩ (by simp) rfl 20 rfl
   have d12 : a.eval (.tmp 22) = .int .i64 h.predVer := hd ⟨12, .data⟩ (by simp) rfl 22 rfl
   refine step_value (v := .agg (vrC ⟨A.vers[ck].next, false, -1, h.predVer, 0⟩).toArray) (w' := V) ?_ (hK _ _ rfl (Below.refl _ _) (fun h => by cases h))
   have k1 : a.eval (.const (.bool false)) = .bool false := rfl
   have k2 : a.eval (.const (.int .i64 (-1))) = .int .i64 (-1) := rfl
   have k3 : a.eval (.const (.int .i64 0)) = .int .i64 0 := rfl
   simp only [vrC]
   clear y4 y5 y6 y7 y8
   generalize a.eval = ev at *
   go_simp
   try rfl
  | 14, ho =>
   obtain rfl := Option.some.inj ho
   have al := (Below.refl V.heap.size V).alloc (Nat.le_refl _) (.cells #[.int .i64 0, .bool false, .int .i64 0, .int .i64 0, .int .i64 0] 83)
   refine step_value (v := .pointer (some ⟨V.heap.size, 0, none⟩)) (w' := V.alloc (.cells #[.int .i64 0, .bool false, .int .i64 0, .int .i64 0, .int .i64 0] 83)) ?_ (hK _ _ ⟨V.heap.size, rfl, hs, Blk.new _ _ _⟩ al (fun h => by cases h))
   generalize a.eval = ev at *
   go_simp
  | n + 15, ho => omega
 case final =>
  intro vs V hb hG _
  obtain ⟨pb, g14, hpb, B7⟩ := (show ∃ b, vs 14 = .pointer (some ⟨b, 0, none⟩) ∧ w0.heap.size ≤ b ∧ Blk V b 83 5 from hG 14 (by decide))
  have g13 : vs 13 = .agg (vrC ⟨A.vers[ck].next, false, -1, h.predVer, 0⟩).toArray := hG 13 (by decide)
  have H1 := rangeAt_below H0 hb (by omega)
  have P1 := rangeAt_below P0 hb (by omega)
  have F1 := there_below F0 hb (by omega)
  have QH2 := (QH0.grown hb).setCells (c := pb) (vrC ⟨A.vers[ck].next, false, -1, h.predVer, 0⟩) 0
  have QF2 := (QF0.grown hb).setCells (c := pb) (vrC ⟨A.vers[ck].next, false, -1, h.predVer, 0⟩) 0
  have C1 := C0.grown hb
  have E1 := E0.below (hb.mono (Nat.le_trans hbase K0.size))
  have K1 := K0.trans (hb.mono (by omega))
  have hs1 := hb.size
  have hl1 := B7.lt
  clear H0 P0 F0 C0 E0 K0 QH0 QF0 x0 x1 x2 x3 x4 hpc hnx q15 q17 p3 l1 l2 l3
  generalize hl : laid _ vs _ _ _ = A'
  have hA'' : A' = { tmps := #[.pointer (some ⟨cb, 0, none⟩), .agg #[.int .i64 x, .int .i64 y, .int .i64 z, .int .i64 u], .agg (hdC h).toArray, undef, .pointer (some ⟨w.heap.size, 0, none⟩), .pointer (some ⟨w.heap.size + 1, 0, none⟩), .pointer (some ⟨w.heap.size + 1 + 1, 0, none⟩), vs 14, undef, undef, vs 0, vs 1, vs 2, vs 3, vs 4, vs 5, vs 6, vs 7, vs 8, vs 9, vs 10, vs 11, vs 12, vs 13, undef, undef, undef, undef, undef, undef, undef, undef, undef, undef, undef, undef, undef], defers := [] } := by
   rw [← hl]
   kernel_rfl
  subst hA''
  rw [g13, g14]
  clear hl hG g13 g14 hb
  simp only [List.drop_succ_cons, List.drop_zero]
  have T7 := B7.there 0 5 (by omega)
  have R7 : (V.setCells pb 0 (vrC ⟨A.vers[ck].next, false, -1, h.predVer, 0⟩)).rangeAt pb 0 (vrC ⟨A.vers[ck].next, false, -1, h.predVer, 0⟩) := World.rangeAt_setCells_same _ _ _ _ T7
  have H2 : (V.setCells pb 0 (vrC ⟨A.vers[ck].next, false, -1, h.predVer, 0⟩)).rangeAt (w.heap.size + 1) 0 (hdC h) := World.rangeAt_setCells_apart H1 _ _ _ (Or.inl (by omega))
  have P2 : (V.setCells pb 0 (vrC ⟨A.vers[ck].next, false, -1, h.predVer, 0⟩)).rangeAt w.heap.size 0 [.int .i64 x, .int .i64 y, .int .i64 z, .int .i64 u] := World.rangeAt_setCells_apart P1 _ _ _ (Or.inl (by omega))
  have F2 : (V.setCells pb 0 (vrC ⟨A.vers[ck].next, false, -1, h.predVer, 0⟩)).there (w.heap.size + 1 + 1) 0 22 := World.there_setCells F1 _ _ _
  have O2 : But (fun q => q = pb) V (V.setCells pb 0 (vrC ⟨A.vers[ck].next, false, -1, h.predVer, 0⟩)) := But.of_only (only_setCells pb _ 0 V) rfl
  have hpl : ∀ (i c o : Nat), qs[i]? = some ⟨c, o, none⟩ → c ≠ pb := fun i c o hi he => by
   have hil : i < A.vers.length := by
    rcases Nat.lt_or_ge i qs.length with h | h
    ·rw [← C.vp.len]; exact h
    ·rw [List.getElem?_eq_none h] at hi; cases hi
   obtain ⟨b', o', m', h1, _, h3, _, _⟩ := C.vp.at' i hil
   rw [hi] at h1
   injection h1 with h1
   injection h1 with h1 h1'
   have := h3.lt
   omega
  have C2 : OwnCells base (V.setCells pb 0 (vrC ⟨A.vers[ck].next, false, -1, h.predVer, 0⟩)) cb s g n (.slice (some ⟨rb, 0, none⟩) A.vers.length rc) ps qs A := C.grown (((Below.refl w.heap.size w).trans K1).trans (Below.setCells (by omega) _ _ _ (Below.refl _ _)))
  have K2 : Below w.heap.size w (V.setCells pb 0 (vrC ⟨A.vers[ck].next, false, -1, h.predVer, 0⟩)) := Below.setCells (by omega) _ _ _ K1
  have E2 := E.below (K2.mono hbase)
  have hz2 : w.heap.size + 1 + 1 < (V.setCells pb 0 (vrC ⟨A.vers[ck].next, false, -1, h.predVer, 0⟩)).heap.size := by rw [setCells_size]; omega
  clear H1 P1 F1 C1 E1 K1 B7 O2
  refine wpList_store_mid rfl 83 (.tmp 7) (.tmp 23) rfl pb 0 (vrC ⟨A.vers[ck].next, false, -1, h.predVer, 0⟩).toArray rfl rfl T7 (sizeVer _) (by simp [vrC, Value.oneCell']) ?_
  show wpList _ _ _ _ _ (V.setCells pb 0 (vrC ⟨A.vers[ck].next, false, -1, h.predVer, 0⟩))
  generalize hw2 : V.setCells pb 0 (vrC ⟨A.vers[ck].next, false, -1, h.predVer, 0⟩) = w2 at *
  clear hw2 T7
  show wpList _ _ _ _ _ w2
  go_upto_region 2 with fail
  obtain ⟨y0, y1, y2, y3⟩ : w2.cell? ⟨w.heap.size, 0, none⟩ = some (.int .i64 x) ∧ w2.cell? ⟨w.heap.size, 1, none⟩ = some (.int .i64 y) ∧ w2.cell? ⟨w.heap.size, 2, none⟩ = some (.int .i64 z) ∧ w2.cell? ⟨w.heap.size, 3, none⟩ = some (.int .i64 u) := ⟨by simpa using P2 0 _ rfl, by simpa using P2 1 _ rfl, by simpa using P2 2 _ rfl, by simpa using P2 3 _ rfl⟩
  have q14 : w2.cell? ⟨w.heap.size + 1, 14, none⟩ = some (.int .i64 h.pred) := by simpa using H2 14 (.int .i64 h.pred) rfl
  obtain ⟨z0, z1, z2, z3, z4⟩ := row5 R7
  clear P2 R7
  go_wp2_with fail
  refine (cellsSwap_any base cb s g n (.slice (some ⟨rb, 0, none⟩) A.vers.length rc) ps qs A x y z u h.pred ⟨A.vers[ck].next, false, -1, h.predVer, 0⟩ eN eF eU w2 (Nat.le_trans hbase K2.size) hA' C2 hp0 hp1 (by omega) E2).mono ?_
  rintro e w3 ⟨r3, qs3, rfl, C3, b3, O3⟩
  have hcb : cb < w.heap.size := C.blk.lt
  have nH : ¬ swapS w2 cb (w.heap.size + 1) := fun h5 => by
   rcases h5 with h5 | ⟨m, h5⟩ | ⟨m, h5⟩
   ·omega
   ·exact QH2.ne h5 (by decide) rfl
   ·exact QH2.ne h5 (by decide) rfl
  have nF : ¬ swapS w2 cb (w.heap.size + 1 + 1) := fun h5 => by
   rcases h5 with h5 | ⟨m, h5⟩ | ⟨m, h5⟩
   ·omega
   ·exact QF2.ne h5 (by decide) rfl
   ·exact QF2.ne h5 (by decide) rfl
  have H3 := O3.range H2 (by omega) nH
  have F3 := O3.there F2 (by omega) nF
  have QF3 := QF2.but O3 nF
  have E3 := E2.below b3
  have KB3 : Below base w w3 := (K2.mono hbase).trans b3
  have hz3 := Nat.lt_of_lt_of_le hz2 O3.size
  have lowT : ∀ q t m, Blk w2 q t m → q < w.heap.size → Blk w q t m := fun q t m hq hl => by
   obtain ⟨cur, h1, h2⟩ := hq
   exact ⟨cur, by rw [← K2.block q hl]; exact h1, h2⟩
  have BW3 : But (swapS w cb) w w3 := ⟨O3.os.trans K2.os, O3.tape.trans K2.tape, O3.output.trans K2.output, Nat.le_trans K2.size O3.size, fun q hq hn => (O3.block q (Nat.lt_of_lt_of_le hq K2.size) (fun h5 => hn (by
   rcases h5 with h5 | ⟨m, h5⟩ | ⟨m, h5⟩
   ·exact Or.inl h5
   ·exact Or.inr (Or.inl ⟨m, lowT q _ m h5 hq⟩)
   ·exact Or.inr (Or.inr ⟨m, lowT q _ m h5 hq⟩)))).trans (K2.block q hq)⟩
  have hp : pastV A h = ⟨A.vers[ck].next, false, -1, h.predVer, 0⟩ := hpv.out
  have hcc := swapC_lt z A h.pred ⟨A.vers[ck].next, false, -1, h.predVer, 0⟩
  generalize hcE : swapC z A h.pred ⟨A.vers[ck].next, false, -1, h.predVer, 0⟩ = c at *
  replace hcE : Hid (swapC z A h.pred (pastV A h) = c) := by show _ = _; rw [hp]; exact hcE
  generalize hmE : swapN A c = made at *
  replace hmE : Hid (swapN A c = made) := hmE
  have hpH : Hid (pastV A h = ⟨A.vers[ck].next, false, -1, h.predVer, 0⟩) := hp
  clear hp
  clear H2 F2 QH2 QF2 C2 E2 K2 nH nF y0 y1 y2 y3 q14 z0 z1 z2 z3 z4 O3 b3 hz2 lowT
  go_wp2_with (refine wpList_load_mid rfl 36 (.tmp 5) rfl (w.heap.size + 1) 0 ?lx7 (hdC h) _ ?lc7 Tryz.underlying36 rfl (sizeHandL _) ?_)
  try (case lx7 => rfl)
  try (case lc7 => exact H3)
  refine (swapped_any base h made c hcc 3 eN eF eU w3 (Nat.le_trans hbase (by omega)) E3).mono ?_
  rintro e w4 ⟨rfl, b4⟩
  have F4 := there_below F3 b4 (by omega)
  have QF4 := QF3.grown b4
  have C4 := C3.grown b4
  have KB4 := KB3.trans (b4.mono (by omega))
  have O5 : But (fun q => q = w.heap.size + 1 + 1) w4 (w4.setCells (w.heap.size + 1 + 1) 0 (hdC (swappedH h made c 3))) := But.of_only (only_setCells _ _ 0 _) rfl
  have C5 := C4.aside QF4 (by decide) (by decide) (by decide) (by decide) (by decide) (by decide) (only_setCells (w.heap.size + 1 + 1) (hdC (swappedH h made c 3)) 0 w4)
  have KB5 : Below base w (w4.setCells (w.heap.size + 1 + 1) 0 (hdC (swappedH h made c 3))) := Below.setCells (by omega) _ _ _ KB4
  have BW5 : But (swapS w cb) w (w4.setCells (w.heap.size + 1 + 1) 0 (hdC (swappedH h made c 3))) := (BW3.trans (But.of_below b4 |>.mono (fun q hq => hq))).far (only_setCells (w.heap.size + 1 + 1) (hdC (swappedH h made c 3)) 0 w4) (by omega)
  go_wp2_with (refine wpList_store_mid rfl 36 (.tmp 6) _ rfl (w.heap.size + 1 + 1) 0 (hdC (swappedH h made c 3)).toArray ?hx9 ?hy9 ?ht9 (sizeHand _) (oneHand _) ?_)
  try (case hx9 => rfl)
  try (case hy9 => rfl)
  try (case ht9 => exact F4)
  refine bodyPost_ret (v := .agg (hdC (swappedH h made c 3)).toArray) ?_ rfl ⟨_, _, by rw [hcE.out, hmE.out], by rw [hcE.out, hpH.out]; exact C5, KB5, BW5⟩
  exact results_row Tryz.results59 _ _ (w.heap.size + 1 + 1) 0 rfl (hdC (swappedH h made c 3)) _ (World.rangeAt_setCells_same _ _ _ _ F4) Tryz.underlying36 rfl (sizeHandL _)
end
end Go.Proofs.YtlfjhcdjgoeafaaGreatDoor
