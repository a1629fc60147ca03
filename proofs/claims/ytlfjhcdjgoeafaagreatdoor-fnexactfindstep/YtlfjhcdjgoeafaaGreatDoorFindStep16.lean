/-
  What the law's proof goes by, part 17.
-/
import Derived.Deep.Cut
import Derived.Test.YtlfjhcdjgoeafaaGreatDoorFindStep00
import Derived.Test.YtlfjhcdjgoeafaaGreatDoorFindStep05
import Derived.Test.YtlfjhcdjgoeafaaGreatDoorFindStep07
import Derived.Test.YtlfjhcdjgoeafaaGreatDoorFindStep09
import Derived.Test.YtlfjhcdjgoeafaaGreatDoorFindStep10
import Derived.Test.YtlfjhcdjgoeafaaGreatDoorFindStep13
import Derived.Test.YtlfjhcdjgoeafaaGreatDoorFindStep14
import Derived.Test.YtlfjhcdjgoeafaaGreatDoorFindStep15
namespace Go.Proofs.YtlfjhcdjgoeafaaGreatDoor
open Go.ChangeShapes Go.WideShapes Go.ChangeAt Go.RowKit
set_option linter.unusedVariables false
set_option linter.unusedSimpArgs false
set_option linter.unnecessarySimpa false
set_option linter.unusedSectionVars false
section
attribute [local go_sem ↓] Go.wp_at_zero Go.wp_at_succ
def turnH (h : Hd) (n : Int) : Hd := { h with at_ := n }
set_option maxRecDepth 100000 in
set_option maxHeartbeats 4000000 in
theorem turnedTo_any (h : Hd) (n : Int) (w : World)  :
  Calls Tryz.prog 93 #[.agg (hdC h).toArray, .int .i64 n] w fun e w' => e = .returned (.agg (hdC (turnH h n)).toArray) ∧ Below w.heap.size w w' := by
 have H0 := World.rangeAt_alloc (rangeAt_new w (hdC h) 36) (.cells #[.int .i64 0, .int .i64 0, .int .i64 0, .int .i64 0, .int .i64 0, .int .i64 0, .int .i64 0, .int .i64 0, .int .i64 0, .int .i64 0, .int .i64 0, .int .i64 0, .int .i64 0, .int .i64 0, .int .i64 0, .int .i64 0, .int .i64 0, .int .i64 0, .int .i64 0, .int .i64 0, .int .i64 0, .int .i64 0] 36)
 have G0 := World.there_alloc (there_new w (hdC h).toArray 36 22 (by simp [hdC])) (.cells #[.int .i64 0, .int .i64 0, .int .i64 0, .int .i64 0, .int .i64 0, .int .i64 0, .int .i64 0, .int .i64 0, .int .i64 0, .int .i64 0, .int .i64 0, .int .i64 0, .int .i64 0, .int .i64 0, .int .i64 0, .int .i64 0, .int .i64 0, .int .i64 0, .int .i64 0, .int .i64 0, .int .i64 0, .int .i64 0] 36)
 have F0 := there_new (w.alloc (.cells (hdC h).toArray 36)) #[.int .i64 0, .int .i64 0, .int .i64 0, .int .i64 0, .int .i64 0, .int .i64 0, .int .i64 0, .int .i64 0, .int .i64 0, .int .i64 0, .int .i64 0, .int .i64 0, .int .i64 0, .int .i64 0, .int .i64 0, .int .i64 0, .int .i64 0, .int .i64 0, .int .i64 0, .int .i64 0, .int .i64 0, .int .i64 0] 36 22 (by decide)
 have K0 := (((Below.refl w.heap.size w).alloc (Nat.le_refl _) (.cells (hdC h).toArray 36)).alloc (by simp) (.cells #[.int .i64 0, .int .i64 0, .int .i64 0, .int .i64 0, .int .i64 0, .int .i64 0, .int .i64 0, .int .i64 0, .int .i64 0, .int .i64 0, .int .i64 0, .int .i64 0, .int .i64 0, .int .i64 0, .int .i64 0, .int .i64 0, .int .i64 0, .int .i64 0, .int .i64 0, .int .i64 0, .int .i64 0, .int .i64 0] 36))
 have hz0 : w.heap.size + 1 < ((w.alloc (.cells (hdC h).toArray 36)).alloc (.cells #[.int .i64 0, .int .i64 0, .int .i64 0, .int .i64 0, .int .i64 0, .int .i64 0, .int .i64 0, .int .i64 0, .int .i64 0, .int .i64 0, .int .i64 0, .int .i64 0, .int .i64 0, .int .i64 0, .int .i64 0, .int .i64 0, .int .i64 0, .int .i64 0, .int .i64 0, .int .i64 0, .int .i64 0, .int .i64 0] 36)).heap.size := by simp
 simp only [World.size_alloc] at F0
 go_enter Tryz.func93, Tryz.ntmps93
 have tok : True := trivial
 go_wp2_with (clear tok; refine stopAt ((w.alloc (.cells (hdC h).toArray 36)).alloc (.cells #[.int .i64 0, .int .i64 0, .int .i64 0, .int .i64 0, .int .i64 0, .int .i64 0, .int .i64 0, .int .i64 0, .int .i64 0, .int .i64 0, .int .i64 0, .int .i64 0, .int .i64 0, .int .i64 0, .int .i64 0, .int .i64 0, .int .i64 0, .int .i64 0, .int .i64 0, .int .i64 0, .int .i64 0, .int .i64 0] 36)) ?_)
 generalize hw0 : (w.alloc (.cells (hdC h).toArray 36)).alloc (.cells #[.int .i64 0, .int .i64 0, .int .i64 0, .int .i64 0, .int .i64 0, .int .i64 0, .int .i64 0, .int .i64 0, .int .i64 0, .int .i64 0, .int .i64 0, .int .i64 0, .int .i64 0, .int .i64 0, .int .i64 0, .int .i64 0, .int .i64 0, .int .i64 0, .int .i64 0, .int .i64 0, .int .i64 0, .int .i64 0] 36) = w0 at *
 clear hw0
 show wpList _ _ _ _ _ w0
 have q0 : w0.cell? ⟨w.heap.size, 0, none⟩ = some (.int .i64 h.at_) := by simpa using H0 0 (.int .i64 h.at_) rfl
 have f0 : w0.frozen? ⟨w.heap.size, 0, none⟩ = false := by simpa using (G0 0 (by decide)).2
 obtain ⟨H', hH⟩ : ∃ H' : Hd, Hid (H' = { h with at_ := n }) := by exact ⟨_, rfl⟩
 have hv : Hid (turnH h n = H') := by show _ = _; rw [hH.out]; rfl
 go_wp2_with (first | (refine wpList_load_mid rfl 36 (.tmp 2) rfl (w.heap.size) 0 ?hxln19 (hdC H') _ ?hcn19 Tryz.underlying36 rfl (sizeHandL H') ?_) | (refine wpList_store_mid rfl 36 (.tmp 4) _ rfl (w.heap.size + 1) 0 (hdC H').toArray ?hxn19 ?hyn19 ?htn19 (sizeHand _) (oneHand _) ?_))
 try (case hxln19 => rfl)
 case hcn19 => rw [hH.out]; exact (rangeAt_set H0 0 (by simp [hdC]) _)
 try (case hxn19 => rfl)
 try (case hyn19 => rfl)
 case htn19 => exact (there_setCell F0 _ _)
 refine bodyPost_ret (v := .agg (hdC H').toArray) ?_ rfl ⟨by rw [hv.out], ?_⟩
 ·exact results_row Tryz.results93 _ _ (w.heap.size + 1) 0 rfl (hdC H') _ (World.rangeAt_setCells_same _ _ _ _ (there_setCell F0 _ _)) Tryz.underlying36 rfl (sizeHandL _)
 ·exact Below.setCells (by omega) _ _ _ (Below.setCell K0 (p := ⟨w.heap.size, 0, none⟩) (by show w.heap.size ≤ w.heap.size; omega) _)
end
section
attribute [local go_sem ↓] Go.wp_at_zero Go.wp_at_succ
def swapC (z : Int) (A : Ar) (node : Int) (V : Vr) : Nat :=
 if z ≤ (A.vers.length : Int) then 0 else if (ndOf A node).head ≠ V.prev then 1 else if verR A.nodes.length A.camera (A.vers.length : Int) V = false then 2 else 3
theorem swapC_lt (z : Int) (A : Ar) (node : Int) (V : Vr) : swapC z A node V < 4 := by
 unfold swapC
 repeat' split
 all_goals decide
def swapA (A : Ar) (node : Int) (V : Vr) (c : Nat) : Ar := if c = 3 then { A with vers := A.vers ++ [V], nodes := A.nodes.set node.toNat { ndOf A node with head := (A.vers.length : Int) } } else A
def swapN (A : Ar) (c : Nat) : Int := if c = 3 then (A.vers.length : Int) else -1
def swapS (w : World) (cb q : Nat) : Prop := q = cb ∨ (∃ m, Blk w q 119 m) ∨ ∃ m, Blk w q 86 m
theorem OwnCells.grow_v {base : Nat} {w3 w4 : World} {cb : Nat} {s g n r : Value} {ps qs : List Addr} {A : Ar} (C : OwnCells base w3 cb s g n r ps qs A) (r2 : Value) (fb : Nat) (V : Vr) (hown : w4.ownsRow base 119 1 r2 (A.vers.length + 1) (cellsOf ptrC qs ++ [.pointer (some ⟨fb, 0, none⟩)])) (O : But (fun q => r.ownBlock = some q) w3 w4) (hb : base ≤ fb) (hB : Blk w3 fb 83 5) (R : w3.rangeAt fb 0 (vrC V)) (hn : ∀ (i c o : Nat), qs[i]? = some ⟨c, o, none⟩ → c ≠ fb) :
  OwnCells base (w4.setCell ⟨cb, 4, none⟩ r2) cb s g n r2 ps (qs ++ [⟨fb, 0, none⟩]) { A with vers := A.vers ++ [V] } := by
 have hno : ∀ (t : TypeId), t ≠ 119 → ∀ b m, Blk w3 b t m → ¬ r.ownBlock = some b := fun t ht b m hm he => by
  obtain ⟨m', -, hm'⟩ := own_blkAt C.sr he
  exact (hm.ne hm' ht) rfl
 have c4 : Blk w4 cb 103 5 := C.blk.but O (hno _ (by decide) _ _ C.blk)
 have O5 : But (fun q => q = cb) w4 (w4.setCell ⟨cb, 4, none⟩ r2) := But.of_only ((Only.refl cb w4).setCell (Or.inl rfl) _) rfl
 have no5 : ∀ (t : TypeId), t ≠ 103 → ∀ b m, Blk w4 b t m → ¬ b = cb := fun t ht b m hm he => (hm.ne c4 ht) he
 refine ⟨?_, c4.setCell _ _, C.lo, row_but (row_but C.ss O (fun b m _ h => hno _ (by decide) b m h)) O5 (fun b m _ h => no5 _ (by decide) b m h), row_but (row_but C.sg O (fun b m _ h => hno _ (by decide) b m h)) O5 (fun b m _ h => no5 _ (by decide) b m h), row_but (row_but C.sn O (fun b m _ h => hno _ (by decide) b m h)) O5 (fun b m _ h => no5 _ (by decide) b m h), ?_, (C.np.but O (fun b m _ h => hno _ (by decide) b m h)).but O5 (fun b m _ h => no5 _ (by decide) b m h), ?_, C.ne⟩
 ·exact rangeAt_set (O.range C.row C.blk.lt (hno _ (by decide) _ _ C.blk)) 4 (by show 4 < 5; omega) r2
 ·have h := row_but hown O5 (fun b m _ h => no5 _ (by decide) b m h)
  have e1 : (A.vers ++ [V]).length = A.vers.length + 1 := by simp
  have e2 : cellsOf ptrC (qs ++ [⟨fb, 0, none⟩]) = cellsOf ptrC qs ++ [.pointer (some ⟨fb, 0, none⟩)] := by rw [cellsOf_snoc]; rfl
  show World.ownsRow _ _ _ _ _ (A.vers ++ [V]).length _
  rw [e1, e2]
  exact h
 ·have hf := hno _ (by decide) _ _ hB
  have hB4 := hB.but O hf
  have hf5 := no5 _ (by decide) _ _ hB4
  exact ((C.vp.but O (fun b m _ h => hno _ (by decide) b m h)).but O5 (fun b m _ h => no5 _ (by decide) b m h)).snoc (f := vrC) (sz := 5) (fun _ => rfl) V fb hb (hB4.but O5 hf5) (O5.range (O.range R hB.lt hf) hB4.lt hf5) hn
theorem infoPV : (Tryz.prog.info? 119).map (fun i => (i.zero, i.size, i.bytes)) = some (some (.pointer none), 1, 8) := by kernel_rfl
set_option maxRecDepth 100000 in
set_option maxHeartbeats 4000000 in
theorem cellsSwap_any (base : Nat) (cb : Nat) (s g n r : Value) (ps qs : List Addr) (A : Ar) (x y z u node : Int) (V : Vr) (eN eF eU : Addr) (w : World) (hbase : base ≤ w.heap.size) (hA : A.size ≤ 1048576) (C : OwnCells base w cb s g n r ps qs A) (hn0 : 0 ≤ node) (hn1 : node < (A.nodes.length : Int)) (hr0 : 0 < A.vers.length) (E : Errs base w eN eF eU) :
  Calls Tryz.prog 91 #[.pointer (some ⟨cb, 0, none⟩), .agg #[.int .i64 x, .int .i64 y, .int .i64 z, .int .i64 u], .int .i64 node, .agg (vrC V).toArray] w fun e w' => ∃ r' qs', e = .returned (.tuple #[.int .i64 (swapN A (swapC z A node V)), errV eN eF eU (swapC z A node V)]) ∧ OwnCells base w' cb s g n r' ps qs' (swapA A node V (swapC z A node V)) ∧ Below base w w' ∧ But (swapS w cb) w w' := by
 have hA' := hA
 unfold Ar.size at hA
 have P0 := World.rangeAt_alloc (rangeAt_new w [.int .i64 x, .int .i64 y, .int .i64 z, .int .i64 u] 43) (.cells (vrC V).toArray 83)
 have V0 := rangeAt_new (w.alloc (.cells #[.int .i64 x, .int .i64 y, .int .i64 z, .int .i64 u] 43)) (vrC V) 83
 have B0 := Blk.new (w.alloc (.cells #[.int .i64 x, .int .i64 y, .int .i64 z, .int .i64 u] 43)) (vrC V).toArray 83
 have K0 := ((Below.refl w.heap.size w).alloc (Nat.le_refl _) (.cells #[.int .i64 x, .int .i64 y, .int .i64 z, .int .i64 u] 43)).alloc (by simp) (.cells (vrC V).toArray 83)
 have C0 := C.grown K0
 have E0 := E.below (K0.mono hbase)
 have hz0 : w.heap.size + 1 < ((w.alloc (.cells #[.int .i64 x, .int .i64 y, .int .i64 z, .int .i64 u] 43)).alloc (.cells (vrC V).toArray 83)).heap.size := by simp
 simp only [World.size_alloc] at V0 B0
 replace B0 : Blk ((w.alloc (.cells #[.int .i64 x, .int .i64 y, .int .i64 z, .int .i64 u] 43)).alloc (.cells (vrC V).toArray 83)) (w.heap.size + 1) 83 5 := B0
 obtain ⟨ra, rc, rfl⟩ := own_is C.sr
 obtain ⟨rb, rfl, hrbB, -, -, -⟩ := row_blk C.sr hr0
 obtain ⟨na, nc, rfl⟩ := own_is C.sn
 obtain ⟨nb, rfl, hnbB, -, -, -⟩ := row_blk C.sn (by omega)
 obtain ⟨nk, hnk⟩ : ∃ k : Nat, node = k := ⟨node.toNat, by omega⟩
 subst hnk
 have hnl : nk < A.nodes.length := by omega
 have hnd : ndOf A (nk : Int) = A.nodes[nk] := ndOf_nat A nk hnl
 go_enter Tryz.func91, Tryz.ntmps91
 go_upto_region 1 with fail
 generalize hw0 : (w.alloc (.cells #[.int .i64 x, .int .i64 y, .int .i64 z, .int .i64 u] 43)).alloc (.cells (vrC V).toArray 83) = w0 at *
 clear hw0
 obtain ⟨_, e9, -, -, -, RN⟩ := row_blk C0.sn (by omega)
 cases e9
 obtain ⟨vb, vo, vm, p1, plo, p3, pfit, p5⟩ := C0.np.at' nk hnl
 have hpc : w0.cell? ⟨nb, nk, none⟩ = some (.pointer (some ⟨vb, vo, none⟩)) := by
  have hkp : nk < ps.length := by rw [C0.np.len]; exact hnl
  have h1 := (rangeAt_elem (sz := 1) (f := ptrC) (fun _ => rfl) RN nk hkp) 0 (.pointer (some ps[nk])) rfl
  have p1' := p1
  rw [List.getElem?_eq_getElem hkp] at p1'
  rw [Option.some.inj p1'] at h1
  simpa using h1
 obtain ⟨x0, x1, x2, x3, x4⟩ := row5 C0.row
 have p2 : w0.cell? ⟨w.heap.size, 2, none⟩ = some (.int .i64 z) := by simpa using P0 2 (.int .i64 z) rfl
 have hnk0 : (0 : Int) ≤ (nk : Int) := by omega
 have hnk1 : (nk : Int) < (A.nodes.length : Int) := by omega
 have q2 : w0.cell? ⟨vb, vo + 2, none⟩ = some (.int .i64 A.nodes[nk].head) := p5 2 _ rfl
 have v3 : w0.cell? ⟨w.heap.size + 1, 3, none⟩ = some (.int .i64 V.prev) := by simpa using V0 3 (.int .i64 V.prev) rfl
 clear RN
 have hndH : Hid (ndOf A (nk : Int) = A.nodes[nk]) := hnd
 clear hnd
 go_quiet (fail)
 have E1 : Errs base (w0.drewN nq) eN eF eU := E0.below ⟨rfl, rfl, rfl, Nat.le_refl _, fun _ _ => rfl⟩
 have C1 : OwnCells base (w0.drewN nq) cb s g (.slice (some ⟨nb, 0, none⟩) A.nodes.length nc) (.slice (some ⟨rb, 0, none⟩) A.vers.length rc) ps qs A := C0.grown ⟨rfl, rfl, rfl, Nat.le_refl _, fun _ _ => rfl⟩
 have K1 : Below w.heap.size w (w0.drewN nq) := ⟨K0.os, K0.tape, K0.output, K0.size, K0.block⟩
 have V1 : (w0.drewN nq).rangeAt (w.heap.size + 1) 0 (vrC V) := V0
 have B1 : Blk (w0.drewN nq) (w.heap.size + 1) 83 5 := B0
 have y2 : (w0.drewN nq).cell? ⟨w.heap.size, 2, none⟩ = some (.int .i64 z) := p2
 have y3 : (w0.drewN nq).cell? ⟨w.heap.size + 1, 3, none⟩ = some (.int .i64 V.prev) := v3
 have z2 : (w0.drewN nq).cell? ⟨vb, vo + 2, none⟩ = some (.int .i64 A.nodes[nk].head) := q2
 have zB : Blk (w0.drewN nq) vb 86 vm := p3
 have t0 : (w0.drewN nq).cell? ⟨cb, 0, none⟩ = some (.int .i64 A.camera) := x0
 have t3 : (w0.drewN nq).cell? ⟨cb, 3, none⟩ = some (.slice (some ⟨nb, 0, none⟩) A.nodes.length nc) := x3
 have t4 : (w0.drewN nq).cell? ⟨cb, 4, none⟩ = some (.slice (some ⟨rb, 0, none⟩) A.vers.length rc) := x4
 have hz1 : w.heap.size + 1 < (w0.drewN nq).heap.size := hz0
 generalize hw1 : w0.drewN nq = w1 at *
 clear hw1 P0 V0 B0 K0 C0 E0 hz0 x0 x1 x2 x3 x4 p2 q2 v3 hpc p3 p5 E
 have hgN := E1.gN
 have hgF := E1.gF
 have hgU := E1.gU
 have BK : But (swapS w cb) w w1 := But.of_below K1
 have KB : Below base w w1 := K1.mono hbase
 by_cases hfull : z ≤ (A.vers.length : Int)
 case pos =>
  have hv : Hid (swapC z A (nk : Int) V = 0) := by show _ = _; simp [swapC, hfull]
  clear hgF hgU y3 z2 t0 t3 t4
  go_wp2_with fail
  go_quiet (fail)
  go_wp2
  go_ret2
  rw [hv.out]
  exact ⟨_, qs, rfl, C1.grown ⟨rfl, rfl, rfl, Nat.le_refl _, fun _ _ => rfl⟩, ⟨KB.os, KB.tape, KB.output, KB.size, KB.block⟩, ⟨BK.os, BK.tape, BK.output, BK.size, BK.block⟩⟩
 by_cases hh : A.nodes[nk].head = V.prev
 case neg =>
  have bh' : (A.nodes[nk].head != V.prev) = true := by simp [hh]
  have hv : Hid (swapC z A (nk : Int) V = 1) := by show _ = _; simp [swapC, hfull, hndH.out, hh]
  clear hgN hgU t0 t3 t4
  go_wp2_with fail
  go_quiet (fail)
  go_wp2_with fail
  go_quiet (fail)
  go_wp2
  go_ret2
  rw [hv.out]
  exact ⟨_, qs, rfl, C1.grown ⟨rfl, rfl, rfl, Nat.le_refl _, fun _ _ => rfl⟩, ⟨KB.os, KB.tape, KB.output, KB.size, KB.block⟩, ⟨BK.os, BK.tape, BK.output, BK.size, BK.block⟩⟩
 have bh' : (A.nodes[nk].head != V.prev) = false := by simp [hh]
 have hhH : Hid (A.nodes[nk].head = V.prev) := hh
 have hfullH : Hid (¬ z ≤ (A.vers.length : Int)) := hfull
 have hfull' : decide (z ≤ (A.vers.length : Int)) = false := by simp [hfull]
 clear hh hgN hgF
 go_wp2_with fail
 go_quiet (fail)
 have E2 : Errs base (w1.drewN nq) eN eF eU := E1.below ⟨rfl, rfl, rfl, Nat.le_refl _, fun _ _ => rfl⟩
 have C2 : OwnCells base (w1.drewN nq) cb s g (.slice (some ⟨nb, 0, none⟩) A.nodes.length nc) (.slice (some ⟨rb, 0, none⟩) A.vers.length rc) ps qs A := C1.grown ⟨rfl, rfl, rfl, Nat.le_refl _, fun _ _ => rfl⟩
 have K2 : Below w.heap.size w (w1.drewN nq) := ⟨K1.os, K1.tape, K1.output, K1.size, K1.block⟩
 have V2 : (w1.drewN nq).rangeAt (w.heap.size + 1) 0 (vrC V) := V1
 have B2 : Blk (w1.drewN nq) (w.heap.size + 1) 83 5 := B1
 have s0 : (w1.drewN nq).cell? ⟨cb, 0, none⟩ = some (.int .i64 A.camera) := t0
 have s3 : (w1.drewN nq).cell? ⟨cb, 3, none⟩ = some (.slice (some ⟨nb, 0, none⟩) A.nodes.length nc) := t3
 have hz2 : w.heap.size + 1 < (w1.drewN nq).heap.size := hz1
 generalize hw2 : w1.drewN nq = w2 at *
 clear hw2 V1 B1 K1 C1 E1 hz1 t0 t3 t4 y2 y3 z2 zB hgU BK KB
 go_wp2_with fail
 refine wp_region_split 10 (by kernel_rfl) (by kernel_rfl) ?_
 simp only [List.take_succ_cons, List.take_zero, List.drop_succ_cons, List.drop_zero]
 repeat (quiet_step (fail))
 refine wpQuiet_nil ?_
 rintro _ ⟨nr, rfl⟩
 have E3 : Errs base (w2.drewN nr) eN eF eU := E2.below ⟨rfl, rfl, rfl, Nat.le_refl _, fun _ _ => rfl⟩
 have C3 : OwnCells base (w2.drewN nr) cb s g (.slice (some ⟨nb, 0, none⟩) A.nodes.length nc) (.slice (some ⟨rb, 0, none⟩) A.vers.length rc) ps qs A := C2.grown ⟨rfl, rfl, rfl, Nat.le_refl _, fun _ _ => rfl⟩
 have K3 : Below w.heap.size w (w2.drewN nr) := ⟨K2.os, K2.tape, K2.output, K2.size, K2.block⟩
 have V3 : (w2.drewN nr).rangeAt (w.heap.size + 1) 0 (vrC V) := V2
 have B3 : Blk (w2.drewN nr) (w.heap.size + 1) 83 5 := B2
 have hz3 : w.heap.size + 1 < (w2.drewN nr).heap.size := hz2
 generalize hw3 : w2.drewN nr = w3 at *
 clear hw3 V2 B2 K2 C2 E2 hz2 s0 s3
 go_wp2_with fail
 refine (verRight_any (w.heap.size + 1) 0 V (A.vers.length : Int) A.camera A.nodes.length w3 (by omega) (by omega) (by omega) V3).mono ?_
 rintro e w' ⟨rfl, hw⟩
 obtain rfl := hw.symm
 have BK : But (swapS w cb) w w3 := But.of_below K3
 have KB : Below base w w3 := K3.mono hbase
 cases hvr : verR A.nodes.length A.camera (A.vers.length : Int) V
 case false =>
  have hv : Hid (swapC z A (nk : Int) V = 2) := by show _ = _; simp [swapC, hfullH.out, hndH.out, hhH.out, hvr]
  have hgU := E3.gU
  go_wp2_with fail
  go_quiet (fail)
  go_wp2
  go_ret2
  rw [hv.out]
  exact ⟨_, qs, rfl, C3.grown ⟨rfl, rfl, rfl, Nat.le_refl _, fun _ _ => rfl⟩, ⟨KB.os, KB.tape, KB.output, KB.size, KB.block⟩, ⟨BK.os, BK.tape, BK.output, BK.size, BK.block⟩⟩
 case true =>
  have hv : Hid (swapC z A (nk : Int) V = 3) := by show _ = _; simp [swapC, hfullH.out, hndH.out, hhH.out, hvr]
  obtain ⟨x0, x1, x2, x3, x4⟩ := row5 C3.row
  have T3 := C3.blk.there 4 1 (by omega)
  have f4 : w3.frozen? ⟨cb, 4, none⟩ = false := (T3 0 (by omega)).2
  obtain ⟨vb', vo', vm', p1', plo', p3', pfit', p5'⟩ := C3.np.at' nk hnl
  rw [p1] at p1'
  injection p1' with p1'
  injection p1' with p1' p1''
  subst p1' p1''
  have q2 : w3.cell? ⟨vb, vo + 2, none⟩ = some (.int .i64 A.nodes[nk].head) := p5' 2 _ rfl
  have f2 : w3.frozen? ⟨vb, vo + 2, none⟩ = false := (p3'.there (vo + 2) 1 (by omega) 0 (by omega)).2
  obtain ⟨i0, hi, hzr, hsz, hby⟩ := info_parts infoPV
  have OR := C3.sr.alloc (.cells #[.pointer (some ⟨w.heap.size + 1, 0, none⟩)] 119)
  have news := cell_one_new w3 (.pointer (some ⟨w.heap.size + 1, 0, none⟩)) 119
  have hbs : base ≤ w3.heap.size := Nat.le_trans hbase K3.size
  have al3 := (Below.refl w3.heap.size w3).alloc (Nat.le_refl _) (.cells #[.pointer (some ⟨w.heap.size + 1, 0, none⟩)] 119)
  go_wp2_with (at_builtin; refine wpList_append_own_at _ rfl _ _ 100 rfl base 119 i0 _ 1 8 Tryz.underlying100 hi hzr hsz hby rfl (by decide) _ _ _ rfl OR ⟨w3.heap.size, 0, none⟩ 1 1 [.pointer (some ⟨w.heap.size + 1, 0, none⟩)] rfl rfl ?n1 ?n2 ?n3 ?n4 ?n5 ?_)
  case n1 => exact news
  case n2 => intro u hu; simp at hu; subst hu; rfl
  case n3 => unfold maxLen; omega
  case n4 => omega
  case n5 => simp; omega
  intro r2 w4 hown hgrow _ hat
  obtain ⟨ra2, rc2, hr2⟩ := own_is hown
  subst hr2
  have O4 : But (fun q => Value.ownBlock (.slice (some ⟨rb, 0, none⟩) A.vers.length rc) = some q) w3 w4 := ⟨hgrow.os, hgrow.tape, hgrow.output, Nat.le_trans (by simp) hgrow.size, fun q hq hn => (hgrow.block q (by simp; omega) (fun e => hn e.symm)).trans (Below.heap_alloc _ _ _ hq)⟩
  have hfb : ∀ (i c o : Nat), qs[i]? = some ⟨c, o, none⟩ → c ≠ w.heap.size + 1 := fun i c o hi he => by
   have hil : i < A.vers.length := by
    rcases Nat.lt_or_ge i qs.length with h | h
    ·rw [← C.vp.len]; exact h
    ·rw [List.getElem?_eq_none h] at hi; cases hi
   obtain ⟨b', o', m', h1, _, h3, _, _⟩ := C.vp.at' i hil
   rw [hi] at h1
   injection h1 with h1
   injection h1 with h1 h1'
   have := h3.lt
   omega
  have C5 := C3.grow_v (.slice ra2 (A.vers.length + 1) rc2) (w.heap.size + 1) V hown O4 (by omega) B3 V3 hfb
  have C6 := C5.node nk hnl vb vo p1 2 (by omega) (.int .i64 (A.vers.length : Int)) { A.nodes[nk] with head := (A.vers.length : Int) } rfl
  obtain ⟨rm, -, hrB⟩ := own_blkAt C.sr (b := rb) rfl
  obtain ⟨vb1, vo1, vm1, g1, -, g3, -, -⟩ := C.np.at' nk hnl
  rw [p1] at g1
  injection g1 with g1
  injection g1 with g1 g1'
  subst g1 g1'
  have e1 : ¬ (vb = cb) := g3.ne C.blk (by decide)
  have e2 : ¬ (cb = vb) := fun h => e1 h.symm
  have er1 : ¬ (some rb = some cb) := fun h => hrB.ne C.blk (by decide) (Option.some.inj h)
  have er2 : ¬ (some rb = some vb) := fun h => hrB.ne g3 (by decide) (Option.some.inj h)
  have hcbl : cb < w3.heap.size := C3.blk.lt
  have hvbl : vb < w3.heap.size := p3'.lt
  have y4 : w4.cell? ⟨cb, 4, none⟩ = some (.slice (some ⟨rb, 0, none⟩) A.vers.length rc) := (O4.cell (p := ⟨cb, 4, none⟩) hcbl er1).trans x4
  have z4 : w4.frozen? ⟨cb, 4, none⟩ = false := (O4.frozen (p := ⟨cb, 4, none⟩) hcbl er1).trans f4
  have m2 : w4.cell? ⟨vb, vo + 2, none⟩ = some (.int .i64 A.nodes[nk].head) := (O4.cell (p := ⟨vb, vo + 2, none⟩) hvbl er2).trans q2
  have m2f : w4.frozen? ⟨vb, vo + 2, none⟩ = false := (O4.frozen (p := ⟨vb, vo + 2, none⟩) hvbl er2).trans f2
  have BF : But (fun q => q = rb ∨ q = cb ∨ q = vb) w ((w4.setCell ⟨cb, 4, none⟩ (.slice ra2 (A.vers.length + 1) rc2)).setCell ⟨vb, vo + 2, none⟩ (.int .i64 (A.vers.length : Int))) :=
   (But.of_below K3).trans ((O4.mono (fun q hq => Or.inl (Option.some.inj hq).symm)).trans ((But.of_only ((Only.refl cb w4).setCell (p := ⟨cb, 4, none⟩) (Or.inl rfl) _) (Or.inr (Or.inl rfl))).trans (But.of_only ((Only.refl vb _).setCell (p := ⟨vb, vo + 2, none⟩) (Or.inl rfl) _) (Or.inr (Or.inr rfl)))))
  have KF := BF.below (B := base) hbase (fun q hq => by
   rcases hq with rfl | rfl | rfl
   ·exact hrbB
   ·exact C.lo
   ·exact plo)
  have hsA : swapA A (nk : Int) V 3 = { A with vers := A.vers ++ [V], nodes := A.nodes.set nk { A.nodes[nk] with head := (A.vers.length : Int) } } := by simp [swapA, hndH.out]
  clear hown hgrow hat O4 x0 x1 x2 x3 x4 f4 q2 f2 OR news al3 hcbl hvbl er1 er2 BK KB E3 C3 C5 hfb p5' p3' V3 B3
  go_wp2_with fail
  go_ret2
  rw [hv.out]
  have OW : OwnCells base ((w4.setCell ⟨cb, 4, none⟩ (.slice ra2 (A.vers.length + 1) rc2)).setCell ⟨vb, vo + 2, none⟩ (.int .i64 (A.vers.length : Int))) cb s g (.slice (some ⟨nb, 0, none⟩) A.nodes.length nc) (.slice ra2 (A.vers.length + 1) rc2) ps (qs ++ [⟨w.heap.size + 1, 0, none⟩]) (swapA A (nk : Int) V 3) := by rw [hsA]; exact C6
  have BW : But (swapS w cb) w ((w4.setCell ⟨cb, 4, none⟩ (.slice ra2 (A.vers.length + 1) rc2)).setCell ⟨vb, vo + 2, none⟩ (.int .i64 (A.vers.length : Int))) := BF.mono (fun q hq => by
   rcases hq with rfl | rfl | rfl
   ·exact Or.inr (Or.inl ⟨_, hrB⟩)
   ·exact Or.inl rfl
   ·exact Or.inr (Or.inr ⟨_, g3⟩))
  exact ⟨rfl, ⟨_, _, OW⟩, KF, BW⟩
def swappedH (h : Hd) (made : Int) (c : Nat) (th : Int) : Hd := if c = 1 then turnH h 1 else if c = 3 then { h with ver := made, then_ := th, at_ := 3 } else restOf h 5 0 0
set_option maxRecDepth 100000 in
set_option maxHeartbeats 4000000 in
theorem swapped_any (base : Nat) (h : Hd) (made : Int) (c : Nat) (hc : c < 4) (th : Int) (eN eF eU : Addr) (w : World) (hbase : base ≤ w.heap.size) (E : Errs base w eN eF eU) :
  Calls Tryz.prog 92 #[.agg (hdC h).toArray, .int .i64 made, errV eN eF eU c, .int .i64 th] w fun e w' => e = .returned (.agg (hdC (swappedH h made c th)).toArray) ∧ Below w.heap.size w w' := by
 have H0 := World.rangeAt_alloc (rangeAt_new w (hdC h) 36) (.cells #[.int .i64 0, .int .i64 0, .int .i64 0, .int .i64 0, .int .i64 0, .int .i64 0, .int .i64 0, .int .i64 0, .int .i64 0, .int .i64 0, .int .i64 0, .int .i64 0, .int .i64 0, .int .i64 0, .int .i64 0, .int .i64 0, .int .i64 0, .int .i64 0, .int .i64 0, .int .i64 0, .int .i64 0, .int .i64 0] 36)
 have G0 := World.there_alloc (there_new w (hdC h).toArray 36 22 (by simp [hdC])) (.cells #[.int .i64 0, .int .i64 0, .int .i64 0, .int .i64 0, .int .i64 0, .int .i64 0, .int .i64 0, .int .i64 0, .int .i64 0, .int .i64 0, .int .i64 0, .int .i64 0, .int .i64 0, .int .i64 0, .int .i64 0, .int .i64 0, .int .i64 0, .int .i64 0, .int .i64 0, .int .i64 0, .int .i64 0, .int .i64 0] 36)
 have F0 := there_new (w.alloc (.cells (hdC h).toArray 36)) #[.int .i64 0, .int .i64 0, .int .i64 0, .int .i64 0, .int .i64 0, .int .i64 0, .int .i64 0, .int .i64 0, .int .i64 0, .int .i64 0, .int .i64 0, .int .i64 0, .int .i64 0, .int .i64 0, .int .i64 0, .int .i64 0, .int .i64 0, .int .i64 0, .int .i64 0, .int .i64 0, .int .i64 0, .int .i64 0] 36 22 (by decide)
 have K0 := ((Below.refl w.heap.size w).alloc (Nat.le_refl _) (.cells (hdC h).toArray 36)).alloc (by simp) (.cells #[.int .i64 0, .int .i64 0, .int .i64 0, .int .i64 0, .int .i64 0, .int .i64 0, .int .i64 0, .int .i64 0, .int .i64 0, .int .i64 0, .int .i64 0, .int .i64 0, .int .i64 0, .int .i64 0, .int .i64 0, .int .i64 0, .int .i64 0, .int .i64 0, .int .i64 0, .int .i64 0, .int .i64 0, .int .i64 0] 36)
 have hz0 : w.heap.size + 1 < ((w.alloc (.cells (hdC h).toArray 36)).alloc (.cells #[.int .i64 0, .int .i64 0, .int .i64 0, .int .i64 0, .int .i64 0, .int .i64 0, .int .i64 0, .int .i64 0, .int .i64 0, .int .i64 0, .int .i64 0, .int .i64 0, .int .i64 0, .int .i64 0, .int .i64 0, .int .i64 0, .int .i64 0, .int .i64 0, .int .i64 0, .int .i64 0, .int .i64 0, .int .i64 0] 36)).heap.size := by simp
 simp only [World.size_alloc] at F0
 have hc4 : c = 0 ∨ c = 1 ∨ c = 2 ∨ c = 3 := by omega
 rcases hc4 with rfl | rfl | rfl | rfl
 ·show Calls Tryz.prog 92 #[.agg (hdC h).toArray, .int .i64 made, .iface 130 (.agg #[.iface 147 (.pointer (some eN))]), .int .i64 th] w _
  go_enter Tryz.func92, Tryz.ntmps92
  go_upto_region 1 with fail
  generalize hw0 : (w.alloc (.cells (hdC h).toArray 36)).alloc (.cells #[.int .i64 0, .int .i64 0, .int .i64 0, .int .i64 0, .int .i64 0, .int .i64 0, .int .i64 0, .int .i64 0, .int .i64 0, .int .i64 0, .int .i64 0, .int .i64 0, .int .i64 0, .int .i64 0, .int .i64 0, .int .i64 0, .int .i64 0, .int .i64 0, .int .i64 0, .int .i64 0, .int .i64 0, .int .i64 0] 36) = w0 at *
  clear hw0
  have E0 := E.below (K0.mono hbase)
  have hgF := E0.gF
  go_wp2_with (first | (go_at_call 103; refine (isFaster_any 0 (by decide) _ E0).mono ?_; rintro e w1 ⟨rfl, b1⟩; have H1 := rangeAt_below H0 b1 (by omega); have F1 := there_below F0 b1 (by omega); have G1 := there_below G0 b1 (by omega); have K1 := K0.trans (b1.mono (by omega)); have hz1 := Nat.lt_of_lt_of_le hz0 b1.size) | (refine wpList_load_mid rfl 36 (.tmp 4) rfl w.heap.size 0 ?lx10 (hdC h) _ ?lc10 Tryz.underlying36 rfl (sizeHandL _) ?_))
  try (case lx10 => rfl)
  try (case lc10 => exact H1)
  refine (resting_any h 5 0 0 _).mono ?_
  rintro e w10 ⟨rfl, b10⟩
  have F10 := there_below F1 b10 (by omega)
  have K10 := K1.trans (b10.mono (by omega))
  go_wp2_with (refine wpList_store_mid rfl 36 (.tmp 8) _ rfl (w.heap.size + 1) 0 (hdC (restOf h 5 0 0)).toArray ?hx10 ?hy10 ?ht10 (sizeHand _) (oneHand _) ?_)
  try (case hx10 => rfl)
  try (case hy10 => rfl)
  case ht10 => exact F10
  refine bodyPost_ret (v := .agg (hdC (restOf h 5 0 0)).toArray) ?_ rfl ⟨rfl, Below.setCells (by omega) _ _ _ K10⟩
  exact results_row Tryz.results92 _ _ (w.heap.size + 1) 0 rfl (hdC (restOf h 5 0 0)) _ (World.rangeAt_setCells_same _ _ _ _ F10) Tryz.underlying36 rfl (sizeHandL _)
 ·show Calls Tryz.prog 92 #[.agg (hdC h).toArray, .int .i64 made, .iface 130 (.agg #[.iface 147 (.pointer (some eF))]), .int .i64 th] w _
  go_enter Tryz.func92, Tryz.ntmps92
  go_upto_region 1 with fail
  generalize hw0 : (w.alloc (.cells (hdC h).toArray 36)).alloc (.cells #[.int .i64 0, .int .i64 0, .int .i64 0, .int .i64 0, .int .i64 0, .int .i64 0, .int .i64 0, .int .i64 0, .int .i64 0, .int .i64 0, .int .i64 0, .int .i64 0, .int .i64 0, .int .i64 0, .int .i64 0, .int .i64 0, .int .i64 0, .int .i64 0, .int .i64 0, .int .i64 0, .int .i64 0, .int .i64 0] 36) = w0 at *
  clear hw0
  have E0 := E.below (K0.mono hbase)
  have hgF := E0.gF
  go_wp2_with (first | (go_at_call 103; refine (isFaster_any 1 (by decide) _ E0).mono ?_; rintro e w1 ⟨rfl, b1⟩; have H1 := rangeAt_below H0 b1 (by omega); have F1 := there_below F0 b1 (by omega); have G1 := there_below G0 b1 (by omega); have K1 := K0.trans (b1.mono (by omega)); have hz1 := Nat.lt_of_lt_of_le hz0 b1.size) | (refine wpList_load_mid rfl 36 (.tmp 4) rfl w.heap.size 0 ?lx20 (hdC h) _ ?lc20 Tryz.underlying36 rfl (sizeHandL _) ?_))
  try (case lx20 => rfl)
  try (case lc20 => exact H1)
  refine (turnedTo_any h 1 _).mono ?_
  rintro e w20 ⟨rfl, b20⟩
  have F20 := there_below F1 b20 (by omega)
  have K20 := K1.trans (b20.mono (by omega))
  go_wp2_with (refine wpList_store_mid rfl 36 (.tmp 8) _ rfl (w.heap.size + 1) 0 (hdC (turnH h 1)).toArray ?hx20 ?hy20 ?ht20 (sizeHand _) (oneHand _) ?_)
  try (case hx20 => rfl)
  try (case hy20 => rfl)
  case ht20 => exact F20
  refine bodyPost_ret (v := .agg (hdC (turnH h 1)).toArray) ?_ rfl ⟨rfl, Below.setCells (by omega) _ _ _ K20⟩
  exact results_row Tryz.results92 _ _ (w.heap.size + 1) 0 rfl (hdC (turnH h 1)) _ (World.rangeAt_setCells_same _ _ _ _ F20) Tryz.underlying36 rfl (sizeHandL _)
 ·show Calls Tryz.prog 92 #[.agg (hdC h).toArray, .int .i64 made, .iface 130 (.agg #[.iface 147 (.pointer (some eU))]), .int .i64 th] w _
  go_enter Tryz.func92, Tryz.ntmps92
  go_upto_region 1 with fail
  generalize hw0 : (w.alloc (.cells (hdC h).toArray 36)).alloc (.cells #[.int .i64 0, .int .i64 0, .int .i64 0, .int .i64 0, .int .i64 0, .int .i64 0, .int .i64 0, .int .i64 0, .int .i64 0, .int .i64 0, .int .i64 0, .int .i64 0, .int .i64 0, .int .i64 0, .int .i64 0, .int .i64 0, .int .i64 0, .int .i64 0, .int .i64 0, .int .i64 0, .int .i64 0, .int .i64 0] 36) = w0 at *
  clear hw0
  have E0 := E.below (K0.mono hbase)
  have hgF := E0.gF
  go_wp2_with (first | (go_at_call 103; refine (isFaster_any 2 (by decide) _ E0).mono ?_; rintro e w1 ⟨rfl, b1⟩; have H1 := rangeAt_below H0 b1 (by omega); have F1 := there_below F0 b1 (by omega); have G1 := there_below G0 b1 (by omega); have K1 := K0.trans (b1.mono (by omega)); have hz1 := Nat.lt_of_lt_of_le hz0 b1.size) | (refine wpList_load_mid rfl 36 (.tmp 4) rfl w.heap.size 0 ?lx30 (hdC h) _ ?lc30 Tryz.underlying36 rfl (sizeHandL _) ?_))
  try (case lx30 => rfl)
  try (case lc30 => exact H1)
  refine (resting_any h 5 0 0 _).mono ?_
  rintro e w30 ⟨rfl, b30⟩
  have F30 := there_below F1 b30 (by omega)
  have K30 := K1.trans (b30.mono (by omega))
  go_wp2_with (refine wpList_store_mid rfl 36 (.tmp 8) _ rfl (w.heap.size + 1) 0 (hdC (restOf h 5 0 0)).toArray ?hx30 ?hy30 ?ht30 (sizeHand _) (oneHand _) ?_)
  try (case hx30 => rfl)
  try (case hy30 => rfl)
  case ht30 => exact F30
  refine bodyPost_ret (v := .agg (hdC (restOf h 5 0 0)).toArray) ?_ rfl ⟨rfl, Below.setCells (by omega) _ _ _ K30⟩
  exact results_row Tryz.results92 _ _ (w.heap.size + 1) 0 rfl (hdC (restOf h 5 0 0)) _ (World.rangeAt_setCells_same _ _ _ _ F30) Tryz.underlying36 rfl (sizeHandL _)
 ·show Calls Tryz.prog 92 #[.agg (hdC h).toArray, .int .i64 made, .nilIface, .int .i64 th] w _
  go_enter Tryz.func92, Tryz.ntmps92
  go_upto_region 1 with fail
  generalize hw0 : (w.alloc (.cells (hdC h).toArray 36)).alloc (.cells #[.int .i64 0, .int .i64 0, .int .i64 0, .int .i64 0, .int .i64 0, .int .i64 0, .int .i64 0, .int .i64 0, .int .i64 0, .int .i64 0, .int .i64 0, .int .i64 0, .int .i64 0, .int .i64 0, .int .i64 0, .int .i64 0, .int .i64 0, .int .i64 0, .int .i64 0, .int .i64 0, .int .i64 0, .int .i64 0] 36) = w0 at *
  clear hw0
  have E0 := E.below (K0.mono hbase)
  have hgF := E0.gF
  go_upto_region 5 with (go_at_call 103; refine (isFaster_any 3 (by decide) _ E0).mono ?_; rintro e w1 ⟨rfl, b1⟩; have H1 := rangeAt_below H0 b1 (by omega); have F1 := there_below F0 b1 (by omega); have G1 := there_below G0 b1 (by omega); have K1 := K0.trans (b1.mono (by omega)); have hz1 := Nat.lt_of_lt_of_le hz0 b1.size)
  have f11 : w1.frozen? ⟨w.heap.size, 11, none⟩ = false := by simpa using (G1 11 (by omega)).2
  have f1 : w1.frozen? ⟨w.heap.size, 1, none⟩ = false := by simpa using (G1 1 (by omega)).2
  have c11 : w1.cell? ⟨w.heap.size, 11, none⟩ = some (.int .i64 h.ver) := by simpa using H1 11 (.int .i64 h.ver) rfl
  have c1 : w1.cell? ⟨w.heap.size, 1, none⟩ = some (.int .i64 h.then_) := by simpa using H1 1 (.int .i64 h.then_) rfl
  have H2 : ((w1.setCell ⟨w.heap.size, 11, none⟩ (.int .i64 made)).setCell ⟨w.heap.size, 1, none⟩ (.int .i64 th)).rangeAt w.heap.size 0 (hdC { h with ver := made, then_ := th }) := rangeAt_set (rangeAt_set H1 11 (by show _ < 22; omega) (.int .i64 made)) 1 (by show _ < 22; omega) (.int .i64 th)
  have F2 : ((w1.setCell ⟨w.heap.size, 11, none⟩ (.int .i64 made)).setCell ⟨w.heap.size, 1, none⟩ (.int .i64 th)).there (w.heap.size + 1) 0 22 := there_setCell (there_setCell F1 _ _) _ _
  replace K1 : Below w.heap.size w ((w1.setCell ⟨w.heap.size, 11, none⟩ (.int .i64 made)).setCell ⟨w.heap.size, 1, none⟩ (.int .i64 th)) := Below.setCell (Below.setCell K1 (p := ⟨w.heap.size, 11, none⟩) (Nat.le_refl _) _) (p := ⟨w.heap.size, 1, none⟩) (Nat.le_refl _) _
  have hz2 : w.heap.size + 1 < ((w1.setCell ⟨w.heap.size, 11, none⟩ (.int .i64 made)).setCell ⟨w.heap.size, 1, none⟩ (.int .i64 th)).heap.size := by simpa using hz1
  clear F1 H1 G1
  go_upto_region 6 with fail
  generalize (w1.setCell ⟨w.heap.size, 11, none⟩ (.int .i64 made)).setCell ⟨w.heap.size, 1, none⟩ (.int .i64 th) = w2 at *
  clear f11 f1 c11 c1
  go_wp2_with (refine wpList_load_mid rfl 36 (.tmp 4) rfl w.heap.size 0 ?lx40 (hdC { h with ver := made, then_ := th }) _ ?lc40 Tryz.underlying36 rfl (sizeHandL _) ?_)
  try (case lx40 => rfl)
  try (case lc40 => exact H2)
  refine (turnedTo_any { h with ver := made, then_ := th } 3 _).mono ?_
  rintro e w40 ⟨rfl, b40⟩
  have F40 := there_below F2 b40 (by omega)
  have K40 := K1.trans (b40.mono (by omega))
  go_wp2_with (refine wpList_store_mid rfl 36 (.tmp 8) _ rfl (w.heap.size + 1) 0 (hdC (turnH { h with ver := made, then_ := th } 3)).toArray ?hx40 ?hy40 ?ht40 (sizeHand _) (oneHand _) ?_)
  try (case hx40 => rfl)
  try (case hy40 => rfl)
  case ht40 => exact F40
  refine bodyPost_ret (v := .agg (hdC (turnH { h with ver := made, then_ := th } 3)).toArray) ?_ rfl ⟨rfl, Below.setCells (by omega) _ _ _ K40⟩
  exact results_row Tryz.results92 _ _ (w.heap.size + 1) 0 rfl (hdC (turnH { h with ver := made, then_ := th } 3)) _ (World.rangeAt_setCells_same _ _ _ _ F40) Tryz.underlying36 rfl (sizeHandL _)
end
section
theorem PlanAt.under {W w1 : World} {b C : Nat} {x y z u : Int} (h : PlanAt W b x y z u) (hb : Below C W w1) (hlt : b < C) : PlanAt w1 b x y z u :=
 ⟨(hb.cell (p := ⟨b, 0, none⟩) hlt).trans h.1, (hb.cell (p := ⟨b, 1, none⟩) hlt).trans h.2.1, (hb.cell (p := ⟨b, 2, none⟩) hlt).trans h.2.2.1, (hb.cell (p := ⟨b, 3, none⟩) hlt).trans h.2.2.2⟩
theorem But.far {S : Nat → Prop} {b : Nat} {w0 w w' : World} (h : But S w0 w) (k : Only b w w') (hb : w0.heap.size ≤ b) : But S w0 w' :=
 ⟨k.os.trans h.os, k.tape.trans h.tape, k.output.trans h.output, Nat.le_trans h.size k.size, fun q hq hn => (k.block q (Nat.lt_of_lt_of_le hq h.size) (by omega)).trans (h.block q hq hn)⟩
structure Stp (base : Nat) (w0 w : World) (b bo : Nat) (s0 g0 n0 r0 s g n r : Value) (A : Ar) (D : List Value) : Prop where
 row : w.rangeAt b 0 D
 th : w.there b 0 33
 to : w.there bo 0 33
 lo : w0.heap.size ≤ b
 lt : b < bo
 hi : bo < w.heap.size
 own : OwnAr base w s g n r A
 but : But (OwnB s0 g0 n0 r0) w0 w
 blk : ∀ q, OwnB s g n r q → OwnB s0 g0 n0 r0 q ∨ w0.heap.size ≤ q
 ne : ∀ q, OwnB s g n r q → q ≠ b ∧ q ≠ bo
section
variable {base : Nat} {w0 w w' : World} {b bo : Nat} {s0 g0 n0 r0 s g n r : Value} {A : Ar} {D : List Value}
theorem Stp.below (S : Stp base w0 w b bo s0 g0 n0 r0 s g n r A D) (hb : Below w.heap.size w w') : Stp base w0 w' b bo s0 g0 n0 r0 s g n r A D :=
 ⟨rangeAt_below S.row hb (Nat.lt_trans S.lt S.hi), there_below S.th hb (Nat.lt_trans S.lt S.hi), there_below S.to hb S.hi, S.lo, S.lt, Nat.lt_of_lt_of_le S.hi hb.size, S.own.below hb, S.but.trans (But.of_below hb), S.blk, S.ne⟩
theorem Stp.at_b (S : Stp base w0 w b bo s0 g0 n0 r0 s g n r A D) (k : Only b w w') {D' : List Value} (row : w'.rangeAt b 0 D') (th : w'.there b 0 33) (to : w'.there bo 0 33) : Stp base w0 w' b bo s0 g0 n0 r0 s g n r A D' :=
 ⟨row, th, to, S.lo, S.lt, Nat.lt_of_lt_of_le S.hi k.size, S.own.kept (But.of_only (S := fun q => q = b) k rfl) (fun q hq => (S.ne q hq).1), S.but.far k S.lo, S.blk, S.ne⟩
theorem Stp.put (S : Stp base w0 w b bo s0 g0 n0 r0 s g n r A D) (k : Nat) (hk : k < D.length) (v : Value) : Stp base w0 (w.setCell ⟨b, k, none⟩ v) b bo s0 g0 n0 r0 s g n r A (D.set k v) :=
 S.at_b ((Only.refl b w).setCell (p := ⟨b, k, none⟩) (Or.inl rfl) v) (rangeAt_set S.row k hk v) (there_setCell S.th _ _) (there_setCell S.to _ _)
theorem Stp.puts (S : Stp base w0 w b bo s0 g0 n0 r0 s g n r A D) (p q t vs : List Value) (hD : D = p ++ (q ++ t)) (hl : vs.length = q.length) (h33 : D.length = 33) : Stp base w0 (w.setCells b p.length vs) b bo s0 g0 n0 r0 s g n r A (p ++ (vs ++ t)) := by
 subst hD
 have hp : p.length + q.length ≤ 33 := by simp only [List.length_append] at h33; omega
 have T := there_part S.th p.length q.length hp
 rw [Nat.zero_add, ← hl] at T
 refine S.at_b (only_setCells b vs p.length w) ?_ (World.there_setCells S.th _ _ _) (World.there_setCells S.to _ _ _)
 obtain ⟨R1, R2⟩ := rangeAt_app S.row
 obtain ⟨R3, R4⟩ := rangeAt_app R2
 rw [Nat.zero_add] at R2 R3 R4
 refine rangeAt_join (World.rangeAt_setCells_apart R1 _ _ _ (Or.inr (Or.inl (by simp)))) (rangeAt_join ?_ ?_)
 ·rw [Nat.zero_add]; exact World.rangeAt_setCells_same w b p.length vs T
 ·rw [Nat.zero_add, hl]; exact World.rangeAt_setCells_apart R4 _ _ _ (Or.inr (Or.inr (by rw [hl]; exact Nat.le_refl _)))
theorem Stp.hand {cam : Int} {h : Hd} {d : Dd} {tk : Bool} (S : Stp base w0 w b bo s0 g0 n0 r0 s g n r A (doneC cam s g n r h d tk)) (h' : Hd) : Stp base w0 (w.setCells b 5 (hdC h')) b bo s0 g0 n0 r0 s g n r A (doneC cam s g n r h' d tk) :=
 S.puts [.int .i64 cam, s, g, n, r] (hdC h) (ddC d ++ [.bool tk]) (hdC h') rfl rfl rfl
theorem Stp.swap {s' g' n' r' : Value} {A' : Ar} (S : Stp base w0 w b bo s0 g0 n0 r0 s g n r A D) (E : SwapEnd base w w' s g n r s' g' n' r' A') : Stp base w0 w' b bo s0 g0 n0 r0 s' g' n' r' A' D := by
 have hb := Nat.lt_trans S.lt S.hi
 have n1 : ¬ OwnB s g n r b := fun h => (S.ne b h).1 rfl
 have n2 : ¬ OwnB s g n r bo := fun h => (S.ne bo h).2 rfl
 refine ⟨E.but.range S.row hb n1, E.but.there S.th hb n1, E.but.there S.to S.hi n2, S.lo, S.lt, Nat.lt_of_lt_of_le S.hi E.but.size, E.own, ?_, ?_, ?_⟩
 ·refine ⟨E.but.os.trans S.but.os, E.but.tape.trans S.but.tape, E.but.output.trans S.but.output, Nat.le_trans S.but.size E.but.size, fun q hq hn => (E.but.block q (Nat.lt_of_lt_of_le hq S.but.size) (fun h => ?_)).trans (S.but.block q hq hn)⟩
  rcases S.blk q h with h1 | h1
  ·exact hn h1
  ·omega
 ·intro q h
  rcases E.blk q h with h1 | h1
  ·exact S.blk q h1
  ·exact Or.inr (Nat.le_trans S.but.size h1)
 ·intro q h
  have hi := S.hi
  have hlt := S.lt
  rcases E.blk q h with h1 | h1
  ·exact S.ne q h1
  ·omega
theorem Stp.arena {cam cam' : Int} {h : Hd} {d : Dd} {tk : Bool} {s1 g1 n1 r1 : Value} (S : Stp base w0 w b bo s0 g0 n0 r0 s g n r A (doneC cam s1 g1 n1 r1 h d tk)) : Stp base w0 (w.setCells b 0 [.int .i64 cam', s, g, n, r]) b bo s0 g0 n0 r0 s g n r A (doneC cam' s g n r h d tk) :=
 S.puts [] [.int .i64 cam, s1, g1, n1, r1] (hdC h ++ (ddC d ++ [.bool tk])) [.int .i64 cam', s, g, n, r] rfl rfl rfl
theorem Stp.fin (S : Stp base w0 w b bo s0 g0 n0 r0 s g n r A D) : SwapEnd base w0 (w.setCells bo 0 D) s0 g0 n0 r0 s g n r A :=
 ⟨S.own.kept (But.of_only (S := fun q => q = bo) (only_setCells bo D 0 w) rfl) (fun q hq => (S.ne q hq).2), S.but.far (only_setCells bo D 0 w) (Nat.le_trans S.lo (Nat.le_of_lt S.lt)), S.blk⟩
theorem Stp.out (S : Stp base w0 w b bo s0 g0 n0 r0 s g n r A D) (h33 : D.length = 33) : (w.setCells bo 0 D).rangeAt bo 0 D :=
 World.rangeAt_setCells_same _ _ _ _ (by rw [h33]; exact S.to)
theorem Stp.is (S : Stp base w0 w b bo s0 g0 n0 r0 s g n r A D) : ArenaIs w.heap.size w s g n r A := S.own.is
theorem Stp.cell (S : Stp base w0 w b bo s0 g0 n0 r0 s g n r A D) (k : Nat) {v : Value} (h : D[k]? = some v) : w.cell? ⟨b, k, none⟩ = some v := by simpa using S.row k v h
theorem Stp.free (S : Stp base w0 w b bo s0 g0 n0 r0 s g n r A D) (k : Nat) (h : k < 33) : w.frozen? ⟨b, k, none⟩ = false := by simpa using (S.th k h).2
end
theorem Stp.from {base : Nat} {w w1 w2 : World} {b bo : Nat} {s0 g0 n0 r0 s g n r : Value} {A : Ar} {D : List Value} (S : Stp base w1 w2 b bo s0 g0 n0 r0 s g n r A D) (hb : Below w.heap.size w w1) : Stp base w w2 b bo s0 g0 n0 r0 s g n r A D :=
 ⟨S.row, S.th, S.to, Nat.le_trans hb.size S.lo, S.lt, S.hi, S.own, ⟨S.but.os.trans hb.os, S.but.tape.trans hb.tape, S.but.output.trans hb.output, Nat.le_trans hb.size S.but.size, fun q hq hn => (S.but.block q (Nat.lt_of_lt_of_le hq hb.size) hn).trans (hb.block q hq)⟩, fun q h => (S.blk q h).imp_right (Nat.le_trans hb.size), S.ne⟩
theorem stp_new (base : Nat) (w : World) (s g n r : Value) (A : Ar) (D Z : List Value) (T : TypeId) (O : OwnAr base w s g n r A) (hD : D.length = 33) (hZ : Z.length = 33) : Stp base w ((w.alloc (.cells D.toArray T)).alloc (.cells Z.toArray T)) w.heap.size (w.heap.size + 1) s g n r s g n r A D := by
 have K0 := ((Below.refl w.heap.size w).alloc (Nat.le_refl _) (.cells D.toArray T)).alloc (by simp) (.cells Z.toArray T)
 have F0 := there_new (w.alloc (.cells D.toArray T)) Z.toArray T 33 (by rw [List.size_toArray, hZ]; exact Nat.le_refl _)
 rw [World.size_alloc] at F0
 exact ⟨World.rangeAt_alloc (rangeAt_new w D T) _, World.there_alloc (there_new w D.toArray T 33 (by rw [List.size_toArray, hD]; exact Nat.le_refl _)) _, F0, Nat.le_refl _, Nat.lt_succ_self _, by simp, O.below K0, But.of_below K0, fun q h => Or.inl h, fun q h => by have := O.lt q h; omega⟩
theorem stp_new_plan (base : Nat) (w : World) (s g n r : Value) (A : Ar) (D Z : List Value) (T T0 : TypeId) (x y z u : Int) (O : OwnAr base w s g n r A) (hD : D.length = 33) (hZ : Z.length = 33) : Stp base w (((w.alloc (.cells #[.int .i64 x, .int .i64 y, .int .i64 z, .int .i64 u] T0)).alloc (.cells D.toArray T)).alloc (.cells Z.toArray T)) (w.heap.size + 1) (w.heap.size + 1 + 1) s g n r s g n r A D ∧ PlanAt (((w.alloc (.cells #[.int .i64 x, .int .i64 y, .int .i64 z, .int .i64 u] T0)).alloc (.cells D.toArray T)).alloc (.cells Z.toArray T)) w.heap.size x y z u := by
 have K0 := (Below.refl w.heap.size w).alloc (Nat.le_refl _) (.cells #[.int .i64 x, .int .i64 y, .int .i64 z, .int .i64 u] T0)
 have S := stp_new base (w.alloc (.cells #[.int .i64 x, .int .i64 y, .int .i64 z, .int .i64 u] T0)) s g n r A D Z T (O.below K0) hD hZ
 rw [World.size_alloc] at S
 refine ⟨S.from K0, ((planAt_alloc w x y z u T0).below ((Below.refl _ _).alloc (Nat.le_refl _) _) (by simp)).below ((Below.refl _ _).alloc (Nat.le_refl _) _) (by simp; omega)⟩
end
end Go.Proofs.YtlfjhcdjgoeafaaGreatDoor
