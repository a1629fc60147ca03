/-
  What the law's proof goes by, part 45.
-/
import Derived.Deep.Cut
import Derived.Deep.MidRow
import Derived.RangeFuncNested
import Derived.RangeFuncBound
import Derived.RangeFuncCalls
import Derived.RangeFuncLeaves
import Derived.RangeFuncFrom
import Derived.Shelf.Abstract
import Derived.Shelf.RegionOpen
import Derived.WalkKit
import Derived.OwnWalkIn
import Derived.TacticsInMore
import Derived.LoopNIn
import Derived.LoopIn
import Derived.Test.YthjkdnlmopafkaaGreatDoorFnSwappedCard00
import Derived.Test.YthjkdnlmopafkaaGreatDoorFnSwappedCard01
import Derived.Test.YthjkdnlmopafkaaGreatDoorFnSwappedCard02
import Derived.Test.YthjkdnlmopafkaaGreatDoorFnSwappedCard03
import Derived.Test.YthjkdnlmopafkaaGreatDoorFnSwappedCard04
import Derived.Test.YthjkdnlmopafkaaGreatDoorFnSwappedCard05
import Derived.Test.YthjkdnlmopafkaaGreatDoorFnSwappedCard06
import Derived.Test.YthjkdnlmopafkaaGreatDoorFnSwappedCard07
import Derived.Test.YthjkdnlmopafkaaGreatDoorFnSwappedCard08
import Derived.Test.YthjkdnlmopafkaaGreatDoorFnSwappedCard41
import Derived.Test.YthjkdnlmopafkaaGreatDoorFnSwappedCard42
import Derived.Test.YthjkdnlmopafkaaGreatDoorFnSwappedCard43
namespace Go.Proofs.YthjkdnlmopafkaaGreatDoor
open Go.ChangeShapes Go.WideShapes Go.ChangeAt Go.RowKit
set_option maxRecDepth 100000
set_option maxHeartbeats 16000000
set_option linter.unusedVariables false
set_option linter.unusedSimpArgs false
set_option linter.unnecessarySimpa false
set_option linter.unusedSectionVars false
section
attribute [local go_sem ↓] Go.wp_at_zero Go.wp_at_succ
def qz5a (z : Int) (A : Ar) (node : Int) (V : Vr) : Nat :=
 if z <= (Q6r : Int) then 0 else if (ndOf A node).head ≠ V.prev then 1 else if verR Q6q Q6w (Q6r : Int) V = false then 2 else 3
theorem qzg0 (z : Int) (A : Ar) (node : Int) (V : Vr) : qz5a z A node V < 4 := by
 unfold qz5a
 repeat' split
 all_goals decide
def qzar (A : Ar) (node : Int) (V : Vr) (c : Nat) : Ar := if c = 3 then { A with vers := A.vers ++ [V], nodes := A.nodes.set node.toNat { ndOf A node with head := (Q6r : Int) } } else A
def qzgk (A : Ar) (c : Nat) : Int := if c = 3 then (Q6r : Int) else -1
def qzh5 (w : World) (cb q : Nat) : Prop := q = cb ∨ (∃ m, Blk w q 135 m) ∨ ∃ m, Blk w q 42 m
theorem qz2c.grow_v {base : Nat} {w3 w4 : World} {cb : Nat} {s g n r : Value} {ps qs : List Addr} {A : Ar} (C : qz2c base w3 cb s g n r ps qs A) (r2 : Value) (fb : Nat) (V : Vr) (hown : w4.ownsRow base 135 1 r2 (Q6r + 1) (qz8 ptrC qs ++ [.pointer (some ⟨fb, 0, none⟩)])) (O : But (fun q => r.ownBlock = some q) w3 w4) (hb : base <= fb) (hB : Blk w3 fb 40 5) (R : w3.rangeAt fb 0 (vrC V)) (hn : ∀ (i c o : Nat), qs[i]? = some ⟨c, o, none⟩ -> c ≠ fb) :
  qz2c base (w4.setCell ⟨cb, 4, none⟩ r2) cb s g n r2 ps (qs ++ [⟨fb, 0, none⟩]) { A with vers := A.vers ++ [V] } := by
 have hno : ∀ (t : TypeId), t ≠ 135 -> ∀ b m, Blk w3 b t m -> ¬ r.ownBlock = some b := fun t ht b m hm he => by
  obtain ⟨m', -, hm'⟩ := qz4z C.sr he
  exact (hm.ne hm' ht) rfl
 have c4 : Blk w4 cb 131 5 := C.blk.but O (hno _ (by decide) _ _ C.blk)
 have O5 : But (fun q => q = cb) w4 (w4.setCell ⟨cb, 4, none⟩ r2) := But.of_only ((Only.refl cb w4).setCell (Or.inl rfl) _) rfl
 have no5 : ∀ (t : TypeId), t ≠ 131 -> ∀ b m, Blk w4 b t m -> ¬ b = cb := fun t ht b m hm he => (hm.ne c4 ht) he
 refine ⟨?_, c4.setCell _ _, C.lo, qz3h (qz3h C.ss O (fun b m _ h => hno _ (by decide) b m h)) O5 (fun b m _ h => no5 _ (by decide) b m h), qz3h (qz3h C.sg O (fun b m _ h => hno _ (by decide) b m h)) O5 (fun b m _ h => no5 _ (by decide) b m h), qz3h (qz3h C.sn O (fun b m _ h => hno _ (by decide) b m h)) O5 (fun b m _ h => no5 _ (by decide) b m h), ?_, (C.np.but O (fun b m _ h => hno _ (by decide) b m h)).but O5 (fun b m _ h => no5 _ (by decide) b m h), ?_, C.ne⟩
 ·exact qzb (O.range C.row C.blk.lt (hno _ (by decide) _ _ C.blk)) 4 (by show 4 < 5; omega) r2
 ·have h := qz3h hown O5 (fun b m _ h => no5 _ (by decide) b m h)
  have e1 : (A.vers ++ [V]).length = Q6r + 1 := by simp
  have e2 : qz8 ptrC (qs ++ [⟨fb, 0, none⟩]) = qz8 ptrC qs ++ [.pointer (some ⟨fb, 0, none⟩)] := by rw [qz1p]; rfl
  show World.ownsRow _ _ _ _ _ (A.vers ++ [V]).length _
  rw [e1, e2]
  exact h
 ·have hf := hno _ (by decide) _ _ hB
  have hB4 := hB.but O hf
  have hf5 := no5 _ (by decide) _ _ hB4
  exact ((C.vp.but O (fun b m _ h => hno _ (by decide) b m h)).but O5 (fun b m _ h => no5 _ (by decide) b m h)).snoc (f := vrC) (sz := 5) (fun _ => rfl) V fb hb (hB4.but O5 hf5) (O5.range (O.range R hB.lt hf) hB4.lt hf5) hn
theorem qzhd : (Tryz.prog.info? 135).map (fun i => (i.zero, i.size, i.bytes)) = some (some (.pointer none), 1, 8) := by kernel_rfl
theorem qz9w (base : Nat) (cb : Nat) (s g n r : Value) (ps qs : List Addr) (A : Ar) (x y z u node : Int) (V : Vr) (eN eF eU : Addr) (w : World) (hbase : base <= Q6o) (hA : A.size <= 1048576) (C : qz2c base w cb s g n r ps qs A) (hn0 : 0 <= node) (hn1 : node < (Q6q : Int)) (hr0 : 0 < Q6r) (E : Errs base w eN eF eU) :
  Calls Tryz.prog 34 #[.pointer (some ⟨cb, 0, none⟩), .agg Q06, .int .i64 node, .agg (vrC V).toArray] w fun e w' => ∃ r' qs', e = .returned (.tuple #[.int .i64 (qzgk A (qz5a z A node V)), errV eN eF eU (qz5a z A node V)]) /\ qz2c base w' cb s g n r' ps qs' (qzar A node V (qz5a z A node V)) /\ Below base w w' /\ But (qzh5 w cb) w w' := by
 have hA' := hA
 unfold Ar.size at hA
 have P0 := Q7b (qz6 w Q0n 25) (.cells (vrC V).toArray 40)
 have V0 := qz6 Q44 (vrC V) 40
 have B0 := Blk.new Q44 (vrC V).toArray 40
 have K0 := ((Q6s Q6o w).alloc (Q6v _) (.cells Q06 25)).alloc (by simp) (.cells (vrC V).toArray 40)
 have C0 := C.grown K0
 have E0 := E.below (K0.mono hbase)
 have hz0 : Q6o + 1 < ((Q44).alloc (.cells (vrC V).toArray 40)).heap.size := by simp
 simp only [World.size_alloc] at V0 B0
 replace B0 : Blk ((Q44).alloc (.cells (vrC V).toArray 40)) (Q6o + 1) 40 5 := B0
 obtain ⟨ra, rc, rfl⟩ := qzf C.sr
 obtain ⟨rb, rfl, hrbB, -, -, -⟩ := qzbe C.sr hr0
 obtain ⟨na, nc, rfl⟩ := qzf C.sn
 obtain ⟨nb, rfl, hnbB, -, -, -⟩ := qzbe C.sn (by omega)
 obtain ⟨nk, hnk⟩ : ∃ k : Nat, node = k := ⟨node.toNat, by omega⟩
 subst hnk
 have hnl : nk < Q6q := by omega
 have hnd : ndOf A (nk : Int) = A.nodes[nk] := qz1l A nk hnl
 go_enter Tryz.func34, Tryz.ntmps34
 go_upto_region 1 with fail
 generalize hw0 : (Q44).alloc (.cells (vrC V).toArray 40) = w0 at *
 clear hw0
 obtain ⟨_, e9, -, -, -, RN⟩ := qzbe C0.sn (by omega)
 cases e9
 obtain ⟨vb, vo, vm, p1, plo, p3, pfit, p5⟩ := C0.np.at' nk hnl
 have hpc : w0.cell? ⟨nb, nk, none⟩ = some (.pointer (some ⟨vb, vo, none⟩)) := by
  have hkp : nk < ps.length := by rw [C0.np.len]; exact hnl
  have h1 := (qzi (sz := 1) (f := ptrC) (fun _ => rfl) RN nk hkp) 0 (.pointer (some ps[nk])) rfl
  have p1' := p1
  rw [List.getElem?_eq_getElem hkp] at p1'
  rw [Option.some.inj p1'] at h1
  simpa using h1
 obtain ⟨x0, x1, x2, x3, x4⟩ := row5 C0.row
 have p2 : w0.cell? ⟨Q6o, 2, none⟩ = some (.int .i64 z) := by simpa using P0 2 (.int .i64 z) rfl
 have hnk0 : (0 : Int) <= (nk : Int) := by omega
 have hnk1 : (nk : Int) < (Q6q : Int) := by omega
 have q2 : w0.cell? ⟨vb, vo + 2, none⟩ = some (.int .i64 A.nodes[nk].head) := p5 2 _ rfl
 have v3 : w0.cell? ⟨Q6o + 1, 3, none⟩ = some (.int .i64 V.prev) := by simpa using V0 3 (.int .i64 V.prev) rfl
 clear RN
 have hndH : Hid (ndOf A (nk : Int) = A.nodes[nk]) := hnd
 clear hnd
 go_quiet (fail)
 have E1 : Errs base (w0.drewN nq) eN eF eU := E0.below ⟨rfl, rfl, rfl, Q6v _, fun _ _ => rfl⟩
 have C1 : qz2c base (w0.drewN nq) cb s g Q0b Q05 ps qs A := C0.grown ⟨rfl, rfl, rfl, Q6v _, fun _ _ => rfl⟩
 have K1 : Below Q6o w (w0.drewN nq) := ⟨K0.os, K0.tape, K0.output, K0.size, K0.block⟩
 have V1 : (w0.drewN nq).rangeAt (Q6o + 1) 0 (vrC V) := V0
 have B1 : Blk (w0.drewN nq) (Q6o + 1) 40 5 := B0
 have y2 : (w0.drewN nq).cell? ⟨Q6o, 2, none⟩ = some (.int .i64 z) := p2
 have y3 : (w0.drewN nq).cell? ⟨Q6o + 1, 3, none⟩ = some (.int .i64 V.prev) := v3
 have z2 : (w0.drewN nq).cell? ⟨vb, vo + 2, none⟩ = some (.int .i64 A.nodes[nk].head) := q2
 have zB : Blk (w0.drewN nq) vb 42 vm := p3
 have t0 : (w0.drewN nq).cell? ⟨cb, 0, none⟩ = some (.int .i64 Q6w) := x0
 have t3 : (w0.drewN nq).cell? ⟨cb, 3, none⟩ = some Q0b := x3
 have t4 : (w0.drewN nq).cell? ⟨cb, 4, none⟩ = some Q05 := x4
 have hz1 : Q6o + 1 < (w0.drewN nq).heap.size := hz0
 generalize hw1 : w0.drewN nq = w1 at *
 clear hw1 P0 V0 B0 K0 C0 E0 hz0 x0 x1 x2 x3 x4 p2 q2 v3 hpc p3 p5 E
 have hgN := E1.gN
 have hgF := E1.gF
 have hgU := E1.gU
 have BK : But (qzh5 w cb) w w1 := But.of_below K1
 have KB : Below base w w1 := K1.mono hbase
 by_cases hfull : z <= (Q6r : Int)
 case pos =>
  have hv : Hid (qz5a z A (nk : Int) V = 0) := by show _ = _; simp [qz5a, hfull]
  clear hgF hgU y3 z2 t0 t3 t4
  go_wp2_with fail
  go_quiet (fail)
  go_wp2
  go_ret2
  rw [hv.out]
  exact ⟨_, qs, rfl, C1.grown ⟨rfl, rfl, rfl, Q6v _, fun _ _ => rfl⟩, ⟨KB.os, KB.tape, KB.output, KB.size, KB.block⟩, ⟨BK.os, BK.tape, BK.output, BK.size, BK.block⟩⟩
 by_cases hh : A.nodes[nk].head = V.prev
 case neg =>
  have bh' : (A.nodes[nk].head != V.prev) = true := by simp [hh]
  have hv : Hid (qz5a z A (nk : Int) V = 1) := by show _ = _; simp [qz5a, hfull, hndH.out, hh]
  clear hgN hgU t0 t3 t4
  go_wp2_with fail
  go_quiet (fail)
  go_wp2_with fail
  go_quiet (fail)
  go_wp2
  go_ret2
  rw [hv.out]
  exact ⟨_, qs, rfl, C1.grown ⟨rfl, rfl, rfl, Q6v _, fun _ _ => rfl⟩, ⟨KB.os, KB.tape, KB.output, KB.size, KB.block⟩, ⟨BK.os, BK.tape, BK.output, BK.size, BK.block⟩⟩
 have bh' : (A.nodes[nk].head != V.prev) = false := by simp [hh]
 have hhH : Hid (A.nodes[nk].head = V.prev) := hh
 have hfullH : Hid (¬ z <= (Q6r : Int)) := hfull
 have hfull' : decide (z <= (Q6r : Int)) = false := by simp [hfull]
 clear hh hgN hgF
 go_wp2_with fail
 go_quiet (fail)
 have E2 : Errs base (w1.drewN nq) eN eF eU := E1.below ⟨rfl, rfl, rfl, Q6v _, fun _ _ => rfl⟩
 have C2 : qz2c base (w1.drewN nq) cb s g Q0b Q05 ps qs A := C1.grown ⟨rfl, rfl, rfl, Q6v _, fun _ _ => rfl⟩
 have K2 : Below Q6o w (w1.drewN nq) := ⟨K1.os, K1.tape, K1.output, K1.size, K1.block⟩
 have V2 : (w1.drewN nq).rangeAt (Q6o + 1) 0 (vrC V) := V1
 have B2 : Blk (w1.drewN nq) (Q6o + 1) 40 5 := B1
 have s0 : (w1.drewN nq).cell? ⟨cb, 0, none⟩ = some (.int .i64 Q6w) := t0
 have s3 : (w1.drewN nq).cell? ⟨cb, 3, none⟩ = some Q0b := t3
 have hz2 : Q6o + 1 < (w1.drewN nq).heap.size := hz1
 generalize hw2 : w1.drewN nq = w2 at *
 clear hw2 V1 B1 K1 C1 E1 hz1 t0 t3 t4 y2 y3 z2 zB hgU BK KB
 go_wp2_with fail
 refine qz36 10 (by kernel_rfl) (by kernel_rfl) ?_
 simp only [List.take_succ_cons, List.take_zero, List.drop_succ_cons, List.drop_zero]
 repeat (quiet_step (fail))
 refine wpQuiet_nil ?_
 rintro _ ⟨nr, rfl⟩
 have E3 : Errs base (w2.drewN nr) eN eF eU := E2.below ⟨rfl, rfl, rfl, Q6v _, fun _ _ => rfl⟩
 have C3 : qz2c base (w2.drewN nr) cb s g Q0b Q05 ps qs A := C2.grown ⟨rfl, rfl, rfl, Q6v _, fun _ _ => rfl⟩
 have K3 : Below Q6o w (w2.drewN nr) := ⟨K2.os, K2.tape, K2.output, K2.size, K2.block⟩
 have V3 : (w2.drewN nr).rangeAt (Q6o + 1) 0 (vrC V) := V2
 have B3 : Blk (w2.drewN nr) (Q6o + 1) 40 5 := B2
 have hz3 : Q6o + 1 < (w2.drewN nr).heap.size := hz2
 generalize hw3 : w2.drewN nr = w3 at *
 clear hw3 V2 B2 K2 C2 E2 hz2 s0 s3
 go_wp2_with fail
 refine (qz72 (Q6o + 1) 0 V (Q6r : Int) Q6w Q6q w3 (by omega) (by omega) (by omega) V3).mono ?_
 rintro e w' ⟨rfl, hw⟩
 obtain rfl := hw.symm
 have BK : But (qzh5 w cb) w w3 := But.of_below K3
 have KB : Below base w w3 := K3.mono hbase
 cases hvr : verR Q6q Q6w (Q6r : Int) V
 case false =>
  have hv : Hid (qz5a z A (nk : Int) V = 2) := by show _ = _; simp [qz5a, hfullH.out, hndH.out, hhH.out, hvr]
  have hgU := E3.gU
  go_wp2_with fail
  go_quiet (fail)
  go_wp2
  go_ret2
  rw [hv.out]
  exact ⟨_, qs, rfl, C3.grown ⟨rfl, rfl, rfl, Q6v _, fun _ _ => rfl⟩, ⟨KB.os, KB.tape, KB.output, KB.size, KB.block⟩, ⟨BK.os, BK.tape, BK.output, BK.size, BK.block⟩⟩
 case true =>
  have hv : Hid (qz5a z A (nk : Int) V = 3) := by show _ = _; simp [qz5a, hfullH.out, hndH.out, hhH.out, hvr]
  obtain ⟨x0, x1, x2, x3, x4⟩ := row5 C3.row
  have T3 := C3.blk.there 4 1 (by omega)
  have f4 : w3.frozen? ⟨cb, 4, none⟩ = false := (T3 0 (by omega)).2
  obtain ⟨vb', vo', vm', p1', plo', p3', pfit', p5'⟩ := C3.np.at' nk hnl
  rw [p1] at p1'
  injection p1' with p1'
  injection p1' with p1' p1''
  subst p1' p1''
  have q2 : w3.cell? ⟨vb, vo + 2, none⟩ = some (.int .i64 A.nodes[nk].head) := p5' 2 _ rfl
  have f2 : w3.frozen? ⟨vb, vo + 2, none⟩ = false := (p3'.there (vo + 2) 1 (by omega) 0 (by omega)).2
  obtain ⟨i0, hi, hzr, hsz, hby⟩ := info_parts qzhd
  have OR := C3.sr.alloc (.cells #[.pointer (some ⟨Q6o + 1, 0, none⟩)] 135)
  have news := cell_one_new w3 (.pointer (some ⟨Q6o + 1, 0, none⟩)) 135
  have hbs : base <= w3.heap.size := Q77 hbase K3.size
  have al3 := (Q6s w3.heap.size w3).alloc (Q6v _) (.cells #[.pointer (some ⟨Q6o + 1, 0, none⟩)] 135)
  go_wp2_with (at_builtin; refine wpList_append_own_at _ rfl _ _ 128 rfl base 135 i0 _ 1 8 Tryz.underlying128 hi hzr hsz hby rfl (by decide) _ _ _ rfl OR ⟨w3.heap.size, 0, none⟩ 1 1 [.pointer (some ⟨Q6o + 1, 0, none⟩)] rfl rfl ?n1 ?n2 ?n3 ?n4 ?n5 ?_)
  case n1 => exact news
  case n2 => intro u hu; simp at hu; subst hu; rfl
  case n3 => unfold maxLen; omega
  case n4 => omega
  case n5 => simp; omega
  intro r2 w4 hown hgrow _ hat
  obtain ⟨ra2, rc2, hr2⟩ := qzf hown
  subst hr2
  have O4 : But (fun q => Value.ownBlock Q05 = some q) w3 w4 := ⟨hgrow.os, hgrow.tape, hgrow.output, Q77 (by simp) hgrow.size, fun q hq hn => (hgrow.block q (by simp; omega) (fun e => hn e.symm)).trans (Below.heap_alloc _ _ _ hq)⟩
  have hfb : ∀ (i c o : Nat), qs[i]? = some ⟨c, o, none⟩ -> c ≠ Q6o + 1 := fun i c o hi he => by
   have hil : i < Q6r := by
    rcases Nat.lt_or_ge i qs.length with h | h
    ·rw [<- C.vp.len]; exact h
    ·rw [List.getElem?_eq_none h] at hi; cases hi
   obtain ⟨b', o', m', h1, _, h3, _, _⟩ := C.vp.at' i hil
   rw [hi] at h1
   injection h1 with h1
   injection h1 with h1 h1'
   have := h3.lt
   omega
  have C5 := C3.grow_v Q1w (Q6o + 1) V hown O4 (by omega) B3 V3 hfb
  have C6 := C5.node nk hnl vb vo p1 2 (by omega) (.int .i64 (Q6r : Int)) { A.nodes[nk] with head := (Q6r : Int) } rfl
  obtain ⟨rm, -, hrB⟩ := qz4z C.sr (b := rb) rfl
  obtain ⟨vb1, vo1, vm1, g1, -, g3, -, -⟩ := C.np.at' nk hnl
  rw [p1] at g1
  injection g1 with g1
  injection g1 with g1 g1'
  subst g1 g1'
  have e1 : ¬ (vb = cb) := g3.ne C.blk (by decide)
  have e2 : ¬ (cb = vb) := fun h => e1 h.symm
  have er1 : ¬ (some rb = some cb) := fun h => hrB.ne C.blk (by decide) (Q6p h)
  have er2 : ¬ (some rb = some vb) := fun h => hrB.ne g3 (by decide) (Q6p h)
  have hcbl : cb < w3.heap.size := C3.blk.lt
  have hvbl : vb < w3.heap.size := p3'.lt
  have y4 : w4.cell? ⟨cb, 4, none⟩ = some Q05 := (O4.cell (p := ⟨cb, 4, none⟩) hcbl er1).trans x4
  have z4 : w4.frozen? ⟨cb, 4, none⟩ = false := (O4.frozen (p := ⟨cb, 4, none⟩) hcbl er1).trans f4
  have m2 : w4.cell? ⟨vb, vo + 2, none⟩ = some (.int .i64 A.nodes[nk].head) := (O4.cell (p := ⟨vb, vo + 2, none⟩) hvbl er2).trans q2
  have m2f : w4.frozen? ⟨vb, vo + 2, none⟩ = false := (O4.frozen (p := ⟨vb, vo + 2, none⟩) hvbl er2).trans f2
  have BF : But (fun q => q = rb ∨ q = cb ∨ q = vb) w ((w4.setCell ⟨cb, 4, none⟩ Q1w).setCell ⟨vb, vo + 2, none⟩ (.int .i64 (Q6r : Int))) :=
   (But.of_below K3).trans ((O4.mono (fun q hq => Or.inl (Q6p hq).symm)).trans ((But.of_only ((Only.refl cb w4).setCell (p := ⟨cb, 4, none⟩) (Or.inl rfl) _) (Or.inr (Or.inl rfl))).trans (But.of_only ((Only.refl vb _).setCell (p := ⟨vb, vo + 2, none⟩) (Or.inl rfl) _) (Or.inr (Or.inr rfl)))))
  have KF := BF.below (B := base) hbase (fun q hq => by
   rcases hq with rfl | rfl | rfl
   ·exact hrbB
   ·exact C.lo
   ·exact plo)
  have hsA : qzar A (nk : Int) V 3 = { A with vers := A.vers ++ [V], nodes := A.nodes.set nk { A.nodes[nk] with head := (Q6r : Int) } } := by simp [qzar, hndH.out]
  clear hown hgrow hat O4 x0 x1 x2 x3 x4 f4 q2 f2 OR news al3 hcbl hvbl er1 er2 BK KB E3 C3 C5 hfb p5' p3' V3 B3
  go_wp2_with fail
  go_ret2
  rw [hv.out]
  have OW : qz2c base ((w4.setCell ⟨cb, 4, none⟩ Q1w).setCell ⟨vb, vo + 2, none⟩ (.int .i64 (Q6r : Int))) cb s g Q0b Q1w ps (qs ++ [⟨Q6o + 1, 0, none⟩]) (qzar A (nk : Int) V 3) := by rw [hsA]; exact C6
  have BW : But (qzh5 w cb) w ((w4.setCell ⟨cb, 4, none⟩ Q1w).setCell ⟨vb, vo + 2, none⟩ (.int .i64 (Q6r : Int))) := BF.mono (fun q hq => by
   rcases hq with rfl | rfl | rfl
   ·exact Or.inr (Or.inl ⟨_, hrB⟩)
   ·exact Or.inl rfl
   ·exact Or.inr (Or.inr ⟨_, g3⟩))
  exact ⟨rfl, ⟨_, _, OW⟩, KF, BW⟩
end
section
open Go.ChangeShapes Go.WideShapes Go.ChangeAt Go.RowKit Go.Extern.Stop Go.Stop Go.Extern
theorem qzeq (t : Value) (w : World) :
  Calls Tryz.prog 78 #[.nilIface, t] w fun e w' => e = .returned (.bool false) /\ w' = w := by
 go_enter Tryz.func78, Tryz.ntmps78
 go_wp2
 go_ret
 exact ⟨rfl, rfl⟩
theorem qzfz (t : Addr) (w : World) : (ReflectliteValue.unpack (.iface 139 (.pointer (some t)))).run Tryz.prog w
  = .ok (.agg #[.pointer (some ⟨4, 139, none⟩), .pointer (some ⟨Q6o, 0, none⟩), .int .u64 150]) (w.alloc (.cells #[.pointer (some t)] 139)) := by kernel_rfl
theorem qzgn (a : Addr) (w : World) : (ReflectliteValue.methodAny (ReflectliteValue.valueError "reflectlite.Value.Type" 0) (fun t _ _ _ => ReflectliteType.toType t) #[.agg Q4o]).run Tryz.prog w
  = .ok (.iface 195 (.agg #[.pointer (some ⟨4, 139, none⟩)])) w := by kernel_rfl
theorem qzab (h : Value) (w : World) : (Go.method 351 195 (.agg #[h]) "Kind").run Tryz.prog w = .ok (178, h) w := by kernel_rfl
theorem qzgr (w : World) : ((ReflectliteType.abiMethod fun t => (fun a : Nat => Value.int IntKind.u8 (a : Int)) <$> Rtype.kind t) #[.pointer (some ⟨4, 139, none⟩)]).run Tryz.prog w = .ok (.int .u8 22) w := by kernel_rfl
theorem qzgx (w : World) : ((ReflectliteType.abiMethod fun t => (fun a : Nat => Value.int IntKind.u8 (a : Int)) <$> Rtype.kind t) Q51).run Tryz.prog w = .ok (.int .u8 25) w := by kernel_rfl
theorem qzgy (z : Sem Value) (f : TypeId -> Addr -> Nat -> Nat -> Sem Value) (v : Value) :
  ReflectliteValue.method z f #[v] = (do match <- ReflectliteValue.parts v with | none => z | some (t, a, fl) => f t a fl (fl % 32)) := rfl
theorem qzdq (a : Addr) (w : World) : (ReflectliteValue.parts (.agg Q4o)).run Tryz.prog w = .ok (some (139, a, 150)) w := by kernel_rfl
theorem qzfj (a p : Addr) (W : World) (ha : W.cell? a = some (.pointer (some p))) :
  (ReflectliteValue.method (ReflectliteValue.valueError "reflectlite.Value.IsNil" 0) ReflectliteValue.isNil #[.agg Q4o]).run Tryz.prog W = .ok (.bool false) W := by
 rw [qzgy]
 simp only [Sem.run_bind, qzdq, Result.andThen]
 simp [ReflectliteValue.isNil, loadVar, isAgg, underlying, Tryz.underlying139, ha, Result.andThen]
theorem qzag (h : Value) (w : World) : (Go.method 351 195 (.agg #[h]) "Elem").run Tryz.prog w = .ok (190, .agg #[h]) w := by kernel_rfl
theorem qz5w (h : Value) (w : World) : (Go.method 351 195 (.agg #[h]) "Implements").run Tryz.prog w = .ok (191, .agg #[h]) w := by kernel_rfl
theorem qz5b (h : Value) (w : World) : (Go.method 351 195 (.agg #[h]) "AssignableTo").run Tryz.prog w = .ok (188, .agg #[h]) w := by kernel_rfl
theorem qzgh (w : World) : (ReflectliteType.method ReflectliteType.elem #[.agg #[.pointer (some ⟨4, 139, none⟩)]]).run Tryz.prog w = .ok (.iface 195 (.agg Q51)) w := by kernel_rfl
theorem qz9v (w : World) : (ReflectliteType.relation "Implements" ReflectliteType.implements_ #[.agg Q51, .iface 195 (.agg Q61)]).run Tryz.prog w = .ok (.bool true) w := by kernel_rfl
theorem qze5 (v : Value) (w : World) : (ReflectliteType.typeOf #[.iface 134 v]).run Tryz.prog w = .ok (.iface 195 (.agg Q51)) w := by kernel_rfl
theorem qz9j (w : World) : (ReflectliteType.relation "AssignableTo" ReflectliteType.assignableTo #[.agg Q51, .iface 195 (.agg Q51)]).run Tryz.prog w = .ok (.bool true) w := by kernel_rfl
theorem qzfm (a : Addr) (w : World) : (ReflectliteValue.unpack (.iface 134 (.agg Q3a))).run Tryz.prog w
  = .ok (.agg #[.pointer (some ⟨4, 134, none⟩), .pointer (some ⟨Q6o, 0, none⟩), .int .u64 153]) (w.alloc (.cells Q3a 134)) := by kernel_rfl
theorem qzev (w : World) : (Rtype.elem? 139).run Tryz.prog w = .ok (some 134) w := by kernel_rfl
theorem qzhw (p : Addr) (w : World) : (ReflectliteValue.mk 134 p ReflectliteValue.flagAddr).run Tryz.prog w = .ok (.agg #[.pointer (some ⟨4, 134, none⟩), .pointer (some p), .int .u64 409]) w := by kernel_rfl
theorem qzgl (a p : Addr) (W : World) (ha : W.cell? a = some (.pointer (some p))) :
  (ReflectliteValue.method (ReflectliteValue.valueError "reflectlite.Value.Elem" 0) ReflectliteValue.elem #[.agg Q4o]).run Tryz.prog W
   = .ok (.agg #[.pointer (some ⟨4, 134, none⟩), .pointer (some p), .int .u64 409]) W := by
 rw [qzgy]
 simp only [Sem.run_bind, qzdq, Result.andThen]
 simp [ReflectliteValue.elem, loadVar, isAgg, underlying, Tryz.underlying139, ha, Result.andThen, qzev, qzhw]
theorem qzhn (v x : Value) : ReflectliteValue.set #[v, x] = (do
  let (some (dst, a, fl), some (src, b, _)) := (<- ReflectliteValue.parts v, <- ReflectliteValue.parts x)
   | unsupported (.noEntry "extern/(internal/reflectlite.Value).Set.zeroValue")
  if fl / ReflectliteValue.flagAddr % 2 == 0 then unsupported (.noEntry "extern/(internal/reflectlite.Value).Set.unaddressable")
  let val <- loadVar src b
  if <- Rtype.directlyAssignable dst src then storeVar dst a val
  else if <- Rtype.implements dst src then
   if (<- Rtype.kind src) == 20 then
    match val with
    | .nilIface => unsupported (.noEntry "extern/reflectlite: a nil value of one interface type handed on as a value of another")
    | _ => storeVar dst a val
   else storeVar dst a (.iface src val)
  else panicString ("reflectlite.Set: value of type " ++ (<- Rtype.spelt src) ++ " is not assignable to type " ++ (<- Rtype.spelt dst))
  pure (.tuple #[])) := rfl
theorem qzew (a : Addr) (w : World) : (ReflectliteValue.parts (.agg #[.pointer (some ⟨4, 134, none⟩), .pointer (some a), .int .u64 409])).run Tryz.prog w = .ok (some (134, a, 409)) w := by kernel_rfl
theorem qzg5 (a : Addr) (w : World) : (ReflectliteValue.parts (.agg #[.pointer (some ⟨4, 134, none⟩), .pointer (some a), .int .u64 153])).run Tryz.prog w = .ok (some (134, a, 153)) w := by kernel_rfl
theorem qzf3 (w : World) : (Rtype.directlyAssignable 134 134).run Tryz.prog w = .ok true w := by kernel_rfl
theorem qzf6 : (Tryz.prog.info? 134).map (·.size) = some 1 := by kernel_rfl
theorem qzhf (tb b : Nat) (e : Value) (he : e.oneCell' = true) (W : World) (hb : W.rangeAt b 0 [e]) (ht : W.there tb 0 1) :
  (ReflectliteValue.set #[.agg #[.pointer (some ⟨4, 134, none⟩), .pointer (some ⟨tb, 0, none⟩), .int .u64 409], .agg #[.pointer (some ⟨4, 134, none⟩), .pointer (some ⟨b, 0, none⟩), .int .u64 153]]).run Tryz.prog W
   = .ok (.tuple #[]) (W.setCells tb 0 [e]) := by
 have hl := run_loadVar_mid (P := Tryz.prog) W b 0 134 [e] _ hb Tryz.underlying134 rfl qzf6
 have hs := run_storeVar_mid (P := Tryz.prog) W tb 0 134 #[e] ht qzf6 (by simp [he])
 rw [qzhn]
 simp only [Sem.run_bind, qzew, qzg5, Result.andThen]
 simp [ReflectliteValue.flagAddr, hl, hs, Result.andThen, qzf3]
theorem qz8j (a : Addr) (tb : Nat) (old : Value) (w : World) (hg : w.cell? ⟨3, 0, none⟩ = some (.iface 195 (.agg Q61))) (ht : w.there tb 0 1) (hlt : 3 < Q6o) (htl : tb < Q6o) :
  Calls Tryz.prog 78 #[.iface 134 (.agg Q3a), .iface 139 (.pointer (some ⟨tb, 0, none⟩))] w fun ev w' => ev = .returned (.bool true) /\ Only tb w w' := by
 have h6 := @run_callFunc_extern Tryz.prog 117 _ (fun args => ReflectliteValue.unpack (args.getD 0 (.tuple #[]))) Tryz.func117 (by kernel_rfl) (by kernel_rfl) (by kernel_rfl) (by kernel_rfl)
 have h7 := @run_callFunc_extern Tryz.prog 118 _ (ReflectliteValue.methodAny (ReflectliteValue.valueError "reflectlite.Value.Type" 0) (fun t _ _ _ => ReflectliteType.toType t)) Tryz.func118 (by kernel_rfl) (by kernel_rfl) (by kernel_rfl) (by kernel_rfl)
 have h8 := @run_callFunc_extern Tryz.prog 119 _ (ReflectliteValue.method (ReflectliteValue.valueError "reflectlite.Value.IsNil" 0) ReflectliteValue.isNil) Tryz.func119 (by kernel_rfl) (by kernel_rfl) (by kernel_rfl) (by kernel_rfl)
 have h27 := @run_callFunc_extern Tryz.prog 178 _ (ReflectliteType.abiMethod fun t => do pure (.int .u8 (<- Rtype.kind t))) Tryz.func178 (by kernel_rfl) (by kernel_rfl) (by kernel_rfl) (by kernel_rfl)
 have h37 := @run_callFunc_extern Tryz.prog 190 _ (ReflectliteType.method ReflectliteType.elem) Tryz.func190 (by kernel_rfl) (by kernel_rfl) (by kernel_rfl) (by kernel_rfl)
 have h38 := @run_callFunc_extern Tryz.prog 191 _ (ReflectliteType.relation "Implements" ReflectliteType.implements_) Tryz.func191 (by kernel_rfl) (by kernel_rfl) (by kernel_rfl) (by kernel_rfl)
 have h10 := @run_callFunc_extern Tryz.prog 121 _ (ReflectliteType.typeOf) Tryz.func121 (by kernel_rfl) (by kernel_rfl) (by kernel_rfl) (by kernel_rfl)
 have h35 := @run_callFunc_extern Tryz.prog 188 _ (ReflectliteType.relation "AssignableTo" ReflectliteType.assignableTo) Tryz.func188 (by kernel_rfl) (by kernel_rfl) (by kernel_rfl) (by kernel_rfl)
 have h11 := @run_callFunc_extern Tryz.prog 142 _ (ReflectliteValue.method (ReflectliteValue.valueError "reflectlite.Value.Elem" 0) ReflectliteValue.elem) Tryz.func142 (by kernel_rfl) (by kernel_rfl) (by kernel_rfl) (by kernel_rfl)
 have h12 := @run_callFunc_extern Tryz.prog 143 _ (ReflectliteValue.set) Tryz.func143 (by kernel_rfl) (by kernel_rfl) (by kernel_rfl) (by kernel_rfl)
 have tO := qze5
 have mA := qz5b
 have aU := qz9j
 have vU := qzfm
 have f6 := qzfz
 have f7 := qzgn
 have mK := qzab
 have mE := qzag
 have mI := qz5w
 have kP := qzgr
 have kU := qzgx
 have eP := qzgh
 have iU := qz9v
 have n8 := qzfj ⟨Q6o, 0, none⟩ ⟨tb, 0, none⟩ ((w.alloc Q3f).alloc Q14) (by simp)
 have hg2 : ((w.alloc Q3f).alloc Q14).cell? ⟨3, 0, none⟩ = some (.iface 195 (.agg Q61)) := by
  rw [World.cell?_alloc_lt _ _ ⟨3, 0, none⟩ (by simp; omega), World.cell?_alloc_lt _ _ ⟨3, 0, none⟩ hlt]; exact hg
 have el := qzgl ⟨Q6o, 0, none⟩ ⟨tb, 0, none⟩ (((w.alloc Q3f).alloc Q14).alloc Q14) (by rw [World.cell?_alloc_lt _ _ ⟨Q6o, 0, none⟩ (by simp; omega)]; simp)
 have hn4 : (Q69).rangeAt (Q6o + 1 + 1 + 1) 0 [.iface 217 (.pointer (some a))] := by
  have h := qz6 (((w.alloc Q3f).alloc Q14).alloc Q14) [.iface 217 (.pointer (some a))] 134
  simp only [World.size_alloc] at h
  exact h
 have ht4 : (Q69).there tb 0 1 := Q7h (Q7h (Q7h (Q7h ht _) _) _) _
 have st := qzhf tb (Q6o + 1 + 1 + 1) (.iface 217 (.pointer (some a))) rfl Q69 hn4 ht4
 have fin : Only tb w ((Q69).setCells tb 0 [.iface 217 (.pointer (some a))]) := ((((Only.refl tb w).alloc _).alloc _).alloc _).alloc _ |>.trans (qze tb _ 0 _)
 go_enter Tryz.func78, Tryz.ntmps78
 go_wp2
 refine wp_loop_rounds 1 ?_
 rw [rounds_succ]
 go_wp2
 go_ret
 exact ⟨rfl, fin⟩
end
section
open Go.ChangeShapes Go.WideShapes Go.ChangeAt Go.RowKit Go.Shelf
attribute [local go_sem] Oper.semAt_some
theorem qz95 (B : Nat) (A : Ar) (x y z u : Int) (i0 : Int) (a0 a1 a2 a3 : Option Addr) (c0 c1 c2 c3 : Nat) (w : World) (hB : B <= Q6o) (hA : A.size <= 1048576) (I : qz1j B w Q0x Q0w Q0t Q11 A) :
  Calls Tryz.prog 32 #[.agg Q06, .agg Q02, .int .i64 i0] w fun e w' => e = .returned (.int .i64 (qz93 x y z u A i0)) /\ Below Q6o w w' := by
 have hA' := hA
 unfold Ar.size at hA
 have P0 := (qz1q w x y z u 25).below ((Q6s _ _).alloc (Q6v _) (.cells Q02 30)) (by simp)
 have X0 : World.rangeAt Q1s (Q6o + 1) 0 Q0j := by
  have h := qz6 Q44 Q0j 30
  simp only [World.size_alloc] at h
  exact h
 have K0 := ((Q6s Q6o w).alloc (Q6v _) (.cells Q06 25)).alloc (by simp) (.cells Q02 30)
 have hz0 : Q6o + 1 < (Q1s).heap.size := by simp
 have I0 := I.below (K0.mono hB)
 obtain ⟨p0, p1, p2, p3⟩ := P0
 obtain ⟨x0, x1, x2, x3, x4⟩ := row5 X0
 go_enter Tryz.func32, Tryz.ntmps32
 go_wp2_with fail
 refine (qz7w B A x y z u _ _ _ _ _ _ _ _ _ (by omega) hA' I0).mono ?_
 rintro e w1 ⟨rfl, b1⟩
 have X1 := qz0 X0 b1 hz0
 have K1 := K0.trans (b1.mono (by omega))
 have I1 := I.below (K1.mono hB)
 have hz1 := Q72 hz0 b1.size
 clear p0 p1 p2 p3 x0 x1 x2 x3 x4 X0 K0 I I0 b1 hz0
 obtain ⟨x0, x1, x2, x3, x4⟩ := row5 X1
 cases hq : qz10 x y z u A
 ·have hv : qz93 x y z u A i0 = -1 := by simp [qz93, hasB, hq]
  go_wp2
  go_ret
  exact ⟨by rw [hv]; rfl, K1⟩
 cases hq2 : inB i0 0 ((Q6q : Int) - 1)
 ·have hv : qz93 x y z u A i0 = -1 := by simp [qz93, hasB, hq, hq2]
  go_wp2_with (go_at_call 71; refine (qz1b _ _ _ _).mono ?_; rintro e w' ⟨rfl, hw⟩; obtain rfl := hw.symm)
  go_ret
  exact ⟨by rw [hv]; rfl, K1⟩
 have hq' := (qz13 _ _ _).1 hq2
 obtain ⟨n, rfl⟩ : ∃ k : Nat, i0 = k := ⟨i0.toNat, by omega⟩
 have hn : n < Q6q := by omega
 have hn' : (n : Int) < (Q6q : Int) := by omega
 have hn0 : (0 : Int) <= (n : Int) := by omega
 obtain ⟨bb, off, rfl, hbb, R⟩ := qzu.at I1.n (by omega)
 have hc : w1.cell? ⟨bb, off + n * 3 + 2, none⟩ = some (.int .i64 A.nodes[n].head) := (qzi (sz := 3) (fun _ => rfl) R n hn) 2 _ rfl
 have hv : qz93 x y z u A n = A.nodes[n].head := by simp [qz93, hasB, hq, hq2, qz1l A n hn]
 clear R hq'
 go_wp2_with (go_at_call 71; refine (qz1b _ _ _ _).mono ?_; rintro e w' ⟨rfl, hw⟩; obtain rfl := hw.symm)
 go_ret
 exact ⟨by rw [hv]; rfl, K1⟩
end
end Go.Proofs.YthjkdnlmopafkaaGreatDoor
