/-
  What the law's proof goes by, part 8.
-/
import Derived.Test.YtlfjhcdjgoeafaaGreatDoorRows
import Derived.WalkKit
import Derived.ProofKit
import Derived.Below
import Derived.Deep.MidRow
import Derived.Deep.Cut
import Derived.Deep.RegionLaw
import Derived.Test.YtlfjhcdjgoeafaaGreatDoorFindStep00
import Derived.Test.YtlfjhcdjgoeafaaGreatDoorFindStep03
import Derived.Test.YtlfjhcdjgoeafaaGreatDoorFindStep04
import Derived.Test.YtlfjhcdjgoeafaaGreatDoorFindStep05
namespace Go.Proofs.YtlfjhcdjgoeafaaGreatDoor
open Go.ChangeShapes Go.WideShapes Go.ChangeAt Go.RowKit
set_option linter.unusedVariables false
set_option linter.unusedSimpArgs false
set_option linter.unnecessarySimpa false
set_option linter.unusedSectionVars false
section
open Go.RowKit
structure Only (b : Nat) (w w' : World) : Prop where
 os : w'.os = w.os
 tape : w'.tape = w.tape
 output : w'.output = w.output
 size : w.heap.size ≤ w'.heap.size
 block : ∀ k, k < w.heap.size → k ≠ b → w'.heap[k]? = w.heap[k]?
theorem Only.refl (b : Nat) (w : World) : Only b w w := ⟨rfl, rfl, rfl, Nat.le_refl _, fun _ _ _ => rfl⟩
theorem Only.trans {b : Nat} {x y z : World} (h : Only b x y) (k : Only b y z) : Only b x z :=
 ⟨k.os.trans h.os, k.tape.trans h.tape, k.output.trans h.output, Nat.le_trans h.size k.size, fun i hi hb => (k.block i (Nat.lt_of_lt_of_le hi h.size) hb).trans (h.block i hi hb)⟩
theorem Only.setCell {b : Nat} {x w : World} (h : Only b x w) {p : Addr} (hp : p.block = b ∨ x.heap.size ≤ p.block) (u : Value) : Only b x (w.setCell p u) :=
 ⟨h.os, h.tape, h.output, by simpa [World.setCell] using h.size, fun k hk hb => (Below.heap_setCell _ _ _ _ (by omega)).trans (h.block k hk hb)⟩
theorem Only.below {b B : Nat} {w w' : World} (h : Only b w w') (hb : B ≤ b) (hB : B ≤ w.heap.size) : Below B w w' := ⟨h.os, h.tape, h.output, h.size, fun k hk => h.block k (by omega) (by omega)⟩
theorem only_setCells (b : Nat) : ∀ (vs : List Value) (o : Nat) (w : World), Only b w (w.setCells b o vs)
 | [], _, w => Only.refl b w
 | v :: vs, o, w => ((Only.refl b w).setCell (p := ⟨b, o, none⟩) (Or.inl rfl) v).trans (only_setCells b vs (o + 1) (w.setCell ⟨b, o, none⟩ v))
structure But (S : Nat → Prop) (w w' : World) : Prop where
 os : w'.os = w.os
 tape : w'.tape = w.tape
 output : w'.output = w.output
 size : w.heap.size ≤ w'.heap.size
 block : ∀ k, k < w.heap.size → ¬ S k → w'.heap[k]? = w.heap[k]?
theorem But.refl (S : Nat → Prop) (w : World) : But S w w := ⟨rfl, rfl, rfl, Nat.le_refl _, fun _ _ _ => rfl⟩
theorem But.trans {S : Nat → Prop} {x y z : World} (h : But S x y) (k : But S y z) : But S x z :=
 ⟨k.os.trans h.os, k.tape.trans h.tape, k.output.trans h.output, Nat.le_trans h.size k.size, fun i hi hb => (k.block i (Nat.lt_of_lt_of_le hi h.size) hb).trans (h.block i hi hb)⟩
theorem But.of_only {S : Nat → Prop} {b : Nat} {w w' : World} (h : Only b w w') (hb : S b) : But S w w' := ⟨h.os, h.tape, h.output, h.size, fun k hk hn => h.block k hk (fun e => hn (e ▸ hb))⟩
theorem But.of_below {S : Nat → Prop} {w w' : World} (h : Below w.heap.size w w') : But S w w' := ⟨h.os, h.tape, h.output, h.size, fun k hk _ => h.block k hk⟩
theorem But.mono {S S' : Nat → Prop} {w w' : World} (h : But S w w') (hS : ∀ k, S k → S' k) : But S' w w' := ⟨h.os, h.tape, h.output, h.size, fun k hk hn => h.block k hk (fun e => hn (hS k e))⟩
theorem But.below {S : Nat → Prop} {B : Nat} {w w' : World} (h : But S w w') (hB : B ≤ w.heap.size) (hS : ∀ k, S k → B ≤ k) : Below B w w' := ⟨h.os, h.tape, h.output, h.size, fun k hk => h.block k (by omega) (fun e => by have := hS k e; omega)⟩
theorem But.cell {S : Nat → Prop} {w w' : World} (h : But S w w') {p : Addr} (h1 : p.block < w.heap.size) (h2 : ¬ S p.block) : w'.cell? p = w.cell? p := World.cell?_of_block (w := w) (h.block p.block h1 h2)
theorem But.frozen {S : Nat → Prop} {w w' : World} (h : But S w w') {p : Addr} (h1 : p.block < w.heap.size) (h2 : ¬ S p.block) : w'.frozen? p = w.frozen? p := World.frozen?_of_block (w := w) (h.block p.block h1 h2)
theorem But.range {S : Nat → Prop} {w w' : World} (h : But S w w') {b o : Nat} {cs : List Value} (R : w.rangeAt b o cs) (h1 : b < w.heap.size) (h2 : ¬ S b) : w'.rangeAt b o cs := fun j v hv => (h.cell (p := ⟨b, o + j, none⟩) h1 h2).trans (R j v hv)
theorem But.there {S : Nat → Prop} {w w' : World} (h : But S w w') {b o n : Nat} (T : w.there b o n) (h1 : b < w.heap.size) (h2 : ¬ S b) : w'.there b o n := fun j hj => by rw [h.cell (p := ⟨b, o + j, none⟩) h1 h2, h.frozen (p := ⟨b, o + j, none⟩) h1 h2]; exact T j hj
end
section
attribute [local go_sem ↓] Go.wp_at_zero Go.wp_at_succ
theorem alloc_setCells (w : World) (T : TypeId) : ∀ (vs pre zs : List Value), zs.length = vs.length →
  (w.alloc (.cells (pre ++ zs).toArray T)).setCells w.heap.size pre.length vs = w.alloc (.cells (pre ++ vs).toArray T)
 | [], pre, zs, h => by
  obtain rfl : zs = [] := List.eq_nil_of_length_eq_zero h
  rfl
 | v :: vs, pre, z :: zs, h => by
  simp only [World.setCells]
  have e : (w.alloc (.cells (pre ++ z :: zs).toArray T)).setCell ⟨w.heap.size, pre.length, none⟩ v = w.alloc (.cells ((pre ++ [v]) ++ zs).toArray T) := by
   rw [World.setCell_alloc_new]
   simp
  rw [e]
  have := alloc_setCells w T vs (pre ++ [v]) zs (by simpa using h)
  simp only [List.length_append, List.length_cons, List.length_nil, Nat.zero_add] at this
  rw [this]
  simp
def newH : Hd := ⟨0, 0, 0, -1, 0, 0, 0, 0, 0, -1, 0, 0, 0, 0, 0, 0, -1, 0, -1, 0, 0, 0⟩
def restOf (h : Hd) (rp ot sm : Int) : Hd := ⟨0, 0, 0, -1, 0, 0, rp, ot, sm, h.held, 0, 0, 0, 0, 0, 0, -1, 0, -1, 0, 0, 0⟩
theorem specNewHand_is (w : World) : Calls Tryz.prog 98 #[] w fun e w' => e = .returned (.agg (hdC newH).toArray) ∧ Below w.heap.size w w' := by
 have F0 := there_new w #[.int .i64 0, .int .i64 0, .int .i64 0, .int .i64 0, .int .i64 0, .int .i64 0, .int .i64 0, .int .i64 0, .int .i64 0, .int .i64 0, .int .i64 0, .int .i64 0, .int .i64 0, .int .i64 0, .int .i64 0, .int .i64 0, .int .i64 0, .int .i64 0, .int .i64 0, .int .i64 0, .int .i64 0, .int .i64 0] 36 22 (by decide)
 go_enter Tryz.func98, Tryz.ntmps98
 go_wp2_with (refine wpList_store_mid rfl 36 (.tmp 0) (.tmp 1) rfl w.heap.size 0 _ rfl rfl ?ht ?hi ?h1 ?_)
 case ht => exact F0
 case hi => exact sizeHand newH
 case h1 => exact oneHand newH
 refine bodyPost_ret (v := .agg (hdC newH).toArray) ?_ rfl ⟨rfl, ?_⟩
 ·exact results_row Tryz.results98 _ _ w.heap.size 0 rfl (hdC newH) _ (World.rangeAt_setCells_same _ _ _ _ F0) Tryz.underlying36 rfl (sizeHandL newH)
 ·exact Below.setCells (Nat.le_refl _) _ _ _ ((Below.refl _ _).alloc (Nat.le_refl _) _)
set_option maxRecDepth 100000 in
set_option maxHeartbeats 4000000 in
theorem specResting_any (h : Hd) (rp ot sm : Int) (w : World) :
  Calls Tryz.prog 78 #[.agg (hdC h).toArray, .int .i64 rp, .int .i64 ot, .int .i64 sm] w fun e w' => e = .returned (.agg (hdC (restOf h rp ot sm)).toArray) ∧ Below w.heap.size w w' := by
 show Calls Tryz.prog 78 #[.agg #[.int .i64 h.at_, .int .i64 h.then_, .int .i64 h.code, .int .i64 h.key, .int .i64 h.value, .int .i64 h.begin, .int .i64 h.reply, .int .i64 h.out, .int .i64 h.sum, .int .i64 h.held, .int .i64 h.x_, .int .i64 h.ver, .int .i64 h.cam, .int .i64 h.camAt, .int .i64 h.pred, .int .i64 h.predVer, .int .i64 h.curr, .int .i64 h.currVer, .int .i64 h.new_, .int .i64 h.least, .int .i64 h.index, .int .i64 h.round], .int .i64 rp, .int .i64 ot, .int .i64 sm] w fun e w' => e = .returned (.agg (hdC (restOf h rp ot sm)).toArray) ∧ Below w.heap.size w w'
 have X0 := World.rangeAt_alloc (rangeAt_new w (hdC h) 36) (.cells #[.int .i64 0, .int .i64 0, .int .i64 0, .int .i64 0, .int .i64 0, .int .i64 0, .int .i64 0, .int .i64 0, .int .i64 0, .int .i64 0, .int .i64 0, .int .i64 0, .int .i64 0, .int .i64 0, .int .i64 0, .int .i64 0, .int .i64 0, .int .i64 0, .int .i64 0, .int .i64 0, .int .i64 0, .int .i64 0] 36)
 have F0 := there_new (w.alloc (.cells (hdC h).toArray 36)) #[.int .i64 0, .int .i64 0, .int .i64 0, .int .i64 0, .int .i64 0, .int .i64 0, .int .i64 0, .int .i64 0, .int .i64 0, .int .i64 0, .int .i64 0, .int .i64 0, .int .i64 0, .int .i64 0, .int .i64 0, .int .i64 0, .int .i64 0, .int .i64 0, .int .i64 0, .int .i64 0, .int .i64 0, .int .i64 0] 36 22 (by decide)
 have K0 := ((Below.refl w.heap.size w).alloc (Nat.le_refl _) (.cells (hdC h).toArray 36)).alloc (by simp) (.cells #[.int .i64 0, .int .i64 0, .int .i64 0, .int .i64 0, .int .i64 0, .int .i64 0, .int .i64 0, .int .i64 0, .int .i64 0, .int .i64 0, .int .i64 0, .int .i64 0, .int .i64 0, .int .i64 0, .int .i64 0, .int .i64 0, .int .i64 0, .int .i64 0, .int .i64 0, .int .i64 0, .int .i64 0, .int .i64 0] 36)
 have hz0 : w.heap.size + 1 < ((w.alloc (.cells (hdC h).toArray 36)).alloc (.cells #[.int .i64 0, .int .i64 0, .int .i64 0, .int .i64 0, .int .i64 0, .int .i64 0, .int .i64 0, .int .i64 0, .int .i64 0, .int .i64 0, .int .i64 0, .int .i64 0, .int .i64 0, .int .i64 0, .int .i64 0, .int .i64 0, .int .i64 0, .int .i64 0, .int .i64 0, .int .i64 0, .int .i64 0, .int .i64 0] 36)).heap.size := by simp
 simp only [World.size_alloc] at F0
 go_enter Tryz.func78, Tryz.ntmps78
 go_wp2_with fail
 change Calls Tryz.prog _ _ ((w.alloc (.cells (hdC h).toArray 36)).alloc (.cells #[.int .i64 0, .int .i64 0, .int .i64 0, .int .i64 0, .int .i64 0, .int .i64 0, .int .i64 0, .int .i64 0, .int .i64 0, .int .i64 0, .int .i64 0, .int .i64 0, .int .i64 0, .int .i64 0, .int .i64 0, .int .i64 0, .int .i64 0, .int .i64 0, .int .i64 0, .int .i64 0, .int .i64 0, .int .i64 0] 36)) _
 generalize hw0 : (w.alloc (.cells (hdC h).toArray 36)).alloc (.cells #[.int .i64 0, .int .i64 0, .int .i64 0, .int .i64 0, .int .i64 0, .int .i64 0, .int .i64 0, .int .i64 0, .int .i64 0, .int .i64 0, .int .i64 0, .int .i64 0, .int .i64 0, .int .i64 0, .int .i64 0, .int .i64 0, .int .i64 0, .int .i64 0, .int .i64 0, .int .i64 0, .int .i64 0, .int .i64 0] 36) = w0 at *
 clear hw0
 refine (specNewHand_is _).mono ?_
 rintro e w1 ⟨rfl, b1⟩
 have q9 : w1.cell? ⟨w.heap.size, 9, none⟩ = some (.int .i64 h.held) := (b1.cell (p := ⟨w.heap.size, 9, none⟩) (by show w.heap.size < w0.heap.size; omega)).trans (by have := X0 9 (.int .i64 h.held) rfl; simpa using this)
 have F1 := there_below F0 b1 hz0
 have K1 := K0.trans (b1.mono (by omega))
 have hz1 := Nat.lt_of_lt_of_le hz0 b1.size
 have qa : ∀ o : Obj, (w1.alloc o).cell? ⟨w.heap.size, 9, none⟩ = some (.int .i64 h.held) := fun o => (World.cell?_alloc_lt _ _ _ (by show w.heap.size < w1.heap.size; omega)).trans q9
 clear X0 F0 K0 b1 hz0 q9
 have hset : (w1.alloc (.cells #[.int .i64 0, .int .i64 0, .int .i64 0, .int .i64 0, .int .i64 0, .int .i64 0, .int .i64 0, .int .i64 0, .int .i64 0, .int .i64 0, .int .i64 0, .int .i64 0, .int .i64 0, .int .i64 0, .int .i64 0, .int .i64 0, .int .i64 0, .int .i64 0, .int .i64 0, .int .i64 0, .int .i64 0, .int .i64 0] 36)).setCells w1.heap.size 0 (hdC newH).toArray.toList = w1.alloc (.cells #[.int .i64 0, .int .i64 0, .int .i64 0, .int .i64 (-1), .int .i64 0, .int .i64 0, .int .i64 0, .int .i64 0, .int .i64 0, .int .i64 (-1), .int .i64 0, .int .i64 0, .int .i64 0, .int .i64 0, .int .i64 0, .int .i64 0, .int .i64 (-1), .int .i64 0, .int .i64 (-1), .int .i64 0, .int .i64 0, .int .i64 0] 36) := alloc_setCells w1 36 (hdC newH) [] [.int .i64 0, .int .i64 0, .int .i64 0, .int .i64 0, .int .i64 0, .int .i64 0, .int .i64 0, .int .i64 0, .int .i64 0, .int .i64 0, .int .i64 0, .int .i64 0, .int .i64 0, .int .i64 0, .int .i64 0, .int .i64 0, .int .i64 0, .int .i64 0, .int .i64 0, .int .i64 0, .int .i64 0, .int .i64 0] rfl
 have FA := there_new w1 #[.int .i64 0, .int .i64 0, .int .i64 0, .int .i64 0, .int .i64 0, .int .i64 0, .int .i64 0, .int .i64 0, .int .i64 0, .int .i64 0, .int .i64 0, .int .i64 0, .int .i64 0, .int .i64 0, .int .i64 0, .int .i64 0, .int .i64 0, .int .i64 0, .int .i64 0, .int .i64 0, .int .i64 0, .int .i64 0] 36 22 (by decide)
 have K2 := K1.alloc (by omega) (.cells (hdC (restOf h rp ot sm)).toArray 36)
 have R2 := rangeAt_new w1 (hdC (restOf h rp ot sm)) 36
 have F2 := World.there_alloc F1 (.cells (hdC (restOf h rp ot sm)).toArray 36)
 go_wp2_with (first | (refine wpList_store_mid rfl 36 (.tmp 9) (.tmp 10) rfl w1.heap.size 0 _ rfl rfl FA (sizeHand newH) (oneHand newH) ?_; rw [hset]) | (refine wpList_load_mid rfl 36 (.tmp 9) rfl w1.heap.size 0 rfl (hdC (restOf h rp ot sm)) _ ?hc Tryz.underlying36 rfl (sizeHandL _) ?_) | (refine wpList_store_mid rfl 36 (.tmp 8) _ rfl (w.heap.size + 1) 0 _ rfl rfl ?ht ?hi ?h1 ?_))
 case hc => exact R2
 case ht => exact F2
 case hi => exact sizeHand _
 case h1 => exact oneHand _
 refine bodyPost_ret (v := .agg (hdC (restOf h rp ot sm)).toArray) ?_ rfl ⟨rfl, ?_⟩
 ·exact results_row Tryz.results78 _ _ (w.heap.size + 1) 0 rfl (hdC (restOf h rp ot sm)) _ (World.rangeAt_setCells_same _ _ _ _ F2) Tryz.underlying36 rfl (sizeHandL _)
 ·exact Below.setCells (by omega) _ _ _ K2
end
section
attribute [local go_sem ↓] Go.wp_at_zero Go.wp_at_succ
def zeroH : Hd := ⟨0, 0, 0, 0, 0, 0, 0, 0, 0, 0, 0, 0, 0, 0, 0, 0, 0, 0, 0, 0, 0, 0⟩
end
section
attribute [local go_sem ↓] Go.wp_at_zero Go.wp_at_succ
def vrOf (A : Ar) (v : Int) : Vr := A.vers.getD v.toNat ⟨-1, false, -1, -1, 0⟩
def ndOf (A : Ar) (n : Int) : Nd := A.nodes.getD n.toNat ⟨-1, 0, 0⟩
theorem vrOf_nat (A : Ar) (n : Nat) (h : n < A.vers.length) : vrOf A n = A.vers[n] := by simp [vrOf, h]
theorem ndOf_nat (A : Ar) (n : Nat) (h : n < A.nodes.length) : ndOf A n = A.nodes[n] := by simp [ndOf, h]
theorem arenaB_parts {x y z u : Int} {A : Ar} (h : arenaB x y z u A = true) : headB x y z u A = true ∧ allIdx (fun _ v => inB v (-1) 100) A.slots = true ∧ allIdx (fun _ v => inB v 0 ((A.nodes.length : Int) - 1)) A.guides = true ∧ allIdx (nodeB A.vers.length) A.nodes = true ∧ allIdx (verB A.nodes.length A.camera) A.vers = true := by
 simp only [arenaB, Bool.and_eq_true] at h
 exact ⟨h.1.1.1.1, h.1.1.1.2, h.1.1.2, h.1.2, h.2⟩
end
section
attribute [local go_sem ↓] Go.wp_at_zero Go.wp_at_succ
set_option maxRecDepth 100000 in
set_option maxHeartbeats 4000000 in
theorem l7Reply_any (h : Hd) (rp ot sm : Int) (w : World) :
  Calls Tryz.prog 46 #[.agg (hdC h).toArray, .int .i64 rp, .int .i64 ot, .int .i64 sm] w fun e w' => e = .returned (.agg (hdC (restOf h rp ot sm)).toArray) ∧ Below w.heap.size w w' := by
 have X0 := World.rangeAt_alloc (rangeAt_new w (hdC h) 36) (.cells #[.int .i64 0, .int .i64 0, .int .i64 0, .int .i64 0, .int .i64 0, .int .i64 0, .int .i64 0, .int .i64 0, .int .i64 0, .int .i64 0, .int .i64 0, .int .i64 0, .int .i64 0, .int .i64 0, .int .i64 0, .int .i64 0, .int .i64 0, .int .i64 0, .int .i64 0, .int .i64 0, .int .i64 0, .int .i64 0] 36)
 have F0 := there_new (w.alloc (.cells (hdC h).toArray 36)) #[.int .i64 0, .int .i64 0, .int .i64 0, .int .i64 0, .int .i64 0, .int .i64 0, .int .i64 0, .int .i64 0, .int .i64 0, .int .i64 0, .int .i64 0, .int .i64 0, .int .i64 0, .int .i64 0, .int .i64 0, .int .i64 0, .int .i64 0, .int .i64 0, .int .i64 0, .int .i64 0, .int .i64 0, .int .i64 0] 36 22 (by decide)
 have K0 := ((Below.refl w.heap.size w).alloc (Nat.le_refl _) (.cells (hdC h).toArray 36)).alloc (by simp) (.cells #[.int .i64 0, .int .i64 0, .int .i64 0, .int .i64 0, .int .i64 0, .int .i64 0, .int .i64 0, .int .i64 0, .int .i64 0, .int .i64 0, .int .i64 0, .int .i64 0, .int .i64 0, .int .i64 0, .int .i64 0, .int .i64 0, .int .i64 0, .int .i64 0, .int .i64 0, .int .i64 0, .int .i64 0, .int .i64 0] 36)
 have hz0 : w.heap.size + 1 < ((w.alloc (.cells (hdC h).toArray 36)).alloc (.cells #[.int .i64 0, .int .i64 0, .int .i64 0, .int .i64 0, .int .i64 0, .int .i64 0, .int .i64 0, .int .i64 0, .int .i64 0, .int .i64 0, .int .i64 0, .int .i64 0, .int .i64 0, .int .i64 0, .int .i64 0, .int .i64 0, .int .i64 0, .int .i64 0, .int .i64 0, .int .i64 0, .int .i64 0, .int .i64 0] 36)).heap.size := by simp
 simp only [World.size_alloc] at F0
 go_enter Tryz.func46, Tryz.ntmps46
 go_wp2_with (refine wpList_load_mid rfl 36 (.tmp 4) rfl w.heap.size 0 rfl (hdC h) _ ?hc Tryz.underlying36 rfl (sizeHandL h) ?_)
 case hc => exact X0
 generalize hw0 : (w.alloc (.cells (hdC h).toArray 36)).alloc (.cells #[.int .i64 0, .int .i64 0, .int .i64 0, .int .i64 0, .int .i64 0, .int .i64 0, .int .i64 0, .int .i64 0, .int .i64 0, .int .i64 0, .int .i64 0, .int .i64 0, .int .i64 0, .int .i64 0, .int .i64 0, .int .i64 0, .int .i64 0, .int .i64 0, .int .i64 0, .int .i64 0, .int .i64 0, .int .i64 0] 36) = w0 at *
 clear hw0
 refine (specResting_any h rp ot sm _).mono ?_
 rintro e w1 ⟨rfl, b1⟩
 have F1 := there_below F0 b1 (by omega)
 have K1 := K0.trans (b1.mono (by omega))
 clear X0 F0 K0
 go_wp2_with (refine wpList_store_mid rfl 36 (.tmp 8) _ rfl (w.heap.size + 1) 0 _ rfl rfl ?ht ?hi ?h1 ?_)
 case ht => exact F1
 case hi => exact sizeHand _
 case h1 => exact oneHand _
 refine bodyPost_ret (v := .agg (hdC (restOf h rp ot sm)).toArray) ?_ rfl ⟨rfl, ?_⟩
 ·exact results_row Tryz.results46 _ _ (w.heap.size + 1) 0 rfl (hdC (restOf h rp ot sm)) _ (World.rangeAt_setCells_same _ _ _ _ F1) Tryz.underlying36 rfl (sizeHandL _)
 ·exact Below.setCells (by omega) _ _ _ K1
end
section
attribute [local go_sem ↓] Go.wp_at_zero Go.wp_at_succ
theorem specMin_any (x y : Int) (w : World) : Calls Tryz.prog 43 #[.int .i64 x, .int .i64 y] w fun e w' => e = .returned (.int .i64 (min x y)) ∧ w' = w := by
 by_cases h : x < y
 ·go_enter Tryz.func43, Tryz.ntmps43
  go_wp2
  go_ret
  exact ⟨by rw [show min x y = x by omega]; rfl, rfl⟩
 ·go_enter Tryz.func43, Tryz.ntmps43
  go_wp2
  go_ret
  exact ⟨by rw [show min x y = y by omega]; rfl, rfl⟩
theorem arenaB_value {x y z u : Int} {A : Ar} (h : arenaB x y z u A = true) (n : Nat) (hn : n < A.nodes.length) : 0 ≤ A.nodes[n].value ∧ A.nodes[n].value ≤ 9999 := by
 have := (allIdx_iff _ _).1 (arenaB_parts h).2.2.2.1 n hn
 unfold nodeB at this
 split at this <;> (simp only [Bool.and_eq_true, inB_iff, beq_iff_eq] at this; omega)
theorem arenaB_ver {x y z u : Int} {A : Ar} (h : arenaB x y z u A = true) (n : Nat) (hn : n < A.vers.length) : (A.vers[n].next = -1 ∨ 1 ≤ A.vers[n].next ∧ A.vers[n].next < (A.nodes.length : Int)) ∧ (-1 ≤ A.vers[n].stamp ∧ A.vers[n].stamp ≤ A.camera) ∧ (-1 ≤ A.vers[n].prev ∧ A.vers[n].prev < (n : Int)) ∧ (0 ≤ A.vers[n].kind ∧ A.vers[n].kind ≤ 2) := by
 have := (allIdx_iff _ _).1 (arenaB_parts h).2.2.2.2 n hn
 simp only [verB, Bool.and_eq_true, Bool.or_eq_true, inB_iff, beq_iff_eq] at this
 omega
end
section
attribute [local go_sem ↓] Go.wp_at_zero Go.wp_at_succ
theorem arenaB_guides {x y z u : Int} {A : Ar} (h : arenaB x y z u A = true) : (A.guides.length : Int) = u ∧ ∀ g (hg : g < A.guides.length), 0 ≤ A.guides[g] ∧ A.guides[g] < (A.nodes.length : Int) := by
 have h1 := (arenaB_parts h).1
 have h2 := (arenaB_parts h).2.2.1
 simp only [headB, Bool.and_eq_true, beq_iff_eq] at h1
 refine ⟨h1.1.1.2, fun g hg => ?_⟩
 have := (allIdx_iff _ _).1 h2 g hg
 simp only [inB_iff] at this
 omega
def startI (x y z u : Int) (A : Ar) (key : Int) : Int :=
 if 0 ≤ guideI x y z u key ∧ (ndOf A (A.guides.getD (guideI x y z u key).toNat 0)).key < key then A.guides.getD (guideI x y z u key).toNat 0 else 0
theorem guideI_lt (x y z u k : Int) (h : 0 ≤ guideI x y z u k) : guideI x y z u k < u := by
 unfold guideI at h ⊢
 split at h
 ·rename_i hh
  rw [if_pos hh]
  simp only [Bool.and_eq_true] at hh
  have hp := (planB_iff x y z u).1 hh.1
  have hk := (inB_iff _ _ _).1 hh.2
  have : k * u / 64 ≤ u := by
   apply Int.ediv_le_of_le_mul (by omega)
   have : k * u ≤ 64 * u := Int.mul_le_mul_of_nonneg_right (by omega) (by omega)
   omega
  omega
 ·omega
set_option maxRecDepth 100000 in
set_option maxHeartbeats 4000000 in
theorem l9Start_any (B : Nat) (A : Ar) (x y z u key : Int) (a0 a1 a2 a3 : Option Addr) (c0 c1 c2 c3 : Nat) (w : World) (hB : B ≤ w.heap.size) (hA : A.size ≤ 1048576) (I : ArenaIs B w (.slice a0 A.slots.length c0) (.slice a1 A.guides.length c1) (.slice a2 A.nodes.length c2) (.slice a3 A.vers.length c3) A) (hOk : arenaB x y z u A = true) :
  Calls Tryz.prog 44 #[.agg #[.int .i64 x, .int .i64 y, .int .i64 z, .int .i64 u], .agg #[.int .i64 A.camera, .slice a0 A.slots.length c0, .slice a1 A.guides.length c1, .slice a2 A.nodes.length c2, .slice a3 A.vers.length c3], .int .i64 key] w fun e w' => e = .returned (.int .i64 (startI x y z u A key)) ∧ Below w.heap.size w w' := by
 unfold Ar.size at hA
 have P0 := (planAt_alloc w x y z u 43).below ((Below.refl _ _).alloc (Nat.le_refl _) (.cells #[.int .i64 A.camera, .slice a0 A.slots.length c0, .slice a1 A.guides.length c1, .slice a2 A.nodes.length c2, .slice a3 A.vers.length c3] 35)) (by simp)
 have X0 : World.rangeAt ((w.alloc (.cells #[.int .i64 x, .int .i64 y, .int .i64 z, .int .i64 u] 43)).alloc (.cells #[.int .i64 A.camera, .slice a0 A.slots.length c0, .slice a1 A.guides.length c1, .slice a2 A.nodes.length c2, .slice a3 A.vers.length c3] 35)) (w.heap.size + 1) 0 [.int .i64 A.camera, .slice a0 A.slots.length c0, .slice a1 A.guides.length c1, .slice a2 A.nodes.length c2, .slice a3 A.vers.length c3] := by
  have h := rangeAt_new (w.alloc (.cells #[.int .i64 x, .int .i64 y, .int .i64 z, .int .i64 u] 43)) [.int .i64 A.camera, .slice a0 A.slots.length c0, .slice a1 A.guides.length c1, .slice a2 A.nodes.length c2, .slice a3 A.vers.length c3] 35
  simp only [World.size_alloc] at h
  exact h
 have K0 := ((Below.refl w.heap.size w).alloc (Nat.le_refl _) (.cells #[.int .i64 x, .int .i64 y, .int .i64 z, .int .i64 u] 43)).alloc (by simp) (.cells #[.int .i64 A.camera, .slice a0 A.slots.length c0, .slice a1 A.guides.length c1, .slice a2 A.nodes.length c2, .slice a3 A.vers.length c3] 35)
 have hz0 : w.heap.size + 1 < ((w.alloc (.cells #[.int .i64 x, .int .i64 y, .int .i64 z, .int .i64 u] 43)).alloc (.cells #[.int .i64 A.camera, .slice a0 A.slots.length c0, .slice a1 A.guides.length c1, .slice a2 A.nodes.length c2, .slice a3 A.vers.length c3] 35)).heap.size := by simp
 obtain ⟨p0, p1, p2, p3⟩ := P0
 go_enter Tryz.func44, Tryz.ntmps44
 go_wp2_with fail
 refine (specGuideOf_any x y z u key _).mono ?_
 rintro e w1 ⟨rfl, b1⟩
 have X1 := rangeAt_below X0 b1 hz0
 have K1 := K0.trans (b1.mono (by omega))
 have I1 := I.below (K1.mono hB)
 clear p0 p1 p2 p3 X0 K0 b1 I
 obtain ⟨x0, x1, x2, x3, x4⟩ := row5 X1
 by_cases hg0 : 0 ≤ guideI x y z u key
 case neg =>
  have hv : Hid (startI x y z u A key = 0) := by show _ = _; simp [startI, hg0]
  go_wp2_with fail
  have hg2 : ¬ (0 ≤ guideI x y z u key) := by omega
  go_quiet (fail)
  go_wp2
  go_ret
  exact ⟨by rw [hv.out]; rfl, ⟨K1.os, K1.tape, K1.output, K1.size, K1.block⟩⟩
 have hgu := guideI_lt x y z u key hg0
 obtain ⟨hgl, hgs⟩ := arenaB_guides hOk
 obtain ⟨g, hg⟩ : ∃ g : Nat, guideI x y z u key = g := ⟨(guideI x y z u key).toNat, by omega⟩
 have hgn : g < A.guides.length := by omega
 have hgn' : (g : Int) < (A.guides.length : Int) := by omega
 have hgn0 : (0 : Int) ≤ (g : Int) := by omega
 obtain ⟨m0, m1⟩ := hgs g hgn
 obtain ⟨m, hm⟩ : ∃ m : Nat, A.guides[g] = m := ⟨A.guides[g].toNat, by omega⟩
 have hml : m < A.nodes.length := by omega
 have hml' : (m : Int) < (A.nodes.length : Int) := by omega
 have hml0 : (0 : Int) ≤ (m : Int) := by omega
 have hgd : A.guides.getD (guideI x y z u key).toNat 0 = (m : Int) := by rw [hg, Int.toNat_natCast, List.getD_eq_getElem?_getD, List.getElem?_eq_getElem hgn, Option.getD_some, hm]
 obtain ⟨bg, og, rfl, hbg, RG⟩ := SliceAt.at I1.g (by omega)
 obtain ⟨bn, on, rfl, hbn, RN⟩ := SliceAt.at I1.n (by omega)
 have n0 : w1.cell? ⟨bn, on + m * 3, none⟩ = some (.int .i64 A.nodes[m].key) := by simpa using (rangeAt_elem (sz := 3) (fun _ => rfl) RN m hml) 0 _ rfl
 have g0 : w1.cell? ⟨bg, og + g, none⟩ = some (.int .i64 m) := by have := (rangeAt_elem (sz := 1) (fun _ => rfl) RG g hgn) 0 (.int .i64 A.guides[g]) rfl; rw [hm] at this; simpa using this
 have hnd : ndOf A (m : Int) = A.nodes[m] := ndOf_nat A m hml
 have hvv : Hid (startI x y z u A key = if A.nodes[m].key < key then (m : Int) else 0) := by
  show _ = _
  unfold startI
  rw [hgd, hnd]
  by_cases hc : A.nodes[m].key < key
  ·rw [if_pos ⟨hg0, hc⟩, if_pos hc]
  ·rw [if_neg (fun h => hc h.2), if_neg hc]
 rw [hg]
 clear RG RN hgd hg0 hgu hgl hgs hm hg
 by_cases hc : A.nodes[m].key < key
 ·have hv : Hid (startI x y z u A key = (m : Int)) := by show _ = _; rw [hvv.out, if_pos hc]
  go_wp2_with fail
  go_quiet (fail)
  go_wp2
  go_ret
  exact ⟨by rw [hv.out]; rfl, ⟨K1.os, K1.tape, K1.output, K1.size, K1.block⟩⟩
 ·have hv : Hid (startI x y z u A key = 0) := by show _ = _; rw [hvv.out, if_neg hc]
  go_wp2_with fail
  go_quiet (fail)
  go_wp2
  go_ret
  exact ⟨by rw [hv.out]; rfl, ⟨K1.os, K1.tape, K1.output, K1.size, K1.block⟩⟩
structure Dd where
 kind : Int
 key : Int
 value : Int
 stamp : Int
 clock : Int
def ddC (d : Dd) : List Value := [.int .i64 d.kind, .int .i64 d.key, .int .i64 d.value, .int .i64 d.stamp, .int .i64 d.clock]
def zeroD : Dd := ⟨0, 0, 0, 0, 0⟩
theorem sizeDeedL (d : Dd) : (Tryz.prog.info? 38).map (fun i => i.size) = some (ddC d).length := by
 show _ = some 5
 kernel_rfl
end
section
attribute [local go_sem ↓] Go.wp_at_zero Go.wp_at_succ
def doneC (cam : Int) (s g n r : Value) (h : Hd) (d : Dd) (tk : Bool) : List Value := [.int .i64 cam, s, g, n, r] ++ (hdC h ++ (ddC d ++ [.bool tk]))
theorem doneC_length (cam : Int) (s g n r : Value) (h : Hd) (d : Dd) (tk : Bool) : (doneC cam s g n r h d tk).length = 33 := rfl
theorem rangeAt_app {w : World} {b o : Nat} {p q : List Value} (R : w.rangeAt b o (p ++ q)) : w.rangeAt b o p ∧ w.rangeAt b (o + p.length) q := by
 constructor
 ·intro j v hj
  have hlt : j < p.length := by
   rcases Nat.lt_or_ge j p.length with h | h
   ·exact h
   ·rw [List.getElem?_eq_none h] at hj; cases hj
  exact R j v (by rw [List.getElem?_append_left hlt]; exact hj)
 ·intro j v hj
  have := R (p.length + j) v (by rw [List.getElem?_append_right (by omega)]; simpa using hj)
  rw [← Nat.add_assoc] at this
  exact this
theorem rangeAt_join {w : World} {b o : Nat} {p q : List Value} (R : w.rangeAt b o p) (R' : w.rangeAt b (o + p.length) q) : w.rangeAt b o (p ++ q) := by
 intro j v hj
 rcases Nat.lt_or_ge j p.length with h | h
 ·rw [List.getElem?_append_left h] at hj
  exact R j v hj
 ·rw [List.getElem?_append_right h] at hj
  have := R' (j - p.length) v hj
  rw [show o + p.length + (j - p.length) = o + j by omega] at this
  exact this
theorem done_parts {w : World} {b : Nat} {cam : Int} {s g n r : Value} {h : Hd} {d : Dd} {tk : Bool} (R : w.rangeAt b 0 (doneC cam s g n r h d tk)) : w.rangeAt b 0 [.int .i64 cam, s, g, n, r] ∧ w.rangeAt b 5 (hdC h) ∧ w.rangeAt b 27 (ddC d) ∧ w.cell? ⟨b, 32, none⟩ = some (.bool tk) := by
 unfold doneC at R
 obtain ⟨R1, R2⟩ := rangeAt_app R
 obtain ⟨R3, R4⟩ := rangeAt_app R2
 obtain ⟨R5, R6⟩ := rangeAt_app R4
 refine ⟨R1, R3, R5, ?_⟩
 have := R6 0 (.bool tk) rfl
 exact this
theorem sizeDone (cam : Int) (s g n r : Value) (h : Hd) (d : Dd) (tk : Bool) : (Tryz.prog.info? 40).map (fun i => i.size) = some (doneC cam s g n r h d tk).toArray.size := by
 show _ = some 33
 kernel_rfl
theorem sizeDoneL (cam : Int) (s g n r : Value) (h : Hd) (d : Dd) (tk : Bool) : (Tryz.prog.info? 40).map (fun i => i.size) = some (doneC cam s g n r h d tk).length := by
 show _ = some 33
 kernel_rfl
theorem oneDone (cam : Int) (a0 a1 a2 a3 : Option Addr) (l0 l1 l2 l3 c0 c1 c2 c3 : Nat) (h : Hd) (d : Dd) (tk : Bool) : (doneC cam (.slice a0 l0 c0) (.slice a1 l1 c1) (.slice a2 l2 c2) (.slice a3 l3 c3) h d tk).toArray.all (·.oneCell') = true := by simp [doneC, hdC, ddC, Value.oneCell']
end
end Go.Proofs.YtlfjhcdjgoeafaaGreatDoor
