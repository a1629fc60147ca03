/-
  StartFor answers as the document's model does: at every Plan, Arena and key the law of StartFor returns true and leaves its arguments as they were; the errors that it names read as their initialisers lay them: the card ties that to the program's text.
-/
import Derived.Deep.Cut
import Derived.Test.YtlfjhcdjgoeafaaDoorCards
import Derived.Test.YtlfjhcdjgoeafaaDoorTie
import Derived.ChangeSame
import Derived.ChangeVars
import Derived.JoinedOf
import Derived.LaidHandle
import Derived.LaidOnce
import Derived.LaidMore
import Derived.ProofKit
import Derived.OpenShut
import Derived.Stop.Joined
import Derived.SevenTiedAt
import Derived.Test.YtlfjhcdjgoeafaaDoorStartFor00
import Derived.Test.YtlfjhcdjgoeafaaDoorStartFor02
import Derived.Test.YtlfjhcdjgoeafaaDoorStartFor04
import Derived.Test.YtlfjhcdjgoeafaaDoorStartFor07
import Derived.Test.YtlfjhcdjgoeafaaDoorStartFor08
namespace Go.Proofs.YtlfjhcdjgoeafaaDoor
open Go.ChangeShapes Go.WideShapes Go.ChangeAt Go.RowKit
set_option linter.unusedVariables false
set_option linter.unusedSimpArgs false
set_option linter.unnecessarySimpa false
set_option linter.unusedSectionVars false
section
attribute [local go_sem ↓] Go.wp_at_zero Go.wp_at_succ
theorem OwnCells.lower {base lo : Nat} {w : World} {cb : Nat} {s g n r : Value} {ps qs : List Addr} {A : Ar} (h : OwnCells base w cb s g n r ps qs A) (hl : lo ≤ base) : OwnCells lo w cb s g n r ps qs A :=
 ⟨h.row, h.blk, Nat.le_trans hl h.lo, own_lo h.ss hl, own_lo h.sg hl, own_lo h.sn hl, own_lo h.sr hl, h.np.lo hl, h.vp.lo hl, h.ne⟩
def askH (key : Int) : Hd := { zeroH with at_ := 1, key := key }
def startG5 (lo : Nat) (x y z u key : Int) (A : Ar) (a0 a1 a2 a3 : Option Addr) (c0 c1 c2 c3 : Nat) : Nat → Value → World → Prop
 | 0, v, _ => v = .agg #[.int .i64 A.camera, .slice a0 A.slots.length c0, .slice a1 A.guides.length c1, .slice a2 A.nodes.length c2, .slice a3 A.vers.length c3]
 | 1, v, w => ∃ cb s g n r ps qs, v = .pointer (some ⟨cb, 0, none⟩) ∧ OwnCells lo w cb s g n r ps qs A
 | 2, v, _ => v = .agg #[.int .i64 x, .int .i64 y, .int .i64 z, .int .i64 u]
 | 3, v, _ => v = .int .i64 key
 | 4, v, _ => v = .agg (hdC (askH key)).toArray
 | _, _, _ => True
theorem startG5_kept {lo : Nat} {x y z u key : Int} {A : Ar} {a0 a1 a2 a3 : Option Addr} {c0 c1 c2 c3 : Nat} (i : Nat) (v : Value) (w w' : World) (hq : startG5 lo x y z u key A a0 a1 a2 a3 c0 c1 c2 c3 i v w) (hb : Below w.heap.size w w') : startG5 lo x y z u key A a0 a1 a2 a3 c0 c1 c2 c3 i v w' := by
 match i, hq with
 | 0, h | 2, h | 3, h | 4, h => exact h
 | 1, h => obtain ⟨cb, s, g, n, r, ps, qs, e, C⟩ := h; exact ⟨cb, s, g, n, r, ps, qs, e, C.grown hb⟩
 | n + 5, h => exact trivial
set_option maxRecDepth 100000 in
set_option maxHeartbeats 4000000 in
theorem startFor_any (B : Nat) (A : Ar) (x y z u key : Int) (a0 a1 a2 a3 : Option Addr) (c0 c1 c2 c3 : Nat) (w : World) (hB : B ≤ w.heap.size) (hA : A.size ≤ 1048576) (I : ArenaIs B w (.slice a0 A.slots.length c0) (.slice a1 A.guides.length c1) (.slice a2 A.nodes.length c2) (.slice a3 A.vers.length c3) A) :
  Calls Tryd.prog 14 #[.agg #[.int .i64 x, .int .i64 y, .int .i64 z, .int .i64 u], .agg #[.int .i64 A.camera, .slice a0 A.slots.length c0, .slice a1 A.guides.length c1, .slice a2 A.nodes.length c2, .slice a3 A.vers.length c3], .int .i64 key] w fun e w' => e = .returned (.int .i64 (startForI x y z u A key)) ∧ Below w.heap.size w w' := by
 have hA' := hA
 unfold Ar.size at hA
 have P0 := World.rangeAt_alloc (rangeAt_new w [.int .i64 x, .int .i64 y, .int .i64 z, .int .i64 u] 36) (.cells #[.int .i64 A.camera, .slice a0 A.slots.length c0, .slice a1 A.guides.length c1, .slice a2 A.nodes.length c2, .slice a3 A.vers.length c3] 33)
 have X0 := rangeAt_new (w.alloc (.cells #[.int .i64 x, .int .i64 y, .int .i64 z, .int .i64 u] 36)) [.int .i64 A.camera, .slice a0 A.slots.length c0, .slice a1 A.guides.length c1, .slice a2 A.nodes.length c2, .slice a3 A.vers.length c3] 33
 have K0 := ((Below.refl w.heap.size w).alloc (Nat.le_refl _) (.cells #[.int .i64 x, .int .i64 y, .int .i64 z, .int .i64 u] 36)).alloc (by simp) (.cells #[.int .i64 A.camera, .slice a0 A.slots.length c0, .slice a1 A.guides.length c1, .slice a2 A.nodes.length c2, .slice a3 A.vers.length c3] 33)
 have hz0 : w.heap.size + 1 < ((w.alloc (.cells #[.int .i64 x, .int .i64 y, .int .i64 z, .int .i64 u] 36)).alloc (.cells #[.int .i64 A.camera, .slice a0 A.slots.length c0, .slice a1 A.guides.length c1, .slice a2 A.nodes.length c2, .slice a3 A.vers.length c3] 33)).heap.size := by simp
 simp only [World.size_alloc] at X0
 have I0 := I.below (K0.mono hB)
 go_enter Tryd.func14, Tryd.ntmps14
 go_upto_region 1 with fail
 generalize hw0 : (w.alloc (.cells #[.int .i64 x, .int .i64 y, .int .i64 z, .int .i64 u] 36)).alloc (.cells #[.int .i64 A.camera, .slice a0 A.slots.length c0, .slice a1 A.guides.length c1, .slice a2 A.nodes.length c2, .slice a3 A.vers.length c3] 33) = w0 at *
 clear hw0 I
 have hB0 : B ≤ w0.heap.size := Nat.le_trans hB K0.size
 obtain ⟨x0, x1, x2, x3, x4⟩ := row5 X0
 obtain ⟨y0, y1, y2, y3⟩ : w0.cell? ⟨w.heap.size, 0, none⟩ = some (.int .i64 x) ∧ w0.cell? ⟨w.heap.size, 1, none⟩ = some (.int .i64 y) ∧ w0.cell? ⟨w.heap.size, 2, none⟩ = some (.int .i64 z) ∧ w0.cell? ⟨w.heap.size, 3, none⟩ = some (.int .i64 u) := ⟨by simpa using P0 0 _ rfl, by simpa using P0 1 _ rfl, by simpa using P0 2 _ rfl, by simpa using P0 3 _ rfl⟩
 go_wp2_with fail
 refine (arenaOk_any B A x y z u a0 a1 a2 a3 c0 c1 c2 c3 w0 hB0 hA' I0).mono ?_
 rintro e w1 ⟨rfl, b0⟩
 have P1 := rangeAt_below P0 b0 (by omega)
 have X1 := rangeAt_below X0 b0 (by omega)
 have K1 := K0.trans (b0.mono (by omega))
 have I1 := I0.below (b0.mono hB0)
 have hz1 := Nat.lt_of_lt_of_le hz0 b0.size
 have hB1 := Nat.le_trans hB0 b0.size
 clear P0 X0 K0 I0 hz0 hB0 b0 x0 x1 x2 x3 x4 y0 y1 y2 y3
 cases ef : arenaB x y z u A
 case false =>
  have hb : Hid (startForI x y z u A key = -1) := by show _ = _; simp [startForI, ef]
  go_wp2_with fail
  go_ret
  exact ⟨by rw [hb.out]; rfl, K1⟩
 have hOk : Hid (arenaB x y z u A = true) := ef
 clear ef
 cases ek : inB key 0 63
 case false =>
  have hb : Hid (startForI x y z u A key = -1) := by show _ = _; simp [startForI, ek]
  go_wp2_with (go_at_call 42; refine (keyOk_any _ _).mono ?_; rintro e w' ⟨rfl, hw⟩; obtain rfl := hw.symm; rw [ek])
  go_ret
  exact ⟨by rw [hb.out]; rfl, K1⟩
 have hb : Hid (startForI x y z u A key = startI x y z u A key) := by show _ = _; simp [startForI, ek, hOk.out]
 go_upto_region 3 with (go_at_call 42; refine (keyOk_any _ _).mono ?_; rintro e w' ⟨rfl, hw⟩; obtain rfl := hw.symm; rw [ek])
 refine any_order_tail 5 (by kernel_rfl) (startG5 w1.heap.size x y z u key A a0 a1 a2 a3 c0 c1 c2 c3) (fun _ => false) (by kernel_rfl) (by kernel_rfl) (by kernel_rfl) (by kernel_rfl) (by rfl) (fun i v w w' _ h hb => startG5_kept i v w w' h hb) (fun i v w q hf h hq => by cases hf) ?step ?final
 case step =>
  intro i o hik ho a V hb hnn hd K hK
  have PV := rangeAt_below P1 hb (by omega)
  have XV := rangeAt_below X1 hb (by omega)
  have IV := I1.below (hb.mono hB1)
  have hBV : B ≤ V.heap.size := Nat.le_trans hB1 hb.size
  match i, ho with
  | 0, ho =>
   obtain rfl := Option.some.inj ho
   obtain ⟨x0, x1, x2, x3, x4⟩ := row5 XV
   have e1 : a.eval (.tmp 4) = .pointer (some ⟨w.heap.size + 1, 0, none⟩) := hnn 4 rfl
   refine step_value (v := .agg #[.int .i64 A.camera, .slice a0 A.slots.length c0, .slice a1 A.guides.length c1, .slice a2 A.nodes.length c2, .slice a3 A.vers.length c3]) (w' := V) ?_ (hK _ _ rfl (Below.refl _ _) (fun h => by cases h))
   clear PV XV IV
   generalize a.eval = ev at *
   go_simp
  | 1, ho =>
   obtain rfl := Option.some.inj ho
   have e1 : a.eval (.tmp 16) = .agg #[.int .i64 A.camera, .slice a0 A.slots.length c0, .slice a1 A.guides.length c1, .slice a2 A.nodes.length c2, .slice a3 A.vers.length c3] := hd ⟨0, .data⟩ (by simp) rfl 16 rfl
   have ef : a.eval (.func 26) = .func (.func 26) #[] #[] := rfl
   refine step_call (f := 26) (args := #[.agg #[.int .i64 A.camera, .slice a0 A.slots.length c0, .slice a1 A.guides.length c1, .slice a2 A.nodes.length c2, .slice a3 A.vers.length c3]]) (R := fun v w' => (∃ cb s g n r ps qs, v = .pointer (some ⟨cb, 0, none⟩) ∧ OwnCells w1.heap.size w' cb s g n r ps qs A) ∧ Below V.heap.size V w') ?_ ((cellsOf_new B A a0 a1 a2 a3 c0 c1 c2 c3 V hBV hA' IV).mono (fun e w' h => by obtain ⟨cb, s, g, n, r, ps, qs, e1, C, bC⟩ := h; exact ⟨_, e1, ⟨cb, s, g, n, r, ps, qs, rfl, C.lower hb.size⟩, bC⟩)) (fun v w' h => hK v w' h.1 h.2 (fun h => by cases h))
   clear PV XV IV
   generalize a.eval = ev at *
   go_simp
  | 2, ho =>
   obtain rfl := Option.some.inj ho
   obtain ⟨y0, y1, y2, y3⟩ : V.cell? ⟨w.heap.size, 0, none⟩ = some (.int .i64 x) ∧ V.cell? ⟨w.heap.size, 1, none⟩ = some (.int .i64 y) ∧ V.cell? ⟨w.heap.size, 2, none⟩ = some (.int .i64 z) ∧ V.cell? ⟨w.heap.size, 3, none⟩ = some (.int .i64 u) := ⟨by simpa using PV 0 _ rfl, by simpa using PV 1 _ rfl, by simpa using PV 2 _ rfl, by simpa using PV 3 _ rfl⟩
   have e1 : a.eval (.tmp 3) = .pointer (some ⟨w.heap.size, 0, none⟩) := hnn 3 rfl
   refine step_value (v := .agg #[.int .i64 x, .int .i64 y, .int .i64 z, .int .i64 u]) (w' := V) ?_ (hK _ _ rfl (Below.refl _ _) (fun h => by cases h))
   clear PV XV IV
   generalize a.eval = ev at *
   go_simp
  | 3, ho =>
   obtain rfl := Option.some.inj ho
   have e1 : a.eval (.tmp 2) = .int .i64 key := hnn 2 rfl
   refine step_value (v := .int .i64 key) (w' := V) ?_ (hK _ _ rfl (Below.refl _ _) (fun h => by cases h))
   clear PV XV IV
   generalize a.eval = ev at *
   go_simp
  | 4, ho =>
   obtain rfl := Option.some.inj ho
   have e1 : a.eval (.tmp 19) = .int .i64 key := hd ⟨3, .data⟩ (by simp) rfl 19 rfl
   have k1 : a.eval (.const (.int .i64 1)) = .int .i64 1 := rfl
   refine step_value (v := .agg (hdC (askH key)).toArray) (w' := V) ?_ (hK _ _ rfl (Below.refl _ _) (fun h => by cases h))
   clear PV XV IV
   simp only [askH, hdC, zeroH]
   generalize a.eval = ev at *
   go_simp
   try rfl
  | n + 5, ho => omega
 case final =>
  intro vs V hb hG _
  obtain ⟨cb, s, g, n, r, ps, qs, g1, C⟩ := (show ∃ cb s g n r ps qs, vs 1 = .pointer (some ⟨cb, 0, none⟩) ∧ OwnCells w1.heap.size V cb s g n r ps qs A from hG 1 (by decide))
  have g2 : vs 2 = .agg #[.int .i64 x, .int .i64 y, .int .i64 z, .int .i64 u] := hG 2 (by decide)
  have g4 : vs 4 = .agg (hdC (askH key)).toArray := hG 4 (by decide)
  have K2 := K1.trans (hb.mono (by omega))
  have hs2 := hb.size
  generalize hl : laid _ vs _ _ _ = A'
  have hA'' : A' = { tmps := #[.agg #[.int .i64 x, .int .i64 y, .int .i64 z, .int .i64 u], .agg #[.int .i64 A.camera, .slice a0 A.slots.length c0, .slice a1 A.guides.length c1, .slice a2 A.nodes.length c2, .slice a3 A.vers.length c3], .int .i64 key, .pointer (some ⟨w.heap.size, 0, none⟩), .pointer (some ⟨w.heap.size + 1, 0, none⟩), undef, .int .i64 0, .agg #[.int .i64 x, .int .i64 y, .int .i64 z, .int .i64 u], .agg #[.int .i64 A.camera, .slice a0 A.slots.length c0, .slice a1 A.guides.length c1, .slice a2 A.nodes.length c2, .slice a3 A.vers.length c3], .bool true, .bool false, .bool false, .int .i64 key, .bool true, .bool false, .bool false, vs 0, vs 1, vs 2, vs 3, vs 4, undef, undef], defers := [] } := by
   rw [← hl]
   kernel_rfl
  subst hA''
  rw [g1, g2, g4]
  clear hl hG g1 g2 g4 hb P1 X1 K1 I1
  simp only [List.drop_succ_cons, List.drop_zero]
  go_wp2_with fail
  refine (find_begin w1.heap.size cb s g n r ps qs A (askH key) x y z u ⟨0, 0, none⟩ ⟨0, 0, none⟩ ⟨0, 0, none⟩ V hs2 hA' C rfl (by show (0 : Int) ≤ 0; omega) (by show (0 : Int) ≤ 20000; omega) hOk.out).mono ?_
  rintro e w3 ⟨rfl, b3⟩
  obtain ⟨h9, hh9⟩ : ∃ h9, Hid ((findOf x y z u A (askH key)).2 = h9) := ⟨_, rfl⟩
  have hx : Hid (h9.x_ = startI x y z u A key) := by show _ = _; rw [← hh9.out, findOf, if_pos (show (askH key).at_ = 1 from rfl)]; rfl
  rw [hh9.out]
  clear hh9
  have hfd : (Instr.field 70 (.agg (hdC h9).toArray) 10).run Tryd.prog w3 = .ok (.int .i64 h9.x_) w3 := by kernel_rfl
  go_wp2
  go_ret
  exact ⟨by rw [hb.out, ← hx.out]; rfl, K2.trans (b3.mono (by omega))⟩
end
section
attribute [local go_sem ↓] Go.wp_at_zero Go.wp_at_succ
set_option maxRecDepth 100000 in
set_option maxHeartbeats 4000000 in
theorem startFor_walk (x y z u : Int) (wx : (Lit.int .i64 x).wf = true) (wy : (Lit.int .i64 y).wf = true) (wz : (Lit.int .i64 z).wf = true) (wu : (Lit.int .i64 u).wf = true) (A : Ar) (a0 a1 a2 a3 : Option Addr) (c0 c1 c2 c3 : Nat) (i0 : Int) (wi0 : (Lit.int .i64 i0).wf = true) (w : World)
  (I : ArenaIs w.heap.size w (.slice a0 A.slots.length c0) (.slice a1 A.guides.length c1) (.slice a2 A.nodes.length c2) (.slice a3 A.vers.length c3) A) (m0 : A.slots.length ≤ maxLen) (m1 : A.guides.length ≤ maxLen) (m2 : A.nodes.length ≤ maxLen) (m3 : A.vers.length ≤ maxLen) :
  Calls Tryd.prog 4 #[.agg #[.int .i64 x, .int .i64 y, .int .i64 z, .int .i64 u], .agg #[.int .i64 A.camera, .slice a0 A.slots.length c0, .slice a1 A.guides.length c1, .slice a2 A.nodes.length c2, .slice a3 A.vers.length c3], .int .i64 i0] w fun e w' => e = .returned (.bool true) ∧ Below w.heap.size w w' := by
 unfold maxLen at m0 m1 m2 m3
 clear wx wy wz wu
 have P0 := (planAt_alloc w x y z u 23).below ((Below.refl _ _).alloc (Nat.le_refl _) (.cells #[.int .i64 A.camera, .slice a0 A.slots.length c0, .slice a1 A.guides.length c1, .slice a2 A.nodes.length c2, .slice a3 A.vers.length c3] 28)) (by simp)
 have X0 : World.rangeAt ((w.alloc (.cells #[.int .i64 x, .int .i64 y, .int .i64 z, .int .i64 u] 23)).alloc (.cells #[.int .i64 A.camera, .slice a0 A.slots.length c0, .slice a1 A.guides.length c1, .slice a2 A.nodes.length c2, .slice a3 A.vers.length c3] 28)) (w.heap.size + 1) 0 [.int .i64 A.camera, .slice a0 A.slots.length c0, .slice a1 A.guides.length c1, .slice a2 A.nodes.length c2, .slice a3 A.vers.length c3] := by
  have h := rangeAt_new (w.alloc (.cells #[.int .i64 x, .int .i64 y, .int .i64 z, .int .i64 u] 23)) [.int .i64 A.camera, .slice a0 A.slots.length c0, .slice a1 A.guides.length c1, .slice a2 A.nodes.length c2, .slice a3 A.vers.length c3] 28
  simp only [World.size_alloc] at h
  exact h
 have K0 := ((Below.refl w.heap.size w).alloc (Nat.le_refl _) (.cells #[.int .i64 x, .int .i64 y, .int .i64 z, .int .i64 u] 23)).alloc (by simp) (.cells #[.int .i64 A.camera, .slice a0 A.slots.length c0, .slice a1 A.guides.length c1, .slice a2 A.nodes.length c2, .slice a3 A.vers.length c3] 28)
 have hz0 : w.heap.size + 1 < ((w.alloc (.cells #[.int .i64 x, .int .i64 y, .int .i64 z, .int .i64 u] 23)).alloc (.cells #[.int .i64 A.camera, .slice a0 A.slots.length c0, .slice a1 A.guides.length c1, .slice a2 A.nodes.length c2, .slice a3 A.vers.length c3] 28)).heap.size := by simp
 by_cases hA : A.size ≤ 1048576
 case neg =>
  unfold Ar.size at hA
  go_enter Tryd.func4, Tryd.ntmps4
  go_wp2_with fail
  refine (szArena_not _ _ _ _ _ _ _ _ _ _ _ _ _ _ (by omega) (by omega) (by omega) (by omega) (by omega)).mono ?_
  rintro e w1 ⟨rfl, b1⟩
  go_wp2
  go_ret
  exact ⟨rfl, K0.trans (b1.mono (by omega))⟩
 have hA' : A.slots.length + A.guides.length + A.nodes.length + A.vers.length ≤ 1048576 := hA
 go_enter Tryd.func4, Tryd.ntmps4
 go_wp2_with fail
 refine (szArena_fit _ _ _ _ _ _ _ _ _ _ _ _ _ _ hA').mono ?_
 rintro e w1 ⟨rfl, b1⟩
 have P1 := P0.below b1 (by omega)
 have X1 := rangeAt_below X0 b1 hz0
 have K1 := K0.trans (b1.mono (by omega))
 have I1 := I.below K1
 have hz1 := Nat.lt_of_lt_of_le hz0 b1.size
 have hz0' : w.heap.size < w1.heap.size := by omega
 clear P0 X0 K0 I b1 hz0
 have P1' := P1
 obtain ⟨p0', p1', p2', p3'⟩ := P1'
 obtain ⟨x0', x1', x2', x3', x4'⟩ := row5 X1
 have BB := Below.refl w1.heap.size w1
 go_wp2_with fail
 go_region_held3 (fun w' => w'.cell? ⟨w.heap.size, 0, none⟩ = some (.int .i64 x) ∧ w'.cell? ⟨w.heap.size, 1, none⟩ = some (.int .i64 y) ∧ w'.cell? ⟨w.heap.size, 2, none⟩ = some (.int .i64 z) ∧ w'.cell? ⟨w.heap.size, 3, none⟩ = some (.int .i64 u) ∧ w'.cell? ⟨w.heap.size + 1, 0, none⟩ = some (.int .i64 A.camera) ∧ w'.cell? ⟨w.heap.size + 1, 1, none⟩ = some (.slice a0 A.slots.length c0) ∧ w'.cell? ⟨w.heap.size + 1, 2, none⟩ = some (.slice a1 A.guides.length c1) ∧ w'.cell? ⟨w.heap.size + 1, 3, none⟩ = some (.slice a2 A.nodes.length c2) ∧ w'.cell? ⟨w.heap.size + 1, 4, none⟩ = some (.slice a3 A.vers.length c3)) (go_keep) (first | (go_at_call 7; refine (toPlan_any _ _ _ _ _).mono ?_; rintro e wi ⟨rfl, bi⟩; replace BB : Below w1.heap.size w1 wi := (by first | exact BB.drew.trans (bi.mono (by exact BB.size)) | exact BB.trans (bi.mono (by exact BB.size))); obtain ⟨p0', p1', p2', p3'⟩ := P1.below BB hz0'; obtain ⟨x0', x1', x2', x3', x4'⟩ := row5 (rangeAt_below X1 BB hz1)) | (go_at_call 8; refine (toArena_at BB (Nat.le_of_lt hz0') hA I1).mono ?_; rintro e wi ⟨p0, p1, p2, p3, rfl, J, bi⟩; replace BB : Below w1.heap.size w1 wi := (by first | exact BB.drew.trans (bi.mono (by exact BB.size)) | exact BB.trans (bi.mono (by exact BB.size))); obtain ⟨p0', p1', p2', p3'⟩ := P1.below BB hz0'; obtain ⟨x0', x1', x2', x3', x4'⟩ := row5 (rangeAt_below X1 BB hz1)) | (go_at_call 13; refine (specStartFor_any _ A x y z u i0 _ _ _ _ _ _ _ _ _ (Nat.le_refl _) hA ?_).mono ?_; exact J; rintro e wi ⟨rfl, bi⟩; replace BB : Below w1.heap.size w1 wi := (by first | exact BB.drew.trans (bi.mono (by exact BB.size)) | exact BB.trans (bi.mono (by exact BB.size))); obtain ⟨p0', p1', p2', p3'⟩ := P1.below BB hz0'; obtain ⟨x0', x1', x2', x3', x4'⟩ := row5 (rangeAt_below X1 BB hz1)))
 go_wp2_with fail
 refine (toArena_at BB (Nat.le_of_lt hz0') hA I1).mono ?_
 rintro e w4 ⟨q0, q1, q2, q3, rfl, J4, b4⟩
 replace BB : Below w1.heap.size w1 w4 := BB.trans (b4.mono BB.size)
 have P4 := P1.below BB hz0'
 have X4 := rangeAt_below X1 BB hz1
 have K4 := K1.trans (BB.mono (Nat.le_of_lt hz0'))
 have I4 := I1.below (BB.mono (Nat.le_of_lt hz0'))
 have z4 := BB.size
 clear b4 P1 X1 K1 I1 J BB
 have al := (Below.refl w4.heap.size w4).alloc (Nat.le_refl _) (.cells #[.int .i64 A.camera, .slice (some ⟨q0, 0, none⟩) A.slots.length A.slots.length, .slice (some ⟨q1, 0, none⟩) A.guides.length A.guides.length, .slice (some ⟨q2, 0, none⟩) A.nodes.length A.nodes.length, .slice (some ⟨q3, 0, none⟩) A.vers.length A.vers.length] 33)
 have P5 := P4.below al (by omega)
 have X5 := rangeAt_below X4 al (by omega)
 have Y5 := rangeAt_new w4 [.int .i64 A.camera, .slice (some ⟨q0, 0, none⟩) A.slots.length A.slots.length, .slice (some ⟨q1, 0, none⟩) A.guides.length A.guides.length, .slice (some ⟨q2, 0, none⟩) A.nodes.length A.nodes.length, .slice (some ⟨q3, 0, none⟩) A.vers.length A.vers.length] 33
 have K5 := K4.trans (al.mono (by omega))
 have I5 := I4.below (al.mono (by omega))
 have J5 := (J4.below al).weaken al.size
 have hz7 : w4.heap.size < (w4.alloc (.cells #[.int .i64 A.camera, .slice (some ⟨q0, 0, none⟩) A.slots.length A.slots.length, .slice (some ⟨q1, 0, none⟩) A.guides.length A.guides.length, .slice (some ⟨q2, 0, none⟩) A.nodes.length A.nodes.length, .slice (some ⟨q3, 0, none⟩) A.vers.length A.vers.length] 33)).heap.size := by simp
 have hz6 : w.heap.size + 1 < (w4.alloc (.cells #[.int .i64 A.camera, .slice (some ⟨q0, 0, none⟩) A.slots.length A.slots.length, .slice (some ⟨q1, 0, none⟩) A.guides.length A.guides.length, .slice (some ⟨q2, 0, none⟩) A.nodes.length A.nodes.length, .slice (some ⟨q3, 0, none⟩) A.vers.length A.vers.length] 33)).heap.size := by omega
 have hz5 : w.heap.size < (w4.alloc (.cells #[.int .i64 A.camera, .slice (some ⟨q0, 0, none⟩) A.slots.length A.slots.length, .slice (some ⟨q1, 0, none⟩) A.guides.length A.guides.length, .slice (some ⟨q2, 0, none⟩) A.nodes.length A.nodes.length, .slice (some ⟨q3, 0, none⟩) A.vers.length A.vers.length] 33)).heap.size := by omega
 clear P4 X4 K4 I4 J4 al
 go_wp2_with fail
 generalize hw5 : w4.alloc (.cells #[.int .i64 A.camera, .slice (some ⟨q0, 0, none⟩) A.slots.length A.slots.length, .slice (some ⟨q1, 0, none⟩) A.guides.length A.guides.length, .slice (some ⟨q2, 0, none⟩) A.nodes.length A.nodes.length, .slice (some ⟨q3, 0, none⟩) A.vers.length A.vers.length] 33) = w5 at *
 clear hw5
 have BB := Below.refl w5.heap.size w5
 have P5' := P5
 obtain ⟨p0', p1', p2', p3'⟩ := P5'
 obtain ⟨x0', x1', x2', x3', x4'⟩ := row5 X5
 obtain ⟨y0', y1', y2', y3', y4'⟩ := row5 Y5
 go_region_held3 (fun w' => w'.cell? ⟨w.heap.size, 0, none⟩ = some (.int .i64 x) ∧ w'.cell? ⟨w.heap.size, 1, none⟩ = some (.int .i64 y) ∧ w'.cell? ⟨w.heap.size, 2, none⟩ = some (.int .i64 z) ∧ w'.cell? ⟨w.heap.size, 3, none⟩ = some (.int .i64 u) ∧ w'.cell? ⟨w4.heap.size, 0, none⟩ = some (.int .i64 A.camera) ∧ w'.cell? ⟨w4.heap.size, 1, none⟩ = some (.slice (some ⟨q0, 0, none⟩) A.slots.length A.slots.length) ∧ w'.cell? ⟨w4.heap.size, 2, none⟩ = some (.slice (some ⟨q1, 0, none⟩) A.guides.length A.guides.length) ∧ w'.cell? ⟨w4.heap.size, 3, none⟩ = some (.slice (some ⟨q2, 0, none⟩) A.nodes.length A.nodes.length) ∧ w'.cell? ⟨w4.heap.size, 4, none⟩ = some (.slice (some ⟨q3, 0, none⟩) A.vers.length A.vers.length)) (go_keep) (first | (go_at_call 7; refine (toPlan_any _ _ _ _ _).mono ?_; rintro e wi ⟨rfl, bi⟩; replace BB : Below w5.heap.size w5 wi := (by first | exact BB.drew.trans (bi.mono (by exact BB.size)) | exact BB.trans (bi.mono (by exact BB.size))); obtain ⟨p0', p1', p2', p3'⟩ := P5.below BB hz5; obtain ⟨x0', x1', x2', x3', x4'⟩ := row5 (rangeAt_below X5 BB hz6); obtain ⟨y0', y1', y2', y3', y4'⟩ := row5 (rangeAt_below Y5 BB hz7)) | (go_at_call 14; refine (startFor_any w5.heap.size A x y z u i0 _ _ _ _ _ _ _ _ _ BB.size hA (J5.below BB)).mono ?_; rintro e wi ⟨rfl, bi⟩; replace BB : Below w5.heap.size w5 wi := (by first | exact BB.drew.trans (bi.mono (by exact BB.size)) | exact BB.trans (bi.mono (by exact BB.size))); obtain ⟨p0', p1', p2', p3'⟩ := P5.below BB hz5; obtain ⟨x0', x1', x2', x3', x4'⟩ := row5 (rangeAt_below X5 BB hz6); obtain ⟨y0', y1', y2', y3', y4'⟩ := row5 (rangeAt_below Y5 BB hz7)))
 go_wp2_with fail
 go_region_held3 (fun w' => w'.cell? ⟨w4.heap.size, 0, none⟩ = some (.int .i64 A.camera) ∧ w'.cell? ⟨w4.heap.size, 1, none⟩ = some (.slice (some ⟨q0, 0, none⟩) A.slots.length A.slots.length) ∧ w'.cell? ⟨w4.heap.size, 2, none⟩ = some (.slice (some ⟨q1, 0, none⟩) A.guides.length A.guides.length) ∧ w'.cell? ⟨w4.heap.size, 3, none⟩ = some (.slice (some ⟨q2, 0, none⟩) A.nodes.length A.nodes.length) ∧ w'.cell? ⟨w4.heap.size, 4, none⟩ = some (.slice (some ⟨q3, 0, none⟩) A.vers.length A.vers.length) ∧ w'.cell? ⟨w.heap.size + 1, 0, none⟩ = some (.int .i64 A.camera) ∧ w'.cell? ⟨w.heap.size + 1, 1, none⟩ = some (.slice a0 A.slots.length c0) ∧ w'.cell? ⟨w.heap.size + 1, 2, none⟩ = some (.slice a1 A.guides.length c1) ∧ w'.cell? ⟨w.heap.size + 1, 3, none⟩ = some (.slice a2 A.nodes.length c2) ∧ w'.cell? ⟨w.heap.size + 1, 4, none⟩ = some (.slice a3 A.vers.length c3)) (go_keep) (first | (go_at_call 8; refine (toArena_at BB.drew (Nat.le_of_lt hz5) hA I5).mono ?_; rintro e wi ⟨r0, r1, r2, r3, rfl, J6, bi⟩; replace BB : Below w5.heap.size w5 wi := (by first | exact BB.drew.trans (bi.mono (by exact BB.size)) | exact BB.trans (bi.mono (by exact BB.size))); obtain ⟨p0', p1', p2', p3'⟩ := P5.below BB hz5; obtain ⟨x0', x1', x2', x3', x4'⟩ := row5 (rangeAt_below X5 BB hz6); obtain ⟨y0', y1', y2', y3', y4'⟩ := row5 (rangeAt_below Y5 BB hz7)) | (go_at_call 10; refine (eqArena_any _ A _ _ _ _ _ _ _ _ _ (Nat.le_refl _) hA ((J5.below BB).weaken BB.size) J6).mono ?_; rintro e wi ⟨rfl, bi⟩; replace BB : Below w5.heap.size w5 wi := (by first | exact BB.drew.trans (bi.mono (by exact BB.size)) | exact BB.trans (bi.mono (by exact BB.size))); obtain ⟨p0', p1', p2', p3'⟩ := P5.below BB hz5; obtain ⟨x0', x1', x2', x3', x4'⟩ := row5 (rangeAt_below X5 BB hz6); obtain ⟨y0', y1', y2', y3', y4'⟩ := row5 (rangeAt_below Y5 BB hz7)))
 go_wp2
 go_ret
 exact ⟨rfl, K5.trans (BB.mono (Nat.le_of_lt hz5))⟩
end
section
theorem startFor_door (os : Os) (args : Array Value) : laidMetH Tryd.prog Rows.fnExactStartForRow.laid ((World.doorLaid Tryd.prog 73 os).forCall (fun _ _ => 0) ⟨#[], args, []⟩).memory :=
 laidMetH_of_parts3 (fuel := 8) (laidMet_of_run' 8 (by kernel_rfl) (by kernel_rfl)) (by kernel_rfl) (by kernel_rfl)
set_option maxRecDepth 100000 in
theorem startFor_lifted (os : Os) (started : os.Started) (H : Type) (enc : TypeId × Value → H) :
  ReturnsInHanded {} Tryd.checked os 4 .any (fun w args => (Rows.fnExactStartForSpec.pre enc Tryd.prog Tryd.f4 [] false w args ∧ laidMetH Tryd.prog Rows.fnExactStartForRow.laid w) ∧ sizedMet enc Tryd.prog Tryd.f4 (OpenSpec.ofChange Rows.fnExactStartForSpec) false w args)
   (Rows.fnExactStartForSpec.post enc Tryd.prog Tryd.f4 false true false false) := by
 refine returnsInHanded_of_change_and (C := Tryd.checked) (X := fun w _ => laidMetH Tryd.prog Rows.fnExactStartForRow.laid w) (fun _ _ _ hh h => h.of_heap hh) own started (by kernel_rfl) Tryd.func4
  (ChangeSpec.witness_shaped (enc := enc) (C := Tryd.checked) (os := os) (X := fun w _ => laidMetH Tryd.prog Rows.fnExactStartForRow.laid w) false (World.doorLaid Tryd.prog 73 os) #[.agg #[.int .i64 0, .int .i64 0, .int .i64 0, .int .i64 0], .agg #[.int .i64 0, .slice none 0 0, .slice none 0 0, .slice none 0 0, .slice none 0 0], .int .i64 0] 8 rfl (World.shaped_of_RefB (by kernel_rfl) (by kernel_rfl)) (by kernel_rfl) (by kernel_rfl) (by kernel_rfl) (startFor_door os _)) ?_
 intro W base args ds gs before hval0 hW _ _ hL _
 have hval : ∀ (j : Nat) t v, Tryd.f4.params[j]? = some t → args[j]? = some v → Value.okWide Tryd.prog W .any base t v := hval0
 have hW' := hW
 obtain ⟨p, q, hA0, hV0, rfl, hfz, hnd⟩ := hW
 have hA : DataW.TrodAll enc Tryd.prog W 0 (fun _ => true) true Tryd.f4.params.toList args.toList ds p := hA0
 have hV : DataW.TrodVars enc Tryd.prog W (fun _ => true) ["loop.example/g00715/impl.errNoRoom", "loop.example/g00715/impl.errFaster", "loop.example/g00715/impl.errUnfit"] gs q := hV0
 rw [Tryd.params4] at hA hval
 obtain ⟨v0, vs0, d0, ds0, p0, q0, hargs, rfl, rfl, h0, r0⟩ := trodAll_cons hA
 obtain ⟨v1, vs1, d1, ds1, p1, q1, rfl, rfl, rfl, h1, r1⟩ := trodAll_cons r0
 obtain ⟨v2, vs2, d2, ds2, p2, q2, rfl, rfl, rfl, h2, r2⟩ := trodAll_cons r1
 obtain ⟨rfl, rfl, rfl⟩ := trodAll_nil r2
 obtain rfl : args = #[v0, v1, v2] := by cases args; simp_all
 obtain ⟨g0, g1, g2, rfl⟩ := vars_three hV
 have k0 := h0
 have lt0 : ∀ x ∈ p0, x.block < W.heap.size := by obtain ⟨m, hm⟩ := k0; exact DataW.trod_lt m _ _ _ hm
 obtain ⟨x0, y0, z0, u0, hv0, wx0, wy0, wz0, wu0⟩ := open_plan (hval 0 23 v0 rfl rfl) h0
 subst hv0
 have k1 := h1
 have lt1 : ∀ x ∈ p1, x.block < W.heap.size := by obtain ⟨m, hm⟩ := k1; exact DataW.trod_lt m _ _ _ hm
 obtain ⟨A1, a10, a11, a12, a13, c10, c11, c12, c13, hv1, I1, m10, m11, m12, m13⟩ := open_arena (hval 1 28 v1 rfl rfl) h1
 subst hv1
 have k2 := h2
 have lt2 : ∀ x ∈ p2, x.block < W.heap.size := by obtain ⟨m, hm⟩ := k2; exact DataW.trod_lt m _ _ _ hm
 obtain ⟨x2, hv2, wx2⟩ : ∃ x, v2 = .int .i64 x ∧ (Lit.int .i64 x).wf = true := by
  obtain ⟨x, e1, _, _, wx⟩ := open_int Tryd.underlying2 (hval 2 2 v2 rfl rfl) h2
  exact ⟨x, e1, wx⟩
 subst hv2
 clear hA0 hval0 hL
 refine (startFor_walk x0 y0 z0 u0 wx0 wy0 wz0 wu0 A1 a10 a11 a12 a13 c10 c11 c12 c13 x2 wx2 W I1 m10 m11 m12 m13).mono fun e W' ⟨he, bel⟩ => ?_
 subst he
 exact ⟨_, rfl, _, _, _, [], _, _, hW', trodAll_mk1 (shut_bool Tryd.underlying4 _), (trodAll_cons_mk (Below.trod laidOut (by kernel_rfl) (of_decide_eq_true (by kernel_rfl)) k0 bel lt0) (trodAll_cons_mk (Below.trod laidOut (by kernel_rfl) (of_decide_eq_true (by kernel_rfl)) k1 bel lt1) (trodAll_cons_mk (Below.trod laidOut (by kernel_rfl) (of_decide_eq_true (by kernel_rfl)) k2 bel lt2) trodAll_mk0))), vars_kept bel _ _ _ (fun x hx => hW'.lt x (List.mem_append_right _ hx)) (by kernel_rfl) _ _ hV, bel.frame _, fun h => by cases h⟩
theorem startFor_said : Rows.FnExactStartForSaid :=
 OpenClaim.holds_of_wide 4 Tryd.f4 rfl rfl rfl rfl rfl rfl rfl ⟨rfl, rfl, rfl, rfl, rfl⟩ rfl rfl rfl rfl rfl (by kernel_rfl) Tryd.func4 (by kernel_rfl)
  (of_decide_eq_true (by kernel_rfl)) (by unfold Func.isWrapper; first | (rw [if_pos (by decide +kernel)]; kernel_rfl) | (rw [if_neg (by decide +kernel)]; exact ⟨rfl, rfl⟩))
  (fun os started H enc _ => startFor_lifted os started H enc)
theorem startFor_plain (f : FuncId) (fn : Func) (hf : Tryd.pinned.checked.prog.funcNamed "loop.example/g00715/laws.FnExactStartFor" = some f) (hfn : Tryd.pinned.checked.prog.funcs[f]? = some fn) :
  Rows.fnExactStartForCard.stood.looks = Tryd.pinned.checked.prog.looks [] ∧ ∀ (j : Nat) t, fn.params[j]? = some t → Tryd.pinned.checked.prog.wantsStandIn t = false := by
 obtain rfl : f = 4 := Option.some.inj ((show Tryd.prog.funcNamed "loop.example/g00715/laws.FnExactStartFor" = some 4 by kernel_rfl).symm.trans hf) |>.symm
 obtain rfl : fn = Tryd.f4 := (Option.some.inj (Tryd.func4.symm.trans hfn)).symm
 refine ⟨by kernel_rfl, fun j t ht => ?_⟩
 rw [Tryd.params4] at ht
 have hm : t ∈ [23, 28, 2] := by simpa using Array.mem_of_getElem? ht
 have hall : ([23, 28, 2].all fun u => !Tryd.prog.wantsStandIn u) = true := by kernel_rfl
 exact (show Tryd.prog.wantsStandIn t = false by simpa using List.all_eq_true.1 hall t hm)
theorem startFor_holds : Rows.FnExactStartForCardSaid :=
 Claim7.holds_tied_plain_at .later [] _ _ _ _ startFor_said (fun _ h => by cases h) (by kernel_rfl) (fun _ h => by cases h) fnExactStartFor_row_tie rfl ⟨rfl, rfl⟩ (by kernel_rfl) rfl startFor_plain (by kernel_rfl)
#print axioms startFor_holds
end
end Go.Proofs.YtlfjhcdjgoeafaaDoor
