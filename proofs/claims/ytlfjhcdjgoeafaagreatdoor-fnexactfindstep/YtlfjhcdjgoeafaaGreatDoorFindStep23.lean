/-
  What the law's proof goes by, part 24.
-/
import Derived.Test.YtlfjhcdjgoeafaaGreatDoorFindStep00
import Derived.Test.YtlfjhcdjgoeafaaGreatDoorFindStep10
import Derived.Test.YtlfjhcdjgoeafaaGreatDoorFindStep17
import Derived.Test.YtlfjhcdjgoeafaaGreatDoorFindStep19
import Derived.Test.YtlfjhcdjgoeafaaGreatDoorFindStep22
namespace Go.Proofs.YtlfjhcdjgoeafaaGreatDoor
open Go.ChangeShapes Go.WideShapes Go.ChangeAt Go.RowKit
set_option linter.unusedVariables false
set_option linter.unusedSimpArgs false
set_option linter.unnecessarySimpa false
set_option linter.unusedSectionVars false
section
attribute [local go_sem ↓] Go.wp_at_zero Go.wp_at_succ
theorem findOf_camera (x y z u : Int) (A : Ar) (h : Hd) : (findOf x y z u A h).1.camera = A.camera := by
 unfold findOf
 split
 ·rfl
 ·exact swapOf_camera _ _ _ _ _ _ _
theorem findStepR_size (x y z u : Int) (A : Ar) (me : Int) (h : Hd) (clk : Int) (hA : A.size ≤ 1048576) : (findStepR x y z u A me h clk).1.size ≤ 1048576 := by
 unfold findStepR
 split
 ·rename_i hb
  unfold findStepB at hb
  simp only [Bool.and_eq_true] at hb
  have hsm := small_of_ok (fit_is hb.1).ok
  unfold findOf
  split
  ·exact hA
  ·simp only [swapOf]
   split
   ·exact hA
   split
   ·exact hA
   ·simp only [Ar.size, List.length_append, List.length_set, List.length_singleton] at hsm ⊢
    omega
 ·simp [Ar.size, zeroA]
def findG (lo : Nat) (x y z u : Int) (A : Ar) (h : Hd) (a0 a1 a2 a3 : Option Addr) (c0 c1 c2 c3 : Nat) : Nat → Value → World → Prop
 | 0, v, _ => v = .agg #[.int .i64 x, .int .i64 y, .int .i64 z, .int .i64 u]
 | 1, v, _ => v = .agg #[.int .i64 A.camera, .slice a0 A.slots.length c0, .slice a1 A.guides.length c1, .slice a2 A.nodes.length c2, .slice a3 A.vers.length c3]
 | 2, v, w => ∃ s g n r, v = .agg #[.int .i64 A.camera, s, g, n, r] ∧ OwnAr lo w s g n r A
 | 3, v, _ => v = .agg (hdC h).toArray
 | 4, v, w => ∃ s g n r, v = .agg (doneC A.camera s g n r h zeroD false).toArray ∧ OwnAr lo w s g n r A
 | _, _, _ => True
theorem findG_kept {lo : Nat} {x y z u : Int} {A : Ar} {h : Hd} {a0 a1 a2 a3 : Option Addr} {c0 c1 c2 c3 : Nat} (i : Nat) (v : Value) (w w' : World) (hq : findG lo x y z u A h a0 a1 a2 a3 c0 c1 c2 c3 i v w) (hb : Below w.heap.size w w') : findG lo x y z u A h a0 a1 a2 a3 c0 c1 c2 c3 i v w' := by
 match i, hq with
 | 0, h | 1, h | 3, h => exact h
 | 2, h | 4, h => obtain ⟨s, g, n, r, e, O⟩ := h; exact ⟨s, g, n, r, e, O.below hb⟩
 | n + 5, h => exact trivial
set_option maxRecDepth 100000 in
set_option maxHeartbeats 4000000 in
theorem specFindStep_any (B : Nat) (A : Ar) (x y z u me : Int) (h : Hd) (clk : Int) (a0 a1 a2 a3 : Option Addr) (c0 c1 c2 c3 : Nat) (w : World) (hB : B ≤ w.heap.size) (hA : A.size ≤ 1048576) (I : ArenaIs B w (.slice a0 A.slots.length c0) (.slice a1 A.guides.length c1) (.slice a2 A.nodes.length c2) (.slice a3 A.vers.length c3) A) :
  Calls Tryz.prog 5 #[.agg #[.int .i64 x, .int .i64 y, .int .i64 z, .int .i64 u], .agg #[.int .i64 A.camera, .slice a0 A.slots.length c0, .slice a1 A.guides.length c1, .slice a2 A.nodes.length c2, .slice a3 A.vers.length c3], .int .i64 me, .agg (hdC h).toArray, .int .i64 clk] w fun e w' => SpecAns w (findStepR x y z u A me h clk) (findStepB x y z u A me h clk) e w' := by
 have hA' := hA
 unfold Ar.size at hA
 have P0 := World.rangeAt_alloc (World.rangeAt_alloc (World.rangeAt_alloc (rangeAt_new w [.int .i64 x, .int .i64 y, .int .i64 z, .int .i64 u] 43) (.cells #[.int .i64 A.camera, .slice a0 A.slots.length c0, .slice a1 A.guides.length c1, .slice a2 A.nodes.length c2, .slice a3 A.vers.length c3] 35)) (.cells (hdC h).toArray 36)) (.cells #[.int .i64 0, .slice none 0 0, .slice none 0 0, .slice none 0 0, .slice none 0 0, .int .i64 0, .int .i64 0, .int .i64 0, .int .i64 0, .int .i64 0, .int .i64 0, .int .i64 0, .int .i64 0, .int .i64 0, .int .i64 0, .int .i64 0, .int .i64 0, .int .i64 0, .int .i64 0, .int .i64 0, .int .i64 0, .int .i64 0, .int .i64 0, .int .i64 0, .int .i64 0, .int .i64 0, .int .i64 0, .int .i64 0, .int .i64 0, .int .i64 0, .int .i64 0, .int .i64 0, .bool false] 40)
 have X0 := World.rangeAt_alloc (World.rangeAt_alloc (rangeAt_new (w.alloc (.cells #[.int .i64 x, .int .i64 y, .int .i64 z, .int .i64 u] 43)) [.int .i64 A.camera, .slice a0 A.slots.length c0, .slice a1 A.guides.length c1, .slice a2 A.nodes.length c2, .slice a3 A.vers.length c3] 35) (.cells (hdC h).toArray 36)) (.cells #[.int .i64 0, .slice none 0 0, .slice none 0 0, .slice none 0 0, .slice none 0 0, .int .i64 0, .int .i64 0, .int .i64 0, .int .i64 0, .int .i64 0, .int .i64 0, .int .i64 0, .int .i64 0, .int .i64 0, .int .i64 0, .int .i64 0, .int .i64 0, .int .i64 0, .int .i64 0, .int .i64 0, .int .i64 0, .int .i64 0, .int .i64 0, .int .i64 0, .int .i64 0, .int .i64 0, .int .i64 0, .int .i64 0, .int .i64 0, .int .i64 0, .int .i64 0, .int .i64 0, .bool false] 40)
 have H0 := World.rangeAt_alloc (rangeAt_new ((w.alloc (.cells #[.int .i64 x, .int .i64 y, .int .i64 z, .int .i64 u] 43)).alloc (.cells #[.int .i64 A.camera, .slice a0 A.slots.length c0, .slice a1 A.guides.length c1, .slice a2 A.nodes.length c2, .slice a3 A.vers.length c3] 35)) (hdC h) 36) (.cells #[.int .i64 0, .slice none 0 0, .slice none 0 0, .slice none 0 0, .slice none 0 0, .int .i64 0, .int .i64 0, .int .i64 0, .int .i64 0, .int .i64 0, .int .i64 0, .int .i64 0, .int .i64 0, .int .i64 0, .int .i64 0, .int .i64 0, .int .i64 0, .int .i64 0, .int .i64 0, .int .i64 0, .int .i64 0, .int .i64 0, .int .i64 0, .int .i64 0, .int .i64 0, .int .i64 0, .int .i64 0, .int .i64 0, .int .i64 0, .int .i64 0, .int .i64 0, .int .i64 0, .bool false] 40)
 have F0 := there_new (((w.alloc (.cells #[.int .i64 x, .int .i64 y, .int .i64 z, .int .i64 u] 43)).alloc (.cells #[.int .i64 A.camera, .slice a0 A.slots.length c0, .slice a1 A.guides.length c1, .slice a2 A.nodes.length c2, .slice a3 A.vers.length c3] 35)).alloc (.cells (hdC h).toArray 36)) #[.int .i64 0, .slice none 0 0, .slice none 0 0, .slice none 0 0, .slice none 0 0, .int .i64 0, .int .i64 0, .int .i64 0, .int .i64 0, .int .i64 0, .int .i64 0, .int .i64 0, .int .i64 0, .int .i64 0, .int .i64 0, .int .i64 0, .int .i64 0, .int .i64 0, .int .i64 0, .int .i64 0, .int .i64 0, .int .i64 0, .int .i64 0, .int .i64 0, .int .i64 0, .int .i64 0, .int .i64 0, .int .i64 0, .int .i64 0, .int .i64 0, .int .i64 0, .int .i64 0, .bool false] 40 33 (by decide)
 have K0 := ((((Below.refl w.heap.size w).alloc (Nat.le_refl _) (.cells #[.int .i64 x, .int .i64 y, .int .i64 z, .int .i64 u] 43)).alloc (by simp) (.cells #[.int .i64 A.camera, .slice a0 A.slots.length c0, .slice a1 A.guides.length c1, .slice a2 A.nodes.length c2, .slice a3 A.vers.length c3] 35)).alloc (by simp; omega) (.cells (hdC h).toArray 36)).alloc (by simp; omega) (.cells #[.int .i64 0, .slice none 0 0, .slice none 0 0, .slice none 0 0, .slice none 0 0, .int .i64 0, .int .i64 0, .int .i64 0, .int .i64 0, .int .i64 0, .int .i64 0, .int .i64 0, .int .i64 0, .int .i64 0, .int .i64 0, .int .i64 0, .int .i64 0, .int .i64 0, .int .i64 0, .int .i64 0, .int .i64 0, .int .i64 0, .int .i64 0, .int .i64 0, .int .i64 0, .int .i64 0, .int .i64 0, .int .i64 0, .int .i64 0, .int .i64 0, .int .i64 0, .int .i64 0, .bool false] 40)
 have hz0 : w.heap.size + 1 + 1 + 1 < ((((w.alloc (.cells #[.int .i64 x, .int .i64 y, .int .i64 z, .int .i64 u] 43)).alloc (.cells #[.int .i64 A.camera, .slice a0 A.slots.length c0, .slice a1 A.guides.length c1, .slice a2 A.nodes.length c2, .slice a3 A.vers.length c3] 35)).alloc (.cells (hdC h).toArray 36)).alloc (.cells #[.int .i64 0, .slice none 0 0, .slice none 0 0, .slice none 0 0, .slice none 0 0, .int .i64 0, .int .i64 0, .int .i64 0, .int .i64 0, .int .i64 0, .int .i64 0, .int .i64 0, .int .i64 0, .int .i64 0, .int .i64 0, .int .i64 0, .int .i64 0, .int .i64 0, .int .i64 0, .int .i64 0, .int .i64 0, .int .i64 0, .int .i64 0, .int .i64 0, .int .i64 0, .int .i64 0, .int .i64 0, .int .i64 0, .int .i64 0, .int .i64 0, .int .i64 0, .int .i64 0, .bool false] 40)).heap.size := by simp
 simp only [World.size_alloc] at X0 H0 F0
 have I0 := I.below (K0.mono hB)
 go_enter Tryz.func5, Tryz.ntmps5
 go_upto_region 1 with fail
 generalize hw0 : (((w.alloc (.cells #[.int .i64 x, .int .i64 y, .int .i64 z, .int .i64 u] 43)).alloc (.cells #[.int .i64 A.camera, .slice a0 A.slots.length c0, .slice a1 A.guides.length c1, .slice a2 A.nodes.length c2, .slice a3 A.vers.length c3] 35)).alloc (.cells (hdC h).toArray 36)).alloc (.cells #[.int .i64 0, .slice none 0 0, .slice none 0 0, .slice none 0 0, .slice none 0 0, .int .i64 0, .int .i64 0, .int .i64 0, .int .i64 0, .int .i64 0, .int .i64 0, .int .i64 0, .int .i64 0, .int .i64 0, .int .i64 0, .int .i64 0, .int .i64 0, .int .i64 0, .int .i64 0, .int .i64 0, .int .i64 0, .int .i64 0, .int .i64 0, .int .i64 0, .int .i64 0, .int .i64 0, .int .i64 0, .int .i64 0, .int .i64 0, .int .i64 0, .int .i64 0, .int .i64 0, .bool false] 40) = w0 at *
 clear hw0 I
 have hB0 : B ≤ w0.heap.size := Nat.le_trans hB K0.size
 obtain ⟨x0, x1, x2, x3, x4⟩ := row5 X0
 obtain ⟨p0, p1, p2, p3⟩ : w0.cell? ⟨w.heap.size, 0, none⟩ = some (.int .i64 x) ∧ w0.cell? ⟨w.heap.size, 1, none⟩ = some (.int .i64 y) ∧ w0.cell? ⟨w.heap.size, 2, none⟩ = some (.int .i64 z) ∧ w0.cell? ⟨w.heap.size, 3, none⟩ = some (.int .i64 u) := ⟨by simpa using P0 0 _ rfl, by simpa using P0 1 _ rfl, by simpa using P0 2 _ rfl, by simpa using P0 3 _ rfl⟩
 go_wp2_with (refine wpList_load_mid rfl 36 (.tmp 8) rfl (w.heap.size + 1 + 1) 0 ?lx0 (hdC h) _ ?lc0 Tryz.underlying36 rfl (sizeHandL h) ?_)
 try (case lx0 => rfl)
 try (case lc0 => exact H0)
 refine (specFit_any B A x y z u me h clk a0 a1 a2 a3 c0 c1 c2 c3 _ hB0 hA' I0).mono ?_
 rintro e w1 ⟨rfl, b0⟩
 have P1 := rangeAt_below P0 b0 (by omega)
 have X1 := rangeAt_below X0 b0 (by omega)
 have H1 := rangeAt_below H0 b0 (by omega)
 have F1 := there_below F0 b0 (by omega)
 have K1 := K0.trans (b0.mono (by omega))
 have I1 := I0.below (b0.mono hB0)
 have hz1 := Nat.lt_of_lt_of_le hz0 b0.size
 have hB1 := Nat.le_trans hB0 b0.size
 clear P0 X0 H0 F0 K0 I0 hz0 hB0 b0 x0 x1 x2 x3 x4 p0 p1 p2 p3
 have zfin : ∀ (hb : findStepB x y z u A me h clk = false), SpecAns w (findStepR x y z u A me h clk) (findStepB x y z u A me h clk) (.returned (.tuple #[.agg (doneC 0 (.slice none 0 0) (.slice none 0 0) (.slice none 0 0) (.slice none 0 0) zeroH zeroD false).toArray, .bool false])) (w1.setCells (w.heap.size + 1 + 1 + 1) 0 (doneC 0 (.slice none 0 0) (.slice none 0 0) (.slice none 0 0) (.slice none 0 0) zeroH zeroD false)) := by
  intro hb
  rw [findStepR_no hb, hb]
  exact SpecAns.of rfl (zeroA_own _ _) (Below.setCells (by omega) _ _ _ K1)
 have q0 : w1.cell? ⟨w.heap.size + 1 + 1, 0, none⟩ = some (.int .i64 h.at_) := by simpa using H1 0 (.int .i64 h.at_) rfl
 have zgo : ∀ (T : True), True := fun _ => trivial
 cases ef : fitB x y z u A me h clk
 case false =>
  have hb : Hid (findStepB x y z u A me h clk = false) := by show _ = _; simp [findStepB, ef]
  clear zgo
  go_wp2_with (refine wpList_store_mid rfl 40 (.tmp 10) (.tmp 29) rfl (w.heap.size + 1 + 1 + 1) 0 (doneC 0 (.slice none 0 0) (.slice none 0 0) (.slice none 0 0) (.slice none 0 0) zeroH zeroD false).toArray ?hx1 ?hy1 ?ht1 (sizeDone _ _ _ _ _ _ _ _) (oneDone _ _ _ _ _ _ _ _ _ _ _ _ _ _ _ _) ?_)
  try (case hx1 => rfl)
  try (case hy1 => rfl)
  case ht1 => exact F1
  refine bodyPost_ret (v := .tuple #[.agg (doneC 0 (.slice none 0 0) (.slice none 0 0) (.slice none 0 0) (.slice none 0 0) zeroH zeroD false).toArray, .bool false]) ?_ rfl (zfin hb.out)
  exact results_row_tmp Tryz.results5 _ _ (w.heap.size + 1 + 1 + 1) 0 rfl (doneC 0 (.slice none 0 0) (.slice none 0 0) (.slice none 0 0) (.slice none 0 0) zeroH zeroD false) _ (World.rangeAt_setCells_same _ _ _ _ F1) Tryz.underlying40 rfl (sizeDoneL _ _ _ _ _ _ _ _)
 have FI := fit_is ef
 obtain ⟨⟨hp0, hp1⟩, ⟨hc0, hc1⟩, hr0, hr1⟩ := fit_find ef
 have efH : Hid (fitB x y z u A me h clk = true) := ef
 obtain ⟨s0, s1, s2, s3⟩ := arenaB_pos FI.ok
 clear ef
 by_cases ha : h.at_ = 1
 case pos =>
  have hb : Hid (findStepB x y z u A me h clk = true) := by show _ = _; simp [findStepB, findsB, efH.out, ha]
  rw [ha] at q0
  clear zfin
  go_wp2_with fail
  refine any_order_tail 5 (by kernel_rfl) (findG w1.heap.size x y z u A h a0 a1 a2 a3 c0 c1 c2 c3) (fun _ => false) (by kernel_rfl) (by kernel_rfl) (by kernel_rfl) (by kernel_rfl) (by rfl) (fun i v w w' _ h hb => findG_kept i v w w' h hb) (fun i v w q hf h hq => by cases hf) ?step ?final
  case step =>
   intro i o hik ho a V hb hnn hd K hK
   have PV := rangeAt_below P1 hb (by omega)
   have XV := rangeAt_below X1 hb (by omega)
   have HV := rangeAt_below H1 hb (by omega)
   have IV := I1.below (hb.mono hB1)
   have hBV : B ≤ V.heap.size := Nat.le_trans hB1 hb.size
   clear q0
   match i, ho with
   | 0, ho =>
    obtain rfl := Option.some.inj ho
    obtain ⟨p0, p1, p2, p3⟩ : V.cell? ⟨w.heap.size, 0, none⟩ = some (.int .i64 x) ∧ V.cell? ⟨w.heap.size, 1, none⟩ = some (.int .i64 y) ∧ V.cell? ⟨w.heap.size, 2, none⟩ = some (.int .i64 z) ∧ V.cell? ⟨w.heap.size, 3, none⟩ = some (.int .i64 u) := ⟨by simpa using PV 0 _ rfl, by simpa using PV 1 _ rfl, by simpa using PV 2 _ rfl, by simpa using PV 3 _ rfl⟩
    have e1 : a.eval (.tmp 5) = .pointer (some ⟨w.heap.size, 0, none⟩) := hnn 5 rfl
    refine step_value (v := .agg #[.int .i64 x, .int .i64 y, .int .i64 z, .int .i64 u]) (w' := V) ?_ (hK _ _ rfl (Below.refl _ _) (fun h => by cases h))
    clear PV XV HV IV
    generalize a.eval = ev at *
    go_simp
   | 1, ho =>
    obtain rfl := Option.some.inj ho
    obtain ⟨x0, x1, x2, x3, x4⟩ := row5 XV
    have e1 : a.eval (.tmp 6) = .pointer (some ⟨w.heap.size + 1, 0, none⟩) := hnn 6 rfl
    refine step_value (v := .agg #[.int .i64 A.camera, .slice a0 A.slots.length c0, .slice a1 A.guides.length c1, .slice a2 A.nodes.length c2, .slice a3 A.vers.length c3]) (w' := V) ?_ (hK _ _ rfl (Below.refl _ _) (fun h => by cases h))
    clear PV XV HV IV
    generalize a.eval = ev at *
    go_simp
   | 2, ho =>
    obtain rfl := Option.some.inj ho
    have e1 : a.eval (.tmp 31) = .agg #[.int .i64 A.camera, .slice a0 A.slots.length c0, .slice a1 A.guides.length c1, .slice a2 A.nodes.length c2, .slice a3 A.vers.length c3] := hd ⟨1, .data⟩ (by simp) rfl 31 rfl
    have ef : a.eval (.func 20) = .func (.func 20) #[] #[] := rfl
    refine step_call (f := 20) (args := #[.agg #[.int .i64 A.camera, .slice a0 A.slots.length c0, .slice a1 A.guides.length c1, .slice a2 A.nodes.length c2, .slice a3 A.vers.length c3]]) (R := fun v w' => (∃ s g n r, v = .agg #[.int .i64 A.camera, s, g, n, r] ∧ OwnAr V.heap.size w' s g n r A) ∧ Below V.heap.size V w') ?_ ((l2Copy_any B A a0 a1 a2 a3 c0 c1 c2 c3 V hBV hA' IV s0 s1 s2 s3).mono (fun e w' h => by obtain ⟨s, g, n, r, e1, O, bO⟩ := h; exact ⟨_, e1, ⟨s, g, n, r, rfl, O⟩, bO⟩)) (fun v w' h => hK v w' (by obtain ⟨s, g, n, r, e1, O⟩ := h.1; exact ⟨s, g, n, r, e1, O.lo hb.size⟩) h.2 (fun h => by cases h))
    clear PV XV HV IV
    generalize a.eval = ev at *
    go_simp
   | 3, ho =>
    obtain rfl := Option.some.inj ho
    exact step_load 36 (.tmp 8) rfl (w.heap.size + 1 + 1) 0 (hnn 8 rfl) (hdC h) _ HV Tryz.underlying36 rfl (sizeHandL h) (hK _ _ rfl (Below.refl _ _) (fun h => by cases h))
   | 4, ho =>
    obtain rfl := Option.some.inj ho
    obtain ⟨s, g, n, r, e1, O⟩ := (show ∃ s g n r, a.eval (.tmp 32) = .agg #[.int .i64 A.camera, s, g, n, r] ∧ OwnAr w1.heap.size V s g n r A from hd ⟨2, .data⟩ (by simp) rfl 32 rfl)
    have e2 : a.eval (.tmp 33) = .agg (hdC h).toArray := hd ⟨3, .data⟩ (by simp) rfl 33 rfl
    refine step_value (v := .agg (doneC A.camera s g n r h zeroD false).toArray) (w' := V) ?_ (hK _ _ ⟨s, g, n, r, rfl, O⟩ (Below.refl _ _) (fun h => by cases h))
    obtain ⟨_, _, rfl⟩ := own_is O.rs
    obtain ⟨_, _, rfl⟩ := own_is O.rg
    obtain ⟨_, _, rfl⟩ := own_is O.rn
    obtain ⟨_, _, rfl⟩ := own_is O.rr
    clear PV XV HV IV O
    simp only [hdC] at e2
    simp only [doneC, hdC, ddC, zeroD]
    generalize a.eval = ev at *
    go_simp
    try rfl
   | n + 5, ho => omega
  case final =>
   intro vs V hb' hG _
   have g0 : vs 0 = .agg #[.int .i64 x, .int .i64 y, .int .i64 z, .int .i64 u] := hG 0 (by decide)
   obtain ⟨s, g, n, r, g4, O⟩ := (show ∃ s g n r, vs 4 = .agg (doneC A.camera s g n r h zeroD false).toArray ∧ OwnAr w1.heap.size V s g n r A from hG 4 (by decide))
   have F2 := there_below F1 hb' (by omega)
   have K2 := K1.trans (hb'.mono (by omega))
   have hs2 := hb'.size
   generalize hl : laid _ vs _ _ _ = A'
   have hA'' : A' = { tmps := #[.agg #[.int .i64 x, .int .i64 y, .int .i64 z, .int .i64 u], .agg #[.int .i64 A.camera, .slice a0 A.slots.length c0, .slice a1 A.guides.length c1, .slice a2 A.nodes.length c2, .slice a3 A.vers.length c3], .int .i64 me, .agg (hdC h).toArray, .int .i64 clk, .pointer (some ⟨w.heap.size, 0, none⟩), .pointer (some ⟨w.heap.size + 1, 0, none⟩), undef, .pointer (some ⟨w.heap.size + 1 + 1, 0, none⟩), undef, .pointer (some ⟨w.heap.size + 1 + 1 + 1, 0, none⟩), .bool false, .agg #[.int .i64 x, .int .i64 y, .int .i64 z, .int .i64 u], .agg #[.int .i64 A.camera, .slice a0 A.slots.length c0, .slice a1 A.guides.length c1, .slice a2 A.nodes.length c2, .slice a3 A.vers.length c3], .int .i64 me, .agg (hdC h).toArray, .int .i64 clk, .bool true, .bool false, .bool false, .pointer (some ⟨w.heap.size + 1 + 1, 0, none⟩), .int .i64 1, .bool false, .bool false, undef, undef, undef, .bool false, .bool false, undef, vs 0, vs 1, vs 2, vs 3, vs 4, undef], defers := [] } := by
    rw [← hl]
    kernel_rfl
   subst hA''
   rw [g0, g4]
   clear hl hG g0 g4 hb' P1 X1 H1 F1 K1 q0
   simp only [List.drop_succ_cons, List.drop_zero]
   go_wp2_with fail
   refine (l9Find_any w1.heap.size A h zeroD false s g n r V hs2 hA' O x y z u FI.ok hp0 hp1 hc0 hc1 hr0 hr1).mono ?_
   rintro e w3 ⟨s', g', n', r', rfl, E⟩
   have b3 := E.lower O hs2
   have F3 := there_below F2 b3 (by omega)
   have K3 := K2.trans (b3.mono (by omega))
   obtain ⟨⟨A9, h9⟩, hso⟩ : ∃ R, Hid (findOf x y z u A h = R) := ⟨_, rfl⟩
   have hq : Hid (findStepR x y z u A me h clk = (A9, h9, zeroD)) := by show _ = _; rw [findStepR_yes hb.out, hso.out]
   have hcm : A.camera = (findOf x y z u A h).1.camera := (findOf_camera x y z u A h).symm
   rw [hso.out] at hcm
   replace hcm : Hid (A.camera = A9.camera) := hcm
   have EO := E.own
   rw [hso.out] at EO ⊢
   simp only at EO ⊢
   clear E O b3 F2 K2
   obtain ⟨p0, k0, rfl⟩ := own_is EO.rs
   obtain ⟨p1, k1, rfl⟩ := own_is EO.rg
   obtain ⟨p2, k2, rfl⟩ := own_is EO.rn
   obtain ⟨p3, k3, rfl⟩ := own_is EO.rr
   rw [hcm.out]
   go_wp2_with (refine wpList_store_mid rfl 40 (.tmp 10) (.tmp 35) rfl (w.heap.size + 1 + 1 + 1) 0 (doneC A9.camera (.slice p0 A9.slots.length k0) (.slice p1 A9.guides.length k1) (.slice p2 A9.nodes.length k2) (.slice p3 A9.vers.length k3) h9 zeroD false).toArray ?hx51 ?hy51 ?ht51 (sizeDone _ _ _ _ _ _ _ _) (oneDone _ _ _ _ _ _ _ _ _ _ _ _ _ _ _ _) ?_)
   try (case hx51 => rfl)
   try (case hy51 => rfl)
   try (case ht51 => exact F3)
   refine bodyPost_ret (v := .tuple #[.agg (doneC A9.camera (.slice p0 A9.slots.length k0) (.slice p1 A9.guides.length k1) (.slice p2 A9.nodes.length k2) (.slice p3 A9.vers.length k3) h9 zeroD false).toArray, .bool true]) ?_ rfl ?_
   ·exact results_row_tmp Tryz.results5 _ _ (w.heap.size + 1 + 1 + 1) 0 rfl (doneC A9.camera (.slice p0 A9.slots.length k0) (.slice p1 A9.guides.length k1) (.slice p2 A9.nodes.length k2) (.slice p3 A9.vers.length k3) h9 zeroD false) _ (World.rangeAt_setCells_same _ _ _ _ F3) Tryz.underlying40 rfl (sizeDoneL _ _ _ _ _ _ _ _)
   ·show SpecAns w (findStepR x y z u A me h clk) (findStepB x y z u A me h clk) _ _
    rw [hq.out, hb.out]
    exact SpecAns.of rfl ((EO.only (only_setCells _ _ _ _) (by omega)).lo (by omega)) (Below.setCells (by omega) _ _ _ K3)
 by_cases ha : h.at_ = 6
 case pos =>
  have hb : Hid (findStepB x y z u A me h clk = true) := by show _ = _; simp [findStepB, findsB, efH.out, ha]
  rw [ha] at q0
  clear zfin
  go_wp2_with fail
  refine any_order_tail 5 (by kernel_rfl) (findG w1.heap.size x y z u A h a0 a1 a2 a3 c0 c1 c2 c3) (fun _ => false) (by kernel_rfl) (by kernel_rfl) (by kernel_rfl) (by kernel_rfl) (by rfl) (fun i v w w' _ h hb => findG_kept i v w w' h hb) (fun i v w q hf h hq => by cases hf) ?step ?final
  case step =>
   intro i o hik ho a V hb hnn hd K hK
   have PV := rangeAt_below P1 hb (by omega)
   have XV := rangeAt_below X1 hb (by omega)
   have HV := rangeAt_below H1 hb (by omega)
   have IV := I1.below (hb.mono hB1)
   have hBV : B ≤ V.heap.size := Nat.le_trans hB1 hb.size
   clear q0
   match i, ho with
   | 0, ho =>
    obtain rfl := Option.some.inj ho
    obtain ⟨p0, p1, p2, p3⟩ : V.cell? ⟨w.heap.size, 0, none⟩ = some (.int .i64 x) ∧ V.cell? ⟨w.heap.size, 1, none⟩ = some (.int .i64 y) ∧ V.cell? ⟨w.heap.size, 2, none⟩ = some (.int .i64 z) ∧ V.cell? ⟨w.heap.size, 3, none⟩ = some (.int .i64 u) := ⟨by simpa using PV 0 _ rfl, by simpa using PV 1 _ rfl, by simpa using PV 2 _ rfl, by simpa using PV 3 _ rfl⟩
    have e1 : a.eval (.tmp 5) = .pointer (some ⟨w.heap.size, 0, none⟩) := hnn 5 rfl
    refine step_value (v := .agg #[.int .i64 x, .int .i64 y, .int .i64 z, .int .i64 u]) (w' := V) ?_ (hK _ _ rfl (Below.refl _ _) (fun h => by cases h))
    clear PV XV HV IV
    generalize a.eval = ev at *
    go_simp
   | 1, ho =>
    obtain rfl := Option.some.inj ho
    obtain ⟨x0, x1, x2, x3, x4⟩ := row5 XV
    have e1 : a.eval (.tmp 6) = .pointer (some ⟨w.heap.size + 1, 0, none⟩) := hnn 6 rfl
    refine step_value (v := .agg #[.int .i64 A.camera, .slice a0 A.slots.length c0, .slice a1 A.guides.length c1, .slice a2 A.nodes.length c2, .slice a3 A.vers.length c3]) (w' := V) ?_ (hK _ _ rfl (Below.refl _ _) (fun h => by cases h))
    clear PV XV HV IV
    generalize a.eval = ev at *
    go_simp
   | 2, ho =>
    obtain rfl := Option.some.inj ho
    have e1 : a.eval (.tmp 31) = .agg #[.int .i64 A.camera, .slice a0 A.slots.length c0, .slice a1 A.guides.length c1, .slice a2 A.nodes.length c2, .slice a3 A.vers.length c3] := hd ⟨1, .data⟩ (by simp) rfl 31 rfl
    have ef : a.eval (.func 20) = .func (.func 20) #[] #[] := rfl
    refine step_call (f := 20) (args := #[.agg #[.int .i64 A.camera, .slice a0 A.slots.length c0, .slice a1 A.guides.length c1, .slice a2 A.nodes.length c2, .slice a3 A.vers.length c3]]) (R := fun v w' => (∃ s g n r, v = .agg #[.int .i64 A.camera, s, g, n, r] ∧ OwnAr V.heap.size w' s g n r A) ∧ Below V.heap.size V w') ?_ ((l2Copy_any B A a0 a1 a2 a3 c0 c1 c2 c3 V hBV hA' IV s0 s1 s2 s3).mono (fun e w' h => by obtain ⟨s, g, n, r, e1, O, bO⟩ := h; exact ⟨_, e1, ⟨s, g, n, r, rfl, O⟩, bO⟩)) (fun v w' h => hK v w' (by obtain ⟨s, g, n, r, e1, O⟩ := h.1; exact ⟨s, g, n, r, e1, O.lo hb.size⟩) h.2 (fun h => by cases h))
    clear PV XV HV IV
    generalize a.eval = ev at *
    go_simp
   | 3, ho =>
    obtain rfl := Option.some.inj ho
    exact step_load 36 (.tmp 8) rfl (w.heap.size + 1 + 1) 0 (hnn 8 rfl) (hdC h) _ HV Tryz.underlying36 rfl (sizeHandL h) (hK _ _ rfl (Below.refl _ _) (fun h => by cases h))
   | 4, ho =>
    obtain rfl := Option.some.inj ho
    obtain ⟨s, g, n, r, e1, O⟩ := (show ∃ s g n r, a.eval (.tmp 32) = .agg #[.int .i64 A.camera, s, g, n, r] ∧ OwnAr w1.heap.size V s g n r A from hd ⟨2, .data⟩ (by simp) rfl 32 rfl)
    have e2 : a.eval (.tmp 33) = .agg (hdC h).toArray := hd ⟨3, .data⟩ (by simp) rfl 33 rfl
    refine step_value (v := .agg (doneC A.camera s g n r h zeroD false).toArray) (w' := V) ?_ (hK _ _ ⟨s, g, n, r, rfl, O⟩ (Below.refl _ _) (fun h => by cases h))
    obtain ⟨_, _, rfl⟩ := own_is O.rs
    obtain ⟨_, _, rfl⟩ := own_is O.rg
    obtain ⟨_, _, rfl⟩ := own_is O.rn
    obtain ⟨_, _, rfl⟩ := own_is O.rr
    clear PV XV HV IV O
    simp only [hdC] at e2
    simp only [doneC, hdC, ddC, zeroD]
    generalize a.eval = ev at *
    go_simp
    try rfl
   | n + 5, ho => omega
  case final =>
   intro vs V hb' hG _
   have g0 : vs 0 = .agg #[.int .i64 x, .int .i64 y, .int .i64 z, .int .i64 u] := hG 0 (by decide)
   obtain ⟨s, g, n, r, g4, O⟩ := (show ∃ s g n r, vs 4 = .agg (doneC A.camera s g n r h zeroD false).toArray ∧ OwnAr w1.heap.size V s g n r A from hG 4 (by decide))
   have F2 := there_below F1 hb' (by omega)
   have K2 := K1.trans (hb'.mono (by omega))
   have hs2 := hb'.size
   generalize hl : laid _ vs _ _ _ = A'
   have hA'' : A' = { tmps := #[.agg #[.int .i64 x, .int .i64 y, .int .i64 z, .int .i64 u], .agg #[.int .i64 A.camera, .slice a0 A.slots.length c0, .slice a1 A.guides.length c1, .slice a2 A.nodes.length c2, .slice a3 A.vers.length c3], .int .i64 me, .agg (hdC h).toArray, .int .i64 clk, .pointer (some ⟨w.heap.size, 0, none⟩), .pointer (some ⟨w.heap.size + 1, 0, none⟩), undef, .pointer (some ⟨w.heap.size + 1 + 1, 0, none⟩), undef, .pointer (some ⟨w.heap.size + 1 + 1 + 1, 0, none⟩), .bool false, .agg #[.int .i64 x, .int .i64 y, .int .i64 z, .int .i64 u], .agg #[.int .i64 A.camera, .slice a0 A.slots.length c0, .slice a1 A.guides.length c1, .slice a2 A.nodes.length c2, .slice a3 A.vers.length c3], .int .i64 me, .agg (hdC h).toArray, .int .i64 clk, .bool true, .bool false, .bool false, .pointer (some ⟨w.heap.size + 1 + 1, 0, none⟩), .int .i64 6, .bool true, .bool true, .pointer (some ⟨w.heap.size + 1 + 1, 0, none⟩), .int .i64 6, .bool false, .bool false, .bool false, undef, vs 0, vs 1, vs 2, vs 3, vs 4, undef], defers := [] } := by
    rw [← hl]
    kernel_rfl
   subst hA''
   rw [g0, g4]
   clear hl hG g0 g4 hb' P1 X1 H1 F1 K1 q0
   simp only [List.drop_succ_cons, List.drop_zero]
   go_wp2_with fail
   refine (l9Find_any w1.heap.size A h zeroD false s g n r V hs2 hA' O x y z u FI.ok hp0 hp1 hc0 hc1 hr0 hr1).mono ?_
   rintro e w3 ⟨s', g', n', r', rfl, E⟩
   have b3 := E.lower O hs2
   have F3 := there_below F2 b3 (by omega)
   have K3 := K2.trans (b3.mono (by omega))
   obtain ⟨⟨A9, h9⟩, hso⟩ : ∃ R, Hid (findOf x y z u A h = R) := ⟨_, rfl⟩
   have hq : Hid (findStepR x y z u A me h clk = (A9, h9, zeroD)) := by show _ = _; rw [findStepR_yes hb.out, hso.out]
   have hcm : A.camera = (findOf x y z u A h).1.camera := (findOf_camera x y z u A h).symm
   rw [hso.out] at hcm
   replace hcm : Hid (A.camera = A9.camera) := hcm
   have EO := E.own
   rw [hso.out] at EO ⊢
   simp only at EO ⊢
   clear E O b3 F2 K2
   obtain ⟨p0, k0, rfl⟩ := own_is EO.rs
   obtain ⟨p1, k1, rfl⟩ := own_is EO.rg
   obtain ⟨p2, k2, rfl⟩ := own_is EO.rn
   obtain ⟨p3, k3, rfl⟩ := own_is EO.rr
   rw [hcm.out]
   go_wp2_with (refine wpList_store_mid rfl 40 (.tmp 10) (.tmp 35) rfl (w.heap.size + 1 + 1 + 1) 0 (doneC A9.camera (.slice p0 A9.slots.length k0) (.slice p1 A9.guides.length k1) (.slice p2 A9.nodes.length k2) (.slice p3 A9.vers.length k3) h9 zeroD false).toArray ?hx56 ?hy56 ?ht56 (sizeDone _ _ _ _ _ _ _ _) (oneDone _ _ _ _ _ _ _ _ _ _ _ _ _ _ _ _) ?_)
   try (case hx56 => rfl)
   try (case hy56 => rfl)
   try (case ht56 => exact F3)
   refine bodyPost_ret (v := .tuple #[.agg (doneC A9.camera (.slice p0 A9.slots.length k0) (.slice p1 A9.guides.length k1) (.slice p2 A9.nodes.length k2) (.slice p3 A9.vers.length k3) h9 zeroD false).toArray, .bool true]) ?_ rfl ?_
   ·exact results_row_tmp Tryz.results5 _ _ (w.heap.size + 1 + 1 + 1) 0 rfl (doneC A9.camera (.slice p0 A9.slots.length k0) (.slice p1 A9.guides.length k1) (.slice p2 A9.nodes.length k2) (.slice p3 A9.vers.length k3) h9 zeroD false) _ (World.rangeAt_setCells_same _ _ _ _ F3) Tryz.underlying40 rfl (sizeDoneL _ _ _ _ _ _ _ _)
   ·show SpecAns w (findStepR x y z u A me h clk) (findStepB x y z u A me h clk) _ _
    rw [hq.out, hb.out]
    exact SpecAns.of rfl ((EO.only (only_setCells _ _ _ _) (by omega)).lo (by omega)) (Below.setCells (by omega) _ _ _ K3)
 rename_i ha1
 have hb : Hid (findStepB x y z u A me h clk = false) := by show _ = _; simp [findStepB, findsB, ha, ha1]
 have n1 : (h.at_ != 1) = true := by simp [ha1]
 have n6 : (h.at_ != 6) = true := by simp [ha]
 clear zgo ha ha1
 go_wp2_with (refine wpList_store_mid rfl 40 (.tmp 10) (.tmp 29) rfl (w.heap.size + 1 + 1 + 1) 0 (doneC 0 (.slice none 0 0) (.slice none 0 0) (.slice none 0 0) (.slice none 0 0) zeroH zeroD false).toArray ?hx9 ?hy9 ?ht9 (sizeDone _ _ _ _ _ _ _ _) (oneDone _ _ _ _ _ _ _ _ _ _ _ _ _ _ _ _) ?_)
 try (case hx9 => rfl)
 try (case hy9 => rfl)
 case ht9 => exact F1
 refine bodyPost_ret (v := .tuple #[.agg (doneC 0 (.slice none 0 0) (.slice none 0 0) (.slice none 0 0) (.slice none 0 0) zeroH zeroD false).toArray, .bool false]) ?_ rfl (zfin hb.out)
 exact results_row_tmp Tryz.results5 _ _ (w.heap.size + 1 + 1 + 1) 0 rfl (doneC 0 (.slice none 0 0) (.slice none 0 0) (.slice none 0 0) (.slice none 0 0) zeroH zeroD false) _ (World.rangeAt_setCells_same _ _ _ _ F1) Tryz.underlying40 rfl (sizeDoneL _ _ _ _ _ _ _ _)
end
end Go.Proofs.YtlfjhcdjgoeafaaGreatDoor
