/-
  What the law's proof goes by, part 23.
-/
import Derived.Deep.Cut
import Derived.Test.YtlfjhcdjgoeafaaGreatDoorFindStep00
import Derived.Test.YtlfjhcdjgoeafaaGreatDoorFindStep13
import Derived.Test.YtlfjhcdjgoeafaaGreatDoorFindStep21
namespace Go.Proofs.YtlfjhcdjgoeafaaGreatDoor
open Go.ChangeShapes Go.WideShapes Go.ChangeAt Go.RowKit
set_option linter.unusedVariables false
set_option linter.unusedSimpArgs false
set_option linter.unnecessarySimpa false
set_option linter.unusedSectionVars false
section
attribute [local go_sem ↓] Go.wp_at_zero Go.wp_at_succ
def findStepB (x y z u : Int) (A : Ar) (me : Int) (h : Hd) (clk : Int) : Bool := fitB x y z u A me h clk && findsB h
def findStepR (x y z u : Int) (A : Ar) (me : Int) (h : Hd) (clk : Int) : Ar × Hd × Dd := if findStepB x y z u A me h clk = true then ((findOf x y z u A h).1, (findOf x y z u A h).2, zeroD) else (zeroA, zeroH, zeroD)
theorem findStepR_no {x y z u : Int} {A : Ar} {me : Int} {h : Hd} {clk : Int} (e : findStepB x y z u A me h clk = false) : findStepR x y z u A me h clk = (zeroA, zeroH, zeroD) := by rw [findStepR, if_neg (by rw [e]; decide)]
theorem findStepR_yes {x y z u : Int} {A : Ar} {me : Int} {h : Hd} {clk : Int} (e : findStepB x y z u A me h clk = true) : findStepR x y z u A me h clk = ((findOf x y z u A h).1, (findOf x y z u A h).2, zeroD) := by rw [findStepR, if_pos e]
theorem small_of_ok {x y z u : Int} {A : Ar} (h : arenaB x y z u A = true) : A.size ≤ 1000 := by
 have h1 := (arenaB_parts h).1
 simp only [headB, Bool.and_eq_true, beq_iff_eq, inB_iff] at h1
 have h2 := (planB_iff x y z u).1 h1.1.1.1.1.1
 unfold Ar.size
 omega
theorem fit_find {x y z u : Int} {A : Ar} {me : Int} {h : Hd} {clk : Int} (e : fitB x y z u A me h clk = true) : (0 ≤ h.pred ∧ h.pred < (A.nodes.length : Int)) ∧ (0 ≤ h.currVer ∧ h.currVer < (A.vers.length : Int)) ∧ 0 ≤ h.round ∧ h.round ≤ 20000 := by
 unfold fitB at e
 simp only [Bool.and_eq_true] at e
 obtain ⟨⟨⟨⟨e1, e2⟩, _⟩, _⟩, e5⟩ := e
 unfold knowsB nodeIn verIn at e5
 unfold handB handFB at e2
 simp only [Bool.and_eq_true, Bool.or_eq_true, beq_iff_eq, inB_iff] at e5 e2
 refine ⟨⟨?_, ?_⟩, ⟨?_, ?_⟩, ?_, ?_⟩ <;> omega
theorem find_any (base : Nat) (cb : Nat) (s g n r : Value) (ps qs : List Addr) (A : Ar) (h : Hd) (x y z u : Int) (eN eF eU : Addr) (w : World) (hbase : base ≤ w.heap.size) (hA : A.size ≤ 1048576) (C : OwnCells base w cb s g n r ps qs A) (hf : findsB h = true) (hp0 : 0 ≤ h.pred) (hp1 : h.pred < (A.nodes.length : Int)) (hc0 : 0 ≤ h.currVer) (hc1 : h.currVer < (A.vers.length : Int)) (hr0 : 0 ≤ h.round) (hr1 : h.round ≤ 20000) (hOk : arenaB x y z u A = true) (E : Errs base w eN eF eU) :
  Calls Tryz.prog 27 #[.pointer (some ⟨cb, 0, none⟩), .agg #[.int .i64 x, .int .i64 y, .int .i64 z, .int .i64 u], .agg (hdC h).toArray] w fun e w' => ∃ r' qs', e = .returned (.agg (hdC (findOf x y z u A h).2).toArray) ∧ OwnCells base w' cb s g n r' ps qs' (findOf x y z u A h).1 ∧ Below base w w' := by
 unfold findsB at hf
 simp only [Bool.or_eq_true, beq_iff_eq] at hf
 rcases hf with ha | ha
 ·refine (find_begin base cb s g n r ps qs A h x y z u eN eF eU w hbase hA C ha hr0 hr1 hOk).mono ?_
  rintro e w' ⟨rfl, hb⟩
  have hfo : (findOf x y z u A h).1 = A := by rw [findOf, if_pos ha]
  exact ⟨_, _, rfl, by rw [hfo]; exact C.grown hb, hb.mono hbase⟩
 ·exact find_unlink base cb s g n r ps qs A h x y z u eN eF eU w hbase hA C ha hp0 hp1 hc0 hc1 hOk E
def findEndG (lo cb : Nat) (A : Ar) (h : Hd) : Nat → Value → World → Prop
 | 0, x, _ => x = .pointer (some ⟨cb, 0, none⟩)
 | 1, x, w => NewA lo A x w
 | 2, x, _ => x = .agg (hdC h).toArray
 | 3, x, w => ∃ a0 a1 a2 a3 c0 c1 c2 c3 b0 b1 b2 b3, x = .agg (doneC A.camera (.slice a0 A.slots.length c0) (.slice a1 A.guides.length c1) (.slice a2 A.nodes.length c2) (.slice a3 A.vers.length c3) h zeroD false).toArray ∧ NewArena lo w (.slice a0 A.slots.length c0) (.slice a1 A.guides.length c1) (.slice a2 A.nodes.length c2) (.slice a3 A.vers.length c3) A b0 b1 b2 b3 ∧ TypA w A b0 b1 b2 b3
 | _, _, _ => True
theorem findEndG_kept {lo cb : Nat} {A : Ar} {h : Hd} (i : Nat) (x : Value) (w w' : World) (hq : findEndG lo cb A h i x w) (hb : Below w.heap.size w w') : findEndG lo cb A h i x w' := by
 match i, hq with
 | 0, h | 2, h => exact h
 | 1, h => exact NewA.kept h hb
 | 3, h =>
  obtain ⟨a0, a1, a2, a3, c0, c1, c2, c3, b0, b1, b2, b3, e, N, Ty⟩ := h
  exact ⟨a0, a1, a2, a3, c0, c1, c2, c3, b0, b1, b2, b3, e, N.below hb, Ty.kept hb⟩
 | n + 4, h => exact trivial
set_option maxRecDepth 100000 in
set_option maxHeartbeats 4000000 in
theorem findStep_any (B : Nat) (A : Ar) (x y z u me : Int) (h : Hd) (clk : Int) (a0 a1 a2 a3 : Option Addr) (c0 c1 c2 c3 : Nat) (eN eF eU : Addr) (w : World) (hB : B ≤ w.heap.size) (hA : A.size ≤ 1048576) (I : ArenaIs B w (.slice a0 A.slots.length c0) (.slice a1 A.guides.length c1) (.slice a2 A.nodes.length c2) (.slice a3 A.vers.length c3) A) (E : Errs w.heap.size w eN eF eU) :
  Calls Tryz.prog 9 #[.agg #[.int .i64 x, .int .i64 y, .int .i64 z, .int .i64 u], .agg #[.int .i64 A.camera, .slice a0 A.slots.length c0, .slice a1 A.guides.length c1, .slice a2 A.nodes.length c2, .slice a3 A.vers.length c3], .int .i64 me, .agg (hdC h).toArray, .int .i64 clk] w fun e w' => SealAns w (findStepR x y z u A me h clk) (findStepB x y z u A me h clk) e w' := by
 have hA' := hA
 unfold Ar.size at hA
 have P0 := World.rangeAt_alloc (World.rangeAt_alloc (World.rangeAt_alloc (rangeAt_new w [.int .i64 x, .int .i64 y, .int .i64 z, .int .i64 u] 43) (.cells #[.int .i64 A.camera, .slice a0 A.slots.length c0, .slice a1 A.guides.length c1, .slice a2 A.nodes.length c2, .slice a3 A.vers.length c3] 35)) (.cells (hdC h).toArray 36)) (.cells #[.int .i64 0, .slice none 0 0, .slice none 0 0, .slice none 0 0, .slice none 0 0, .int .i64 0, .int .i64 0, .int .i64 0, .int .i64 0, .int .i64 0, .int .i64 0, .int .i64 0, .int .i64 0, .int .i64 0, .int .i64 0, .int .i64 0, .int .i64 0, .int .i64 0, .int .i64 0, .int .i64 0, .int .i64 0, .int .i64 0, .int .i64 0, .int .i64 0, .int .i64 0, .int .i64 0, .int .i64 0, .int .i64 0, .int .i64 0, .int .i64 0, .int .i64 0, .int .i64 0, .bool false] 40)
 have X0 := World.rangeAt_alloc (World.rangeAt_alloc (rangeAt_new (w.alloc (.cells #[.int .i64 x, .int .i64 y, .int .i64 z, .int .i64 u] 43)) [.int .i64 A.camera, .slice a0 A.slots.length c0, .slice a1 A.guides.length c1, .slice a2 A.nodes.length c2, .slice a3 A.vers.length c3] 35) (.cells (hdC h).toArray 36)) (.cells #[.int .i64 0, .slice none 0 0, .slice none 0 0, .slice none 0 0, .slice none 0 0, .int .i64 0, .int .i64 0, .int .i64 0, .int .i64 0, .int .i64 0, .int .i64 0, .int .i64 0, .int .i64 0, .int .i64 0, .int .i64 0, .int .i64 0, .int .i64 0, .int .i64 0, .int .i64 0, .int .i64 0, .int .i64 0, .int .i64 0, .int .i64 0, .int .i64 0, .int .i64 0, .int .i64 0, .int .i64 0, .int .i64 0, .int .i64 0, .int .i64 0, .int .i64 0, .int .i64 0, .bool false] 40)
 have H0 := World.rangeAt_alloc (rangeAt_new ((w.alloc (.cells #[.int .i64 x, .int .i64 y, .int .i64 z, .int .i64 u] 43)).alloc (.cells #[.int .i64 A.camera, .slice a0 A.slots.length c0, .slice a1 A.guides.length c1, .slice a2 A.nodes.length c2, .slice a3 A.vers.length c3] 35)) (hdC h) 36) (.cells #[.int .i64 0, .slice none 0 0, .slice none 0 0, .slice none 0 0, .slice none 0 0, .int .i64 0, .int .i64 0, .int .i64 0, .int .i64 0, .int .i64 0, .int .i64 0, .int .i64 0, .int .i64 0, .int .i64 0, .int .i64 0, .int .i64 0, .int .i64 0, .int .i64 0, .int .i64 0, .int .i64 0, .int .i64 0, .int .i64 0, .int .i64 0, .int .i64 0, .int .i64 0, .int .i64 0, .int .i64 0, .int .i64 0, .int .i64 0, .int .i64 0, .int .i64 0, .int .i64 0, .bool false] 40)
 have G0 := World.there_alloc (there_new ((w.alloc (.cells #[.int .i64 x, .int .i64 y, .int .i64 z, .int .i64 u] 43)).alloc (.cells #[.int .i64 A.camera, .slice a0 A.slots.length c0, .slice a1 A.guides.length c1, .slice a2 A.nodes.length c2, .slice a3 A.vers.length c3] 35)) (hdC h).toArray 36 22 (by simp [hdC])) (.cells #[.int .i64 0, .slice none 0 0, .slice none 0 0, .slice none 0 0, .slice none 0 0, .int .i64 0, .int .i64 0, .int .i64 0, .int .i64 0, .int .i64 0, .int .i64 0, .int .i64 0, .int .i64 0, .int .i64 0, .int .i64 0, .int .i64 0, .int .i64 0, .int .i64 0, .int .i64 0, .int .i64 0, .int .i64 0, .int .i64 0, .int .i64 0, .int .i64 0, .int .i64 0, .int .i64 0, .int .i64 0, .int .i64 0, .int .i64 0, .int .i64 0, .int .i64 0, .int .i64 0, .bool false] 40)
 have F0 := there_new (((w.alloc (.cells #[.int .i64 x, .int .i64 y, .int .i64 z, .int .i64 u] 43)).alloc (.cells #[.int .i64 A.camera, .slice a0 A.slots.length c0, .slice a1 A.guides.length c1, .slice a2 A.nodes.length c2, .slice a3 A.vers.length c3] 35)).alloc (.cells (hdC h).toArray 36)) #[.int .i64 0, .slice none 0 0, .slice none 0 0, .slice none 0 0, .slice none 0 0, .int .i64 0, .int .i64 0, .int .i64 0, .int .i64 0, .int .i64 0, .int .i64 0, .int .i64 0, .int .i64 0, .int .i64 0, .int .i64 0, .int .i64 0, .int .i64 0, .int .i64 0, .int .i64 0, .int .i64 0, .int .i64 0, .int .i64 0, .int .i64 0, .int .i64 0, .int .i64 0, .int .i64 0, .int .i64 0, .int .i64 0, .int .i64 0, .int .i64 0, .int .i64 0, .int .i64 0, .bool false] 40 33 (by decide)
 have K0 := ((((Below.refl w.heap.size w).alloc (Nat.le_refl _) (.cells #[.int .i64 x, .int .i64 y, .int .i64 z, .int .i64 u] 43)).alloc (by simp) (.cells #[.int .i64 A.camera, .slice a0 A.slots.length c0, .slice a1 A.guides.length c1, .slice a2 A.nodes.length c2, .slice a3 A.vers.length c3] 35)).alloc (by simp; omega) (.cells (hdC h).toArray 36)).alloc (by simp; omega) (.cells #[.int .i64 0, .slice none 0 0, .slice none 0 0, .slice none 0 0, .slice none 0 0, .int .i64 0, .int .i64 0, .int .i64 0, .int .i64 0, .int .i64 0, .int .i64 0, .int .i64 0, .int .i64 0, .int .i64 0, .int .i64 0, .int .i64 0, .int .i64 0, .int .i64 0, .int .i64 0, .int .i64 0, .int .i64 0, .int .i64 0, .int .i64 0, .int .i64 0, .int .i64 0, .int .i64 0, .int .i64 0, .int .i64 0, .int .i64 0, .int .i64 0, .int .i64 0, .int .i64 0, .bool false] 40)
 have hz0 : w.heap.size + 1 + 1 + 1 < ((((w.alloc (.cells #[.int .i64 x, .int .i64 y, .int .i64 z, .int .i64 u] 43)).alloc (.cells #[.int .i64 A.camera, .slice a0 A.slots.length c0, .slice a1 A.guides.length c1, .slice a2 A.nodes.length c2, .slice a3 A.vers.length c3] 35)).alloc (.cells (hdC h).toArray 36)).alloc (.cells #[.int .i64 0, .slice none 0 0, .slice none 0 0, .slice none 0 0, .slice none 0 0, .int .i64 0, .int .i64 0, .int .i64 0, .int .i64 0, .int .i64 0, .int .i64 0, .int .i64 0, .int .i64 0, .int .i64 0, .int .i64 0, .int .i64 0, .int .i64 0, .int .i64 0, .int .i64 0, .int .i64 0, .int .i64 0, .int .i64 0, .int .i64 0, .int .i64 0, .int .i64 0, .int .i64 0, .int .i64 0, .int .i64 0, .int .i64 0, .int .i64 0, .int .i64 0, .int .i64 0, .bool false] 40)).heap.size := by simp
 simp only [World.size_alloc] at X0 H0 G0 F0
 have I0 := I.below (K0.mono hB)
 have E0 := E.below K0
 go_enter Tryz.func9, Tryz.ntmps9
 go_upto_region 1 with fail
 generalize hw0 : (((w.alloc (.cells #[.int .i64 x, .int .i64 y, .int .i64 z, .int .i64 u] 43)).alloc (.cells #[.int .i64 A.camera, .slice a0 A.slots.length c0, .slice a1 A.guides.length c1, .slice a2 A.nodes.length c2, .slice a3 A.vers.length c3] 35)).alloc (.cells (hdC h).toArray 36)).alloc (.cells #[.int .i64 0, .slice none 0 0, .slice none 0 0, .slice none 0 0, .slice none 0 0, .int .i64 0, .int .i64 0, .int .i64 0, .int .i64 0, .int .i64 0, .int .i64 0, .int .i64 0, .int .i64 0, .int .i64 0, .int .i64 0, .int .i64 0, .int .i64 0, .int .i64 0, .int .i64 0, .int .i64 0, .int .i64 0, .int .i64 0, .int .i64 0, .int .i64 0, .int .i64 0, .int .i64 0, .int .i64 0, .int .i64 0, .int .i64 0, .int .i64 0, .int .i64 0, .int .i64 0, .bool false] 40) = w0 at *
 clear hw0 I
 have hB0 : B ≤ w0.heap.size := Nat.le_trans hB K0.size
 obtain ⟨x0, x1, x2, x3, x4⟩ := row5 X0
 obtain ⟨y0, y1, y2, y3⟩ : w0.cell? ⟨w.heap.size, 0, none⟩ = some (.int .i64 x) ∧ w0.cell? ⟨w.heap.size, 1, none⟩ = some (.int .i64 y) ∧ w0.cell? ⟨w.heap.size, 2, none⟩ = some (.int .i64 z) ∧ w0.cell? ⟨w.heap.size, 3, none⟩ = some (.int .i64 u) := ⟨by simpa using P0 0 _ rfl, by simpa using P0 1 _ rfl, by simpa using P0 2 _ rfl, by simpa using P0 3 _ rfl⟩
 go_wp2_with (refine wpList_load_mid rfl 36 (.tmp 8) rfl (w.heap.size + 1 + 1) 0 ?lx0 (hdC h) _ ?lc0 Tryz.underlying36 rfl (sizeHandL h) ?_)
 try (case lx0 => rfl)
 try (case lc0 => exact H0)
 refine (fit_any B A x y z u me h clk a0 a1 a2 a3 c0 c1 c2 c3 _ hB0 hA' I0).mono ?_
 rintro e w1 ⟨rfl, b0⟩
 have P1 := rangeAt_below P0 b0 (by omega)
 have X1 := rangeAt_below X0 b0 (by omega)
 have H1 := rangeAt_below H0 b0 (by omega)
 have G1 := there_below G0 b0 (by omega)
 have F1 := there_below F0 b0 (by omega)
 have K1 := K0.trans (b0.mono (by omega))
 have I1 := I0.below (b0.mono hB0)
 have E1 := E0.below (b0.mono (by omega))
 have hz1 := Nat.lt_of_lt_of_le hz0 b0.size
 have hB1 := Nat.le_trans hB0 b0.size
 clear P0 X0 H0 G0 F0 K0 I0 E0 hz0 hB0 b0 x0 x1 x2 x3 x4 y0 y1 y2 y3
 have zfin : ∀ (hb : findStepB x y z u A me h clk = false) (wz : World) (Fz : wz.there (w.heap.size + 1 + 1 + 1) 0 33) (Kz : Below w.heap.size w wz), SealAns w (findStepR x y z u A me h clk) (findStepB x y z u A me h clk) (.returned (.tuple #[.agg (doneC 0 (.slice none 0 0) (.slice none 0 0) (.slice none 0 0) (.slice none 0 0) zeroH zeroD false).toArray, .bool false])) (wz.setCells (w.heap.size + 1 + 1 + 1) 0 (doneC 0 (.slice none 0 0) (.slice none 0 0) (.slice none 0 0) (.slice none 0 0) zeroH zeroD false)) := by
  intro hb wz Fz Kz
  rw [findStepR_no hb, hb]
  exact SealAns.of rfl (zeroA_new _ _) (zeroA_typ _) (Below.setCells (by omega) _ _ _ Kz)
 cases ef : fitB x y z u A me h clk
 case false =>
  have hbH : Hid (findStepB x y z u A me h clk = false) := by show _ = _; simp [findStepB, ef]
  go_wp2_with (refine wpList_store_mid rfl 40 (.tmp 10) (.tmp 25) rfl (w.heap.size + 1 + 1 + 1) 0 (doneC 0 (.slice none 0 0) (.slice none 0 0) (.slice none 0 0) (.slice none 0 0) zeroH zeroD false).toArray ?hx1 ?hy1 ?ht1 (sizeDone _ _ _ _ _ _ _ _) (oneDone _ _ _ _ _ _ _ _ _ _ _ _ _ _ _ _) ?_)
  try (case hx1 => rfl)
  try (case hy1 => rfl)
  case ht1 => exact F1
  refine bodyPost_ret (v := .tuple #[.agg (doneC 0 (.slice none 0 0) (.slice none 0 0) (.slice none 0 0) (.slice none 0 0) zeroH zeroD false).toArray, .bool false]) ?_ rfl (zfin hbH.out w1 F1 K1)
  exact results_row_tmp Tryz.results9 _ _ (w.heap.size + 1 + 1 + 1) 0 rfl (doneC 0 (.slice none 0 0) (.slice none 0 0) (.slice none 0 0) (.slice none 0 0) zeroH zeroD false) _ (World.rangeAt_setCells_same _ _ _ _ F1) Tryz.underlying40 rfl (sizeDoneL _ _ _ _ _ _ _ _)
 have FI := fit_is ef
 obtain ⟨⟨hp0, hp1⟩, ⟨hc0, hc1⟩, hr0, hr1⟩ := fit_find ef
 have efH : Hid (fitB x y z u A me h clk = true) := ef
 clear ef
 go_wp2_with (refine wpList_load_wanted ?lw2 36 (.tmp 8) rfl (w.heap.size + 1 + 1) 0 ?lx2 (hdC h) _ ?lc2 Tryz.underlying36 rfl (sizeHandL h) ?_)
 try (case lw2 => rfl)
 try (case lx2 => rfl)
 try (case lc2 => exact H1)
 refine (finds_any h w1).mono ?_
 rintro e w2 ⟨rfl, b1⟩
 have P2 := rangeAt_below P1 b1 (by omega)
 have X2 := rangeAt_below X1 b1 (by omega)
 have H2 := rangeAt_below H1 b1 (by omega)
 have G2 := there_below G1 b1 (by omega)
 have F2 := there_below F1 b1 (by omega)
 have K2 := K1.trans (b1.mono (by omega))
 have I2 := I1.below (b1.mono hB1)
 have E2 := E1.below (b1.mono (by omega))
 have hz2 := Nat.lt_of_lt_of_le hz1 b1.size
 have hB2 := Nat.le_trans hB1 b1.size
 clear P1 X1 H1 G1 F1 K1 I1 E1 hz1 hB1 b1
 cases eg : findsB h
 case false =>
  have hbH : Hid (findStepB x y z u A me h clk = false) := by show _ = _; simp [findStepB, eg]
  go_wp2_with (refine wpList_store_mid rfl 40 (.tmp 10) (.tmp 25) rfl (w.heap.size + 1 + 1 + 1) 0 (doneC 0 (.slice none 0 0) (.slice none 0 0) (.slice none 0 0) (.slice none 0 0) zeroH zeroD false).toArray ?hx3 ?hy3 ?ht3 (sizeDone _ _ _ _ _ _ _ _) (oneDone _ _ _ _ _ _ _ _ _ _ _ _ _ _ _ _) ?_)
  try (case hx3 => rfl)
  try (case hy3 => rfl)
  case ht3 => exact F2
  refine bodyPost_ret (v := .tuple #[.agg (doneC 0 (.slice none 0 0) (.slice none 0 0) (.slice none 0 0) (.slice none 0 0) zeroH zeroD false).toArray, .bool false]) ?_ rfl (zfin hbH.out w2 F2 K2)
  exact results_row_tmp Tryz.results9 _ _ (w.heap.size + 1 + 1 + 1) 0 rfl (doneC 0 (.slice none 0 0) (.slice none 0 0) (.slice none 0 0) (.slice none 0 0) zeroH zeroD false) _ (World.rangeAt_setCells_same _ _ _ _ F2) Tryz.underlying40 rfl (sizeDoneL _ _ _ _ _ _ _ _)
 have hbH : Hid (findStepB x y z u A me h clk = true) := by show _ = _; simp [findStepB, eg, efH.out]
 have egH : Hid (findsB h = true) := eg
 clear eg zfin
 obtain ⟨x0, x1, x2, x3, x4⟩ := row5 X2
 go_wp2_with fail
 refine (cellsOf_new B A a0 a1 a2 a3 c0 c1 c2 c3 w2 hB2 hA' I2).mono ?_
 rintro e w3 ⟨cb, s, g, n, r, ps, qs, rfl, C3, b2⟩
 have P3 := rangeAt_below P2 b2 (by omega)
 have H3 := rangeAt_below H2 b2 (by omega)
 have G3 := there_below G2 b2 (by omega)
 have F3 := there_below F2 b2 (by omega)
 have K3 := K2.trans (b2.mono (by omega))
 have E3 := (E2.below (b2.mono (by omega))).raise (base' := w2.heap.size) (by omega)
 have hs3 := b2.size
 clear P2 X2 H2 G2 F2 K2 I2 E2 b2 x0 x1 x2 x3 x4
 obtain ⟨y0, y1, y2, y3⟩ : w3.cell? ⟨w.heap.size, 0, none⟩ = some (.int .i64 x) ∧ w3.cell? ⟨w.heap.size, 1, none⟩ = some (.int .i64 y) ∧ w3.cell? ⟨w.heap.size, 2, none⟩ = some (.int .i64 z) ∧ w3.cell? ⟨w.heap.size, 3, none⟩ = some (.int .i64 u) := ⟨by simpa using P3 0 _ rfl, by simpa using P3 1 _ rfl, by simpa using P3 2 _ rfl, by simpa using P3 3 _ rfl⟩
 go_wp2_with (refine wpList_load_mid rfl 36 (.tmp 8) rfl (w.heap.size + 1 + 1) 0 ?lx4 (hdC h) _ ?lc4 Tryz.underlying36 rfl (sizeHandL h) ?_)
 try (case lx4 => rfl)
 try (case lc4 => exact H3)
 refine (find_any w2.heap.size cb s g n r ps qs A h x y z u eN eF eU w3 hs3 hA' C3 egH.out hp0 hp1 hc0 hc1 hr0 hr1 FI.ok E3).mono ?_
 rintro e w4 ⟨r4, qs4, rfl, C4, b3⟩
 have G4 := there_below G3 b3 (by omega)
 have F4 := there_below F3 b3 (by omega)
 have K4 := K3.trans (b3.mono (by omega))
 have hs4 := b3.size
 have hAs : (findOf x y z u A h).1.size ≤ 1048576 := by
  have hsm := small_of_ok FI.ok
  rw [findOf]
  split
  ·exact hA'
  ·simp only [swapOf]
   split
   ·exact hA'
   split
   ·exact hA'
   ·simp only [Ar.size, List.length_append, List.length_set, List.length_singleton] at hsm ⊢
    omega
 obtain ⟨R, hR⟩ : ∃ R, Hid (findOf x y z u A h = R) := ⟨_, rfl⟩
 rw [hR.out] at C4 hAs ⊢
 obtain ⟨A9, h9⟩ := R
 simp only at C4 hAs ⊢
 clear P3 H3 G3 F3 K3 E3 C3 b3 y0 y1 y2 y3
 have R5 : (w4.setCells (w.heap.size + 1 + 1) 0 (hdC h9)).rangeAt (w.heap.size + 1 + 1) 0 (hdC h9) := World.rangeAt_setCells_same _ _ _ _ G4
 have F5 : (w4.setCells (w.heap.size + 1 + 1) 0 (hdC h9)).there (w.heap.size + 1 + 1 + 1) 0 33 := World.there_setCells F4 _ _ _
 have O5 : But (fun q => q = w.heap.size + 1 + 1) w4 (w4.setCells (w.heap.size + 1 + 1) 0 (hdC h9)) := But.of_only (only_setCells _ _ 0 _) rfl
 have C5 : OwnCells w2.heap.size (w4.setCells (w.heap.size + 1 + 1) 0 (hdC h9)) cb s g n r4 ps qs4 A9 := C4.but O5 (fun b hb _ he => by omega)
 have K5 : Below w.heap.size w (w4.setCells (w.heap.size + 1 + 1) 0 (hdC h9)) := Below.setCells (by omega) _ _ _ K4
 have hz5 : w.heap.size + 1 + 1 + 1 < (w4.setCells (w.heap.size + 1 + 1) 0 (hdC h9)).heap.size := by rw [setCells_size]; omega
 go_upto_region 5 with (refine wpList_store_mid rfl 36 (.tmp 8) _ rfl (w.heap.size + 1 + 1) 0 (hdC (h9)).toArray ?hx5 ?hy5 ?ht5 (sizeHand _) (oneHand _) ?_)
 try (case hx5 => rfl)
 try (case hy5 => rfl)
 try (case ht5 => exact G4)
 generalize hw5 : w4.setCells (w.heap.size + 1 + 1) 0 (hdC h9) = w5 at *
 clear hw5 G4 F4 C4 K4 O5
 refine any_order_tail 4 (by kernel_rfl) (findEndG w5.heap.size cb A9 h9) (fun _ => false) (by kernel_rfl) (by kernel_rfl) (by kernel_rfl) (by kernel_rfl) (by rfl) (fun i v w w' _ h hb => findEndG_kept i v w w' h hb) (fun i v w q hf h hq => by cases hf) ?step ?final
 case step =>
  intro i o hik ho a V hb hnn hd K hK
  have HV := rangeAt_below R5 hb (by omega)
  have CV := C5.grown hb
  match i, ho with
  | 0, ho =>
   obtain rfl := Option.some.inj ho
   have e1 : a.eval (.tmp 12) = .pointer (some ⟨cb, 0, none⟩) := hnn 12 rfl
   refine step_value (v := .pointer (some ⟨cb, 0, none⟩)) (w' := V) ?_ (hK _ _ rfl (Below.refl _ _) (fun h => by cases h))
   clear HV CV
   generalize a.eval = ev at *
   go_simp
  | 1, ho =>
   obtain rfl := Option.some.inj ho
   have e1 : a.eval (.tmp 32) = .pointer (some ⟨cb, 0, none⟩) := hd ⟨0, .data⟩ (by simp) rfl 32 rfl
   have ef : a.eval (.func 28) = .func (.func 28) #[] #[] := rfl
   refine step_call (f := 28) (args := #[.pointer (some ⟨cb, 0, none⟩)]) (R := fun v w' => NewA V.heap.size A9 v w' ∧ Below V.heap.size V w') ?_ ((face_new V.heap.size cb s g n r4 A9 V (Nat.le_refl _) hAs CV.cells).mono (fun e w' h => by obtain ⟨s', g', n', r', q0, q1, q2, q3, e1, N, Ty, bN⟩ := h; exact ⟨_, e1, ⟨s', g', n', r', q0, q1, q2, q3, rfl, N, Ty⟩, bN⟩)) (fun v w' h => hK v w' (by obtain ⟨s', g', n', r', q0, q1, q2, q3, e1, N, Ty⟩ := h.1; exact ⟨s', g', n', r', q0, q1, q2, q3, e1, N.lo hb.size, Ty⟩) h.2 (fun h => by cases h))
   clear HV CV
   generalize a.eval = ev at *
   go_simp
  | 2, ho =>
   obtain rfl := Option.some.inj ho
   exact step_load 36 (.tmp 8) rfl (w.heap.size + 1 + 1) 0 (hnn 8 rfl) (hdC h9) _ HV Tryz.underlying36 rfl (sizeHandL h9) (hK _ _ rfl (Below.refl _ _) (fun h => by cases h))
  | 3, ho =>
   obtain rfl := Option.some.inj ho
   obtain ⟨s', g', n', r', q0, q1, q2, q3, e1, N, Ty⟩ := (show NewA w5.heap.size A9 (a.eval (.tmp 33)) V from hd ⟨1, .data⟩ (by simp) rfl 33 rfl)
   have e2 : a.eval (.tmp 34) = .agg (hdC h9).toArray := hd ⟨2, .data⟩ (by simp) rfl 34 rfl
   obtain ⟨_, _, rfl⟩ := newList_slice N.s
   obtain ⟨_, _, rfl⟩ := newList_slice N.g
   obtain ⟨_, _, rfl⟩ := newList_slice N.n
   obtain ⟨_, _, rfl⟩ := newList_slice N.r
   refine step_value (v := .agg (doneC A9.camera _ _ _ _ h9 zeroD false).toArray) (w' := V) ?_ (hK _ _ ⟨_, _, _, _, _, _, _, _, q0, q1, q2, q3, rfl, N, Ty⟩ (Below.refl _ _) (fun h => by cases h))
   clear HV CV N Ty
   simp only [hdC] at e2
   simp only [doneC, hdC, ddC, zeroD]
   generalize a.eval = ev at *
   go_simp
   try rfl
  | n + 4, ho => omega
 case final =>
  intro vs V hb hG _
  obtain ⟨q0, q1, q2, q3, k0, k1, k2, k3, r0, r1, r2, r3, g3, N, Ty⟩ := (show ∃ a0 a1 a2 a3 c0 c1 c2 c3 b0 b1 b2 b3, vs 3 = .agg (doneC A9.camera (.slice a0 A9.slots.length c0) (.slice a1 A9.guides.length c1) (.slice a2 A9.nodes.length c2) (.slice a3 A9.vers.length c3) h9 zeroD false).toArray ∧ NewArena w5.heap.size V (.slice a0 A9.slots.length c0) (.slice a1 A9.guides.length c1) (.slice a2 A9.nodes.length c2) (.slice a3 A9.vers.length c3) A9 b0 b1 b2 b3 ∧ TypA V A9 b0 b1 b2 b3 from hG 3 (by decide))
  have FV := there_below F5 hb (by omega)
  have KV := K5.trans (hb.mono (by omega))
  generalize hl : laid _ vs _ _ _ = A'
  have hA'' : A' = { tmps := #[.agg #[.int .i64 x, .int .i64 y, .int .i64 z, .int .i64 u], .agg #[.int .i64 A.camera, .slice a0 A.slots.length c0, .slice a1 A.guides.length c1, .slice a2 A.nodes.length c2, .slice a3 A.vers.length c3], .int .i64 me, .agg (hdC h).toArray, .int .i64 clk, .pointer (some ⟨w.heap.size, 0, none⟩), .pointer (some ⟨w.heap.size + 1, 0, none⟩), undef, .pointer (some ⟨w.heap.size + 1 + 1, 0, none⟩), undef, .pointer (some ⟨w.heap.size + 1 + 1 + 1, 0, none⟩), .bool false, .pointer (some ⟨cb, 0, none⟩), .agg #[.int .i64 x, .int .i64 y, .int .i64 z, .int .i64 u], .agg #[.int .i64 A.camera, .slice a0 A.slots.length c0, .slice a1 A.guides.length c1, .slice a2 A.nodes.length c2, .slice a3 A.vers.length c3], .int .i64 me, .agg (hdC h).toArray, .int .i64 clk, .bool true, .bool false, .bool false, .agg (hdC h).toArray, .bool true, .bool false, .bool false, undef, .agg #[.int .i64 A.camera, .slice a0 A.slots.length c0, .slice a1 A.guides.length c1, .slice a2 A.nodes.length c2, .slice a3 A.vers.length c3], .pointer (some ⟨cb, 0, none⟩), .pointer (some ⟨cb, 0, none⟩), .agg #[.int .i64 x, .int .i64 y, .int .i64 z, .int .i64 u], .agg (hdC h).toArray, .agg (hdC h9).toArray, vs 0, vs 1, vs 2, vs 3], defers := [] } := by
   rw [← hl]
   kernel_rfl
  subst hA''
  rw [g3]
  clear hl hG g3
  simp only [List.drop_succ_cons, List.drop_zero]
  have hq : Hid (findStepR x y z u A me h clk = (A9, h9, zeroD)) := by show _ = _; rw [findStepR_yes hbH.out, hR.out]
  go_wp2_with (refine wpList_store_mid rfl 40 (.tmp 10) (.tmp 35) rfl (w.heap.size + 1 + 1 + 1) 0 (doneC A9.camera (.slice q0 A9.slots.length k0) (.slice q1 A9.guides.length k1) (.slice q2 A9.nodes.length k2) (.slice q3 A9.vers.length k3) h9 zeroD false).toArray ?hx6 ?hy6 ?ht6 (sizeDone _ _ _ _ _ _ _ _) (oneDone _ _ _ _ _ _ _ _ _ _ _ _ _ _ _ _) ?_)
  try (case hx6 => rfl)
  try (case hy6 => rfl)
  case ht6 => exact FV
  refine bodyPost_ret (v := .tuple #[.agg (doneC A9.camera (.slice q0 A9.slots.length k0) (.slice q1 A9.guides.length k1) (.slice q2 A9.nodes.length k2) (.slice q3 A9.vers.length k3) h9 zeroD false).toArray, .bool true]) ?_ rfl (by rw [hq.out, hbH.out]; exact SealAns.of rfl ((N.elder' hz5 (only_setCells _ _ _ _)).lo K5.size) (Ty.setCells _ _ _) (Below.setCells (by omega) _ _ _ KV))
  exact results_row_tmp Tryz.results9 _ _ (w.heap.size + 1 + 1 + 1) 0 rfl (doneC A9.camera (.slice q0 A9.slots.length k0) (.slice q1 A9.guides.length k1) (.slice q2 A9.nodes.length k2) (.slice q3 A9.vers.length k3) h9 zeroD false) _ (World.rangeAt_setCells_same _ _ _ _ FV) Tryz.underlying40 rfl (sizeDoneL _ _ _ _ _ _ _ _)
end
end Go.Proofs.YtlfjhcdjgoeafaaGreatDoor
