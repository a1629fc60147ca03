/-
  Whether a step is fit, as the model says (chapter 7), as a contract. For every plan and hand, and every arena of at most 1048576 elements.
-/
import Derived.Test.YtcgjkodpmloccaaSpecKnows
import Derived.Test.YtcgjkodpmloccaaSplitBelow
import Derived.BigQuiet
namespace Go.Proofs.Ytcgjkodpmloccaa
open Go.ChangeShapes Go.WideShapes Go.ChangeAt Go.RowKit Go.Sort
set_option linter.unusedVariables false
set_option linter.unusedSimpArgs false
attribute [local go_sem ↓] Go.wp_at_zero Go.wp_at_succ

/-- Is a step fit? -/
def fitB (x y z u : Int) (A : Ar) (me : Int) (h : Hd) (clk : Int) : Bool := arenaB x y z u A && handB x y z u h && inB me 0 (x - 1) && inB clk 0 20000 && knowsB A h

theorem planB_of_hand {x y z u : Int} {h : Hd} (e : handB x y z u h = true) : 1 ≤ x ∧ x ≤ 8 := by
  unfold handB at e
  simp only [Bool.and_eq_true] at e
  have := (planB_iff x y z u).1 e.1.1
  omega
theorem wpQuiet_value_wanted {P : Program} {ops : Array Oper} {C : World → Prop} {Q : Act → Prop} {a : Act} {o : Oper} {rest : List Oper} (hwn : Region.wanted o (yielded ops a.tmps) = true) (v : Value) (hv : ∀ w, C w → (execOp a.eval o).run P w = .ok (.value v) w)
    (h : wpQuiet P ops C Q rest (a.put o.dst v)) : wpQuiet P ops C Q (o :: rest) a := by
  refine wpQuiet_step fun K hK => ?_
  rw [if_pos hwn]
  refine ⟨v, fun w hw => ?_, hK _ h⟩
  unfold Oper.quietAt
  rw [hv w hw]
  exact ⟨rfl, rfl⟩
set_option maxRecDepth 100000 in
set_option maxHeartbeats 4000000 in
theorem specFit_any (B : Nat) (A : Ar) (x y z u me : Int) (h : Hd) (clk : Int) (a0 a1 a2 a3 : Option Addr) (c0 c1 c2 c3 : Nat) (w : World) (hB : B ≤ w.heap.size) (hA : A.size ≤ 1048576) (I : ArenaIs B w (.slice a0 A.slots.length c0) (.slice a1 A.guides.length c1) (.slice a2 A.nodes.length c2) (.slice a3 A.vers.length c3) A) :
    Calls Try.prog 27 #[.agg #[.int .i64 x, .int .i64 y, .int .i64 z, .int .i64 u], .agg #[.int .i64 A.camera, .slice a0 A.slots.length c0, .slice a1 A.guides.length c1, .slice a2 A.nodes.length c2, .slice a3 A.vers.length c3], .int .i64 me, .agg (hdC h).toArray, .int .i64 clk] w fun e w' => e = .returned (.bool (fitB x y z u A me h clk)) ∧ Below w.heap.size w w' := by
  have hA' := hA
  unfold Ar.size at hA
  have P0 := World.rangeAt_alloc (World.rangeAt_alloc (rangeAt_new w [.int .i64 x, .int .i64 y, .int .i64 z, .int .i64 u] 30) (.cells #[.int .i64 A.camera, .slice a0 A.slots.length c0, .slice a1 A.guides.length c1, .slice a2 A.nodes.length c2, .slice a3 A.vers.length c3] 28)) (.cells (hdC h).toArray 38)
  have X0 := World.rangeAt_alloc (rangeAt_new (w.alloc (.cells #[.int .i64 x, .int .i64 y, .int .i64 z, .int .i64 u] 30)) [.int .i64 A.camera, .slice a0 A.slots.length c0, .slice a1 A.guides.length c1, .slice a2 A.nodes.length c2, .slice a3 A.vers.length c3] 28) (.cells (hdC h).toArray 38)
  have H0 := rangeAt_new ((w.alloc (.cells #[.int .i64 x, .int .i64 y, .int .i64 z, .int .i64 u] 30)).alloc (.cells #[.int .i64 A.camera, .slice a0 A.slots.length c0, .slice a1 A.guides.length c1, .slice a2 A.nodes.length c2, .slice a3 A.vers.length c3] 28)) (hdC h) 38
  have K0 := (((Below.refl w.heap.size w).alloc (Nat.le_refl _) (.cells #[.int .i64 x, .int .i64 y, .int .i64 z, .int .i64 u] 30)).alloc (by simp) (.cells #[.int .i64 A.camera, .slice a0 A.slots.length c0, .slice a1 A.guides.length c1, .slice a2 A.nodes.length c2, .slice a3 A.vers.length c3] 28)).alloc (by simp; omega) (.cells (hdC h).toArray 38)
  have hz0 : w.heap.size + 1 + 1 < (((w.alloc (.cells #[.int .i64 x, .int .i64 y, .int .i64 z, .int .i64 u] 30)).alloc (.cells #[.int .i64 A.camera, .slice a0 A.slots.length c0, .slice a1 A.guides.length c1, .slice a2 A.nodes.length c2, .slice a3 A.vers.length c3] 28)).alloc (.cells (hdC h).toArray 38)).heap.size := by simp
  simp only [World.size_alloc] at X0 H0
  have I0 := I.below (K0.mono hB)
  go_enter Try.func27, Try.ntmps27
  go_wp2_with fail
  generalize hw0 : ((w.alloc (.cells #[.int .i64 x, .int .i64 y, .int .i64 z, .int .i64 u] 30)).alloc (.cells #[.int .i64 A.camera, .slice a0 A.slots.length c0, .slice a1 A.guides.length c1, .slice a2 A.nodes.length c2, .slice a3 A.vers.length c3] 28)).alloc (.cells (hdC h).toArray 38) = w0 at *
  clear hw0 I
  have hB0 : B ≤ w0.heap.size := Nat.le_trans hB K0.size
  refine (specArenaOk_any B A x y z u a0 a1 a2 a3 c0 c1 c2 c3 _ hB0 hA' I0).mono ?_
  rintro e w1 ⟨rfl, b0⟩
  have P1 := rangeAt_below P0 b0 (by omega)
  have X1 := rangeAt_below X0 b0 (by omega)
  have H1 := rangeAt_below H0 b0 (by omega)
  have K1 := K0.trans (b0.mono (by omega))
  have I1 := I0.below (b0.mono hB0)
  have hz1 := Nat.lt_of_lt_of_le hz0 b0.size
  have hB1 := Nat.le_trans hB0 b0.size
  clear P0 X0 H0 K0 I0 hz0 hB0 b0
  have p0 : w1.cell? ⟨w.heap.size, 0, none⟩ = some (.int .i64 x) := by simpa using P1 0 (.int .i64 x) rfl
  have p1 : w1.cell? ⟨w.heap.size, 1, none⟩ = some (.int .i64 y) := by simpa using P1 1 (.int .i64 y) rfl
  have p2 : w1.cell? ⟨w.heap.size, 2, none⟩ = some (.int .i64 z) := by simpa using P1 2 (.int .i64 z) rfl
  have p3 : w1.cell? ⟨w.heap.size, 3, none⟩ = some (.int .i64 u) := by simpa using P1 3 (.int .i64 u) rfl
  obtain ⟨x0, x1, x2, x3, x4⟩ := row5 X1
  cases e1 : arenaB x y z u A
  case false =>
    have hv : Hid (fitB x y z u A me h clk = false) := by show _ = _; simp [fitB, e1]
    go_wp2_with (first | (go_at_call 43; refine (l1In_any _ _ _ _).mono ?_; rintro e w' ⟨rfl, hw⟩; obtain rfl := hw.symm) | (go_at_call 44; refine (l5Clock_any _ _).mono ?_; rintro e w' ⟨rfl, hw⟩; obtain rfl := hw.symm))
    go_ret
    exact ⟨by rw [hv.out]; rfl, K1⟩
  go_wp2_with (refine wpList_load_wanted ?hw1 38 (.tmp 8) rfl (w.heap.size + 1 + 1) 0 ?hx1 (hdC h) _ ?hc1 Try.underlying38 rfl (sizeHandL h) ?_)
  try (case hw1 => first | rfl | kernel_rfl)
  try (case hx1 => rfl)
  try (case hc1 => exact H1)
  refine (specHandOk_any x y z u h _).mono ?_
  clear p0 p1 p2 p3 x0 x1 x2 x3 x4
  rintro e w2 ⟨rfl, b1⟩
  have P2 := rangeAt_below P1 b1 (by omega)
  have X2 := rangeAt_below X1 b1 (by omega)
  have H2 := rangeAt_below H1 b1 (by omega)
  have K2 := K1.trans (b1.mono (by omega))
  have I2 := I1.below (b1.mono hB1)
  have hz2 := Nat.lt_of_lt_of_le hz1 b1.size
  have hB2 := Nat.le_trans hB1 b1.size
  clear P1 X1 H1 K1 I1 hz1 hB1 b1
  have p0 : w2.cell? ⟨w.heap.size, 0, none⟩ = some (.int .i64 x) := by simpa using P2 0 (.int .i64 x) rfl
  have p1 : w2.cell? ⟨w.heap.size, 1, none⟩ = some (.int .i64 y) := by simpa using P2 1 (.int .i64 y) rfl
  have p2 : w2.cell? ⟨w.heap.size, 2, none⟩ = some (.int .i64 z) := by simpa using P2 2 (.int .i64 z) rfl
  have p3 : w2.cell? ⟨w.heap.size, 3, none⟩ = some (.int .i64 u) := by simpa using P2 3 (.int .i64 u) rfl
  obtain ⟨x0, x1, x2, x3, x4⟩ := row5 X2
  cases e2 : handB x y z u h
  case false =>
    have hv : Hid (fitB x y z u A me h clk = false) := by show _ = _; simp [fitB, e1, e2]
    go_wp2_with (first | (go_at_call 43; refine (l1In_any _ _ _ _).mono ?_; rintro e w' ⟨rfl, hw⟩; obtain rfl := hw.symm) | (go_at_call 44; refine (l5Clock_any _ _).mono ?_; rintro e w' ⟨rfl, hw⟩; obtain rfl := hw.symm))
    go_ret
    exact ⟨by rw [hv.out]; rfl, K2⟩
  have hpl := planB_of_hand e2
  cases e3 : inB me 0 (x - 1)
  case false =>
    have hv : Hid (fitB x y z u A me h clk = false) := by show _ = _; simp [fitB, e1, e2, e3]
    go_wp2_with (first | (go_at_call 43; refine (l1In_any _ _ _ _).mono ?_; rintro e w' ⟨rfl, hw⟩; obtain rfl := hw.symm) | (go_at_call 44; refine (l5Clock_any _ _).mono ?_; rintro e w' ⟨rfl, hw⟩; obtain rfl := hw.symm))
    go_ret
    exact ⟨by rw [hv.out]; rfl, K2⟩
  cases e4 : inB clk 0 20000
  case false =>
    have hv : Hid (fitB x y z u A me h clk = false) := by show _ = _; simp [fitB, e1, e2, e3, e4]
    go_wp2_with (first | (go_at_call 43; refine (l1In_any _ _ _ _).mono ?_; rintro e w' ⟨rfl, hw⟩; obtain rfl := hw.symm) | (go_at_call 44; refine (l5Clock_any _ _).mono ?_; rintro e w' ⟨rfl, hw⟩; obtain rfl := hw.symm))
    go_ret
    exact ⟨by rw [hv.out]; rfl, K2⟩
  go_wp2_with (first | (go_at_call 43; refine (l1In_any _ _ _ _).mono ?_; rintro e w' ⟨rfl, hw⟩; obtain rfl := hw.symm) | (go_at_call 44; refine (l5Clock_any _ _).mono ?_; rintro e w' ⟨rfl, hw⟩; obtain rfl := hw.symm) | (refine wpList_load_wanted ?hw2 38 (.tmp 8) rfl (w.heap.size + 1 + 1) 0 ?hx2 (hdC h) _ ?hc2 Try.underlying38 rfl (sizeHandL h) ?_))
  try (case hw2 => first | rfl | kernel_rfl)
  try (case hx2 => rfl)
  try (case hc2 => exact H2)
  refine (l7Knows_any A h a0 a1 a2 a3 c0 c1 c2 c3 _ hA').mono ?_
  clear p0 p1 p2 p3 x0 x1 x2 x3 x4
  rintro e w3 ⟨rfl, b2⟩
  have P3 := rangeAt_below P2 b2 (by omega)
  have X3 := rangeAt_below X2 b2 (by omega)
  have H3 := rangeAt_below H2 b2 (by omega)
  have K3 := K2.trans (b2.mono (by omega))
  have I3 := I2.below (b2.mono hB2)
  have hz3 := Nat.lt_of_lt_of_le hz2 b2.size
  have hB3 := Nat.le_trans hB2 b2.size
  clear P2 X2 H2 K2 I2 hz2 hB2 b2
  have hv : Hid (fitB x y z u A me h clk = knowsB A h) := by show _ = _; simp [fitB, e1, e2, e3, e4]
  go_wp2_with fail
  go_ret
  exact ⟨by rw [hv.out]; rfl, K3⟩

end Go.Proofs.Ytcgjkodpmloccaa
