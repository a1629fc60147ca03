/-
  A guide that is asked for a key points to keys below it alone: at every list of bytes the law of the guides returns true and leaves its argument as it was. No condition.
-/
import Derived.Test.YtpehbhembfopeaaRoll
namespace Go.Proofs.Ytpehbhembfopeaa
open Go.ChangeShapes Go.WideShapes Go.ChangeAt Go.RowKit
set_option linter.unusedVariables false
attribute [local go_sem ↓] Go.wp_at_zero Go.wp_at_succ

/-- A list of bytes that came in. -/
theorem open_bytes {H : Type} {enc : TypeId × Value → H} {W : World} {r : Reach} {b0 base : Nat} {spare : Nat → Bool} {held : Bool} {v : Value} {d : DataW H} {p : List MemPlace} (hv : Value.okWide Try.prog W r b0 22 v) (h : DataW.Trod enc Try.prog W base spare held 22 v d p) :
    ∃ a len cap, v = .slice a len cap ∧ BytesAt W.heap.size W a len := by
  obtain ⟨a, len, cap, rfl⟩ := okWide_slice Try.underlying22 hv
  obtain ⟨fuel, hf⟩ := h
  refine ⟨a, len, cap, rfl, ?_⟩
  rcases open_ints Try.underlying22 Try.underlying5 (by kernel_rfl) hf with ⟨hcs, _⟩ | ⟨x, l, c, zs, hcs, _, hl, hm, hz, _, hcell, hwz⟩
  · simp [Value.cells] at hcs
    obtain ⟨rfl, rfl, rfl⟩ := hcs
    intro j hj
    omega
  · simp [Value.cells] at hcs
    obtain ⟨rfl, rfl, rfl⟩ := hcs
    intro j hj
    have hj2 : j < zs.length := by
      rw [hz]
      split <;> omega
    have hc := hcell j hj2
    obtain ⟨bb, off, spot⟩ := x
    have hspot : spot = none := by simpa [Addr.add] using World.cell?_spot (hcell 0 (by omega))
    subst hspot
    rw [Addr.add_mid] at hc
    have hw := hwz (zs.getD j 0) (by rw [List.getD_eq_getElem?_getD, List.getElem?_eq_getElem hj2]; exact List.getElem_mem hj2)
    have hb := bounds_u8 hw
    exact ⟨bb, off, zs.getD j 0, rfl, World.block_lt_of_cell? W _ hc, hc, hb.1, hb.2⟩

theorem PlanAt.through {W wi : World} (bi : Below W.heap.size W wi) {b : Nat} {x y z u : Int} (h : PlanAt W b x y z u) : PlanAt wi b x y z u := h.below bi (World.block_lt_of_cell? W _ h.1)

/-- The plain law: what the guides asked and pointing tell of two keys. -/
theorem guide_law {x y z u a b : Int} (hp : planB x y z u = true) (ha0 : 0 ≤ a) (ha1 : a < 64) (hb0 : 0 ≤ b) (hb1 : b < 64) :
    0 ≤ pointI x y z u b ∧ pointI x y z u b < u ∧ -1 ≤ guideI x y z u a ∧ guideI x y z u a < u - 1 ∧ pointI x y z u a = guideI x y z u a + 1 ∧ (pointI x y z u b = guideI x y z u a → b < a) := by
  have h1 := (planB_iff x y z u).1 hp
  have ka : inB a 0 63 = true := inB_yes ha0 (by omega)
  have kb : inB b 0 63 = true := inB_yes hb0 (by omega)
  rw [point_yes hp ka, point_yes hp kb, guide_yes hp ka]
  have hu1 : 1 ≤ u := h1.2.2.2.1
  have ma : 0 ≤ a * u := Int.mul_nonneg ha0 (by omega)
  have mb : 0 ≤ b * u := Int.mul_nonneg hb0 (by omega)
  have ma2 : a * u ≤ 63 * u := Int.mul_le_mul_of_nonneg_right (by omega) (by omega)
  have mb2 : b * u ≤ 63 * u := Int.mul_le_mul_of_nonneg_right (by omega) (by omega)
  refine ⟨by omega, by omega, by omega, by omega, by omega, ?_⟩
  intro e
  by_cases h : b < a
  · exact h
  · have := Int.mul_le_mul_of_nonneg_right (show a ≤ b by omega) (show 0 ≤ u by omega)
    omega

theorem proc_last {x y z u : Int} (hp : planB x y z u = true) : procB x y z u (x - 1) = true ∧ procB x y z u x = false := by
  have h1 := (planB_iff x y z u).1 hp
  constructor
  · simp [procB, hp, inB]; omega
  · simp [procB, hp, inB]; omega

set_option maxRecDepth 100000 in
set_option maxHeartbeats 2000000 in
theorem guides_walk (a : Option Addr) (len cap : Nat) (w : World) (C : BytesAt w.heap.size w a len) :
    Calls Try.prog 3 #[.slice a len cap] w fun e w' => e = .returned (.bool true) ∧ Below w.heap.size w w' := by
  by_cases hbig : (4096 : Int) < (len : Int)
  · go_enter Try.func3, Try.ntmps3
    go_wp2_with (go_at_call 4; refine (big_any _ _ _ _).mono ?_; rintro e w' ⟨rfl, rfl⟩)
    go_ret
    exact ⟨rfl, Below.refl _ _⟩
  · have hlen : len ≤ 4096 := by omega
    have hbf : decide ((4096 : Int) < (len : Int)) = false := by simpa using hbig
    go_enter Try.func3, Try.ntmps3
    go_wp2_with fail
    refine (big_any _ _ _ _).mono ?_
    rintro e w0 ⟨rfl, rfl⟩
    rw [hbf]
    go_wp2_with fail
    refine (roll_any a len cap 2 _ hlen C (by omega) (by omega)).mono ?_
    rintro e w1 ⟨rfl, ⟨h1, D1⟩, B1⟩
    have C1 := C.below B1
    go_wp2_with fail
    refine (fresh_any w0.heap.size w0.heap.size a len cap 0 h1 _ (Nat.le_refl _) hlen D1 C1).mono ?_
    rintro e w2 ⟨xN, uN, sg, sc, gb, nb, vb, hg, hc, y, z, i2, h2, rfl, hp, D2, C2, O2⟩
    have B2 := B1.trans (O2.below (Nat.le_refl _) (by have := D1.blk; omega))
    have z2 := D2.blk
    clear D1 C1 O2 B1 C
    have hfield : ∀ wx : World, (Instr.field 38 (.agg #[.int .i64 xN, .int .i64 y, .int .i64 z, .int .i64 uN, .int .i64 0, .slice (some ⟨sg, 0, none⟩) xN sc, .slice (some ⟨gb, 0, none⟩) uN uN, .slice (some ⟨nb, 0, none⟩) 1 1, .slice (some ⟨vb, 0, none⟩) 1 1, .slice (some ⟨hg, 0, none⟩) xN hc, .slice none 0 0, .slice none 0 0, .slice none 0 0, .int .i64 0]) 0).run Try.prog wx = .ok (.agg #[.int .i64 xN, .int .i64 y, .int .i64 z, .int .i64 uN]) wx := fun _ => by kernel_rfl
    go_wp2_with fail
    clear hfield
    have P2 := planAt_alloc w2 xN y z uN 28
    refine (below_any w0.heap.size w0.heap.size a len cap i2 h2 64 _ (Nat.le_refl _) hlen (D2.alloc _) (C2.alloc (by omega) _) (by omega) (by omega)).mono ?_
    rintro e w3 ⟨r3, i3, h3, rfl, r30, r31, D3, O3⟩
    have C3 := (C2.alloc (by omega) _).below (O3.below (Nat.le_refl _) (by simp; omega))
    have P3 := P2.only O3 (by simp) (by omega)
    have B3 := (B2.alloc (by omega) _).trans (O3.below (Nat.le_refl _) (by simp; omega))
    have z3 := O3.size
    simp at z3
    clear D2 C2 P2 O3 B2
    go_wp2_with fail
    refine (below_any w0.heap.size w0.heap.size a len cap i3 h3 64 _ (Nat.le_refl _) hlen D3 C3 (by omega) (by omega)).mono ?_
    rintro e w4 ⟨r4, i4, h4, rfl, r40, r41, D4, O4⟩
    have C4 := C3.below (O4.below (Nat.le_refl _) (by omega))
    have P4 := P3.only O4 (by omega) (by omega)
    have B4 := B3.trans (O4.below (Nat.le_refl _) (by omega))
    have z4 := O4.size
    clear D3 C3 P3 O4 B3 D4
    obtain ⟨l1, l2, l3, l4, l5, l6⟩ := guide_law hp r30 r31 r40 r41
    obtain ⟨lp1, lp2⟩ := proc_last hp
    obtain ⟨⟨hx1, hx2⟩, _, _, hu1, hu2⟩ := (planB_iff _ _ _ _).1 hp
    have lk1 : inB r3 0 63 = true := inB_yes r30 (by omega)
    have lk2 : inB 64 0 63 = false := inB_no (by omega)
    have P4' := P4
    obtain ⟨c0, c1, c2, c3⟩ := P4'
    go_wp2_with fail
    refine (guideOf_any _ _ _ _ _ _).mono ?_
    rintro e w5 ⟨rfl, b5⟩
    have P5 := P4.through b5
    have z5 := b5.size
    clear c0 c1 c2 c3
    have P5' := P5
    obtain ⟨c0, c1, c2, c3⟩ := P5'
    go_wp2_with fail
    refine (pointOf_any _ _ _ _ _ _).mono ?_
    rintro e w6a ⟨rfl, b6⟩
    have P6 := P5.through b6
    have z6 := b6.size
    have C6 := C4.below ((b5.mono (by omega)).trans (b6.mono (by omega)))
    have B6 := B4.trans ((b5.mono (by omega)).trans (b6.mono (by omega)))
    clear c0 c1 c2 c3 P4 P5 b5 b6 C4 B4
    go_wp2_with fail
    refine (drawGuideOf_any a len cap _ hlen (C6.weaken (by omega))).mono ?_
    rintro e w7 ⟨x2, y2, z2, u2, k2, rfl, b7⟩
    have P7 := P6.through b7
    have z7 := b7.size
    have B7 := B6.trans (b7.mono (by omega))
    clear b7 P6 B6 C6
    generalize guideI xN y z uN r3 = g at *
    generalize pointI xN y z uN r4 = n at *
    have Q7 := planAt_alloc w7 x2 y2 z2 u2 28
    have PP := P7.alloc (by omega) (Obj.cells #[.int .i64 x2, .int .i64 y2, .int .i64 z2, .int .i64 u2] 28)
    have BB := B7.alloc (by omega) (Obj.cells #[.int .i64 x2, .int .i64 y2, .int .i64 z2, .int .i64 u2] 28)
    clear P7 B7
    obtain ⟨k0, k1, k2', k3⟩ := Q7
    go_wp2
    go_region_held3 (fun w' => w'.cell? ⟨w7.heap.size, 0, none⟩ = some (.int .i64 x2) ∧ w'.cell? ⟨w7.heap.size, 1, none⟩ = some (.int .i64 y2) ∧ w'.cell? ⟨w7.heap.size, 2, none⟩ = some (.int .i64 z2) ∧ w'.cell? ⟨w7.heap.size, 3, none⟩ = some (.int .i64 u2)) (go_keep) (first | (go_at_call 8; refine (guideOf_any _ _ _ _ _ _).mono ?_; rintro e wi ⟨rfl, bi⟩; obtain ⟨s0, s1, s2, s3⟩ := PlanAt.through bi (show PlanAt _ w7.heap.size x2 y2 z2 u2 from (by refine ⟨?_, ?_, ?_, ?_⟩ <;> simp [*])); replace PP : PlanAt wi w2.heap.size xN y z uN := PlanAt.through bi PP; replace BB : Below w0.heap.size w0 wi := (by first | exact BB.drew.trans (bi.mono (by exact BB.size)) | exact BB.trans (bi.mono (by exact BB.size)))) | (go_at_call 11; refine (specGuideOf_any _ _ _ _ _ _).mono ?_; rintro e wi ⟨rfl, bi⟩; obtain ⟨s0, s1, s2, s3⟩ := PlanAt.through bi (show PlanAt _ w7.heap.size x2 y2 z2 u2 from (by refine ⟨?_, ?_, ?_, ?_⟩ <;> simp [*])); replace PP : PlanAt wi w2.heap.size xN y z uN := PlanAt.through bi PP; replace BB : Below w0.heap.size w0 wi := (by first | exact BB.drew.trans (bi.mono (by exact BB.size)) | exact BB.trans (bi.mono (by exact BB.size)))) | (go_at_call 9; refine (pointOf_any _ _ _ _ _ _).mono ?_; rintro e wi ⟨rfl, bi⟩; obtain ⟨s0, s1, s2, s3⟩ := PlanAt.through bi (show PlanAt _ w7.heap.size x2 y2 z2 u2 from (by refine ⟨?_, ?_, ?_, ?_⟩ <;> simp [*])); replace PP : PlanAt wi w2.heap.size xN y z uN := PlanAt.through bi PP; replace BB : Below w0.heap.size w0 wi := (by first | exact BB.drew.trans (bi.mono (by exact BB.size)) | exact BB.trans (bi.mono (by exact BB.size)))) | (go_at_call 12; refine (specPointOf_any _ _ _ _ _ _).mono ?_; rintro e wi ⟨rfl, bi⟩; obtain ⟨s0, s1, s2, s3⟩ := PlanAt.through bi (show PlanAt _ w7.heap.size x2 y2 z2 u2 from (by refine ⟨?_, ?_, ?_, ?_⟩ <;> simp [*])); replace PP : PlanAt wi w2.heap.size xN y z uN := PlanAt.through bi PP; replace BB : Below w0.heap.size w0 wi := (by first | exact BB.drew.trans (bi.mono (by exact BB.size)) | exact BB.trans (bi.mono (by exact BB.size)))) | (go_at_call 13; refine (planOk_any _ _ _ _ _).mono ?_; rintro e wi ⟨rfl, bi⟩; obtain ⟨s0, s1, s2, s3⟩ := PlanAt.through bi (show PlanAt _ w7.heap.size x2 y2 z2 u2 from (by refine ⟨?_, ?_, ?_, ?_⟩ <;> simp [*])); replace PP : PlanAt wi w2.heap.size xN y z uN := PlanAt.through bi PP; replace BB : Below w0.heap.size w0 wi := (by first | exact BB.drew.trans (bi.mono (by exact BB.size)) | exact BB.trans (bi.mono (by exact BB.size)))) | (go_at_call 14; refine (specPlanOk_any _ _ _ _ _).mono ?_; rintro e wi ⟨rfl, bi⟩; obtain ⟨s0, s1, s2, s3⟩ := PlanAt.through bi (show PlanAt _ w7.heap.size x2 y2 z2 u2 from (by refine ⟨?_, ?_, ?_, ?_⟩ <;> simp [*])); replace PP : PlanAt wi w2.heap.size xN y z uN := PlanAt.through bi PP; replace BB : Below w0.heap.size w0 wi := (by first | exact BB.drew.trans (bi.mono (by exact BB.size)) | exact BB.trans (bi.mono (by exact BB.size)))))
    clear s0 s1 s2 s3 k0 k1 k2' k3
    have PP' := PP
    obtain ⟨c0, c1, c2, c3⟩ := PP'
    go_wp2_with fail
    refine (keyOk_any _ _).mono ?_
    rintro e v1 ⟨rfl, rfl⟩
    rw [lk1]
    go_wp2_with fail
    refine (keyOk_any _ _).mono ?_
    rintro e v2 ⟨rfl, rfl⟩
    rw [lk2]
    go_wp2_with fail
    refine (procIn_any _ _ _ _ _ _).mono ?_
    rintro e v3 ⟨rfl, bi⟩
    rw [lp1]
    replace PP : PlanAt v3 w2.heap.size xN y z uN := PlanAt.through bi PP
    replace BB : Below w0.heap.size w0 v3 := BB.trans (bi.mono BB.size)
    clear bi c0 c1 c2 c3
    have PP' := PP
    obtain ⟨c0, c1, c2, c3⟩ := PP'
    go_wp2_with fail
    refine (procIn_any _ _ _ _ _ _).mono ?_
    rintro e v4 ⟨rfl, bi⟩
    rw [lp2]
    replace PP : PlanAt v4 w2.heap.size xN y z uN := PlanAt.through bi PP
    replace BB : Below w0.heap.size w0 v4 := BB.trans (bi.mono BB.size)
    clear bi c0 c1 c2 c3
    have PP' := PP
    obtain ⟨c0, c1, c2, c3⟩ := PP'
    go_wp2_with fail
    refine (pointOf_any _ _ _ _ _ _).mono ?_
    rintro e v5 ⟨rfl, bi⟩
    rw [l5]
    replace BB : Below w0.heap.size w0 v5 := BB.trans (bi.mono BB.size)
    clear bi c0 c1 c2 c3 PP l5 lp1 lp2 lk1 lk2
    by_cases hng : n = g
    · have hlt := l6 hng
      subst hng
      clear l6
      go_wp2
      go_ret
      exact ⟨rfl, BB⟩
    · have hb1 : (n != g) = true := by simpa using hng
      clear l6
      go_wp2
      go_ret
      exact ⟨rfl, BB⟩

set_option maxRecDepth 100000 in
theorem guides_lifted (os : Os) (started : os.Started) (H : Type) (enc : TypeId × Value → H) :
    ReturnsInHanded {} Try.checked os 3 .any (Rows.fnGuidesSpec.pre6 enc Try.prog Try.f3 Rows.fnGuidesRow.domain false) (Rows.fnGuidesSpec.post enc Try.prog Try.f3 false true false false) := by
  refine returnsInHanded_of_change (C := Try.checked) own started (by kernel_rfl) Try.func3
    (ChangeSpec.witness6 (enc := enc) (C := Try.checked) false ⟨#[], #[.slice none 0 0], []⟩ 8 (by kernel_rfl) (by kernel_rfl) (by kernel_rfl) (by kernel_rfl)) ?_
  intro W base args ds gs before hval0 hW hcnd _
  have hval : ∀ (j : Nat) t v, Try.f3.params[j]? = some t → args[j]? = some v → Value.okWide Try.prog W .any base t v := hval0
  have hW' := hW
  obtain ⟨p, q, hA0, hV, rfl, hfz, hnd⟩ := hW
  have hA : DataW.TrodAll enc Try.prog W 0 (fun _ => true) true Try.f3.params.toList args.toList ds p := hA0
  rw [Try.params3] at hA hval
  obtain ⟨v0, vs0, d0, ds0, p0, q0, hargs, rfl, rfl, h0, r0⟩ := trodAll_cons hA
  obtain ⟨rfl, rfl, rfl⟩ := trodAll_nil r0
  obtain rfl : args = #[v0] := by cases args; simp_all
  obtain ⟨rfl, rfl⟩ := trodVars_none hV
  have k0 := h0
  have lt0 : ∀ x ∈ p0, x.block < W.heap.size := by obtain ⟨m, hm⟩ := k0; exact DataW.trod_lt m _ _ _ hm
  obtain ⟨a0, len0, cap0, hv0, w0⟩ := open_bytes (hval 0 22 v0 rfl rfl) h0
  subst hv0
  clear hA0 hval0
  refine (guides_walk a0 len0 cap0 W w0).mono fun e W' ⟨he, bel⟩ => ?_
  subst he
  exact ⟨_, rfl, _, _, _, [], _, [], hW', trodAll_mk1 (shut_bool Try.underlying4 _), (trodAll_cons_mk (Below.trod laidOut (by kernel_rfl) (of_decide_eq_true (by kernel_rfl)) k0 bel lt0) trodAll_mk0), rfl, bel.frame _, fun h => by cases h⟩

/-- The given statement. -/
theorem guides_holds : Rows.FnGuidesSaid :=
  OpenClaim.holds_of_wide 3 Try.f3 rfl rfl rfl rfl rfl rfl rfl ⟨rfl, rfl, rfl, rfl, rfl⟩ rfl rfl rfl rfl rfl (by kernel_rfl) Try.func3 (by kernel_rfl)
    (of_decide_eq_true (by kernel_rfl)) (by unfold Func.isWrapper; first | (rw [if_pos (by decide +kernel)]; kernel_rfl) | (rw [if_neg (by decide +kernel)]; exact ⟨rfl, rfl⟩))
    (fun os started H enc _ => guides_lifted os started H enc)
#print axioms guides_holds

end Go.Proofs.Ytpehbhembfopeaa
