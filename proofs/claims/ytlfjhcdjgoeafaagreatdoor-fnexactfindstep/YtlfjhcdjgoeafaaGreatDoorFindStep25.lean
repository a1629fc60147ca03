/-
  FindStep answers as the document's model does: at every Plan, Arena, Hand and numbers the law of FindStep returns true and leaves its arguments as they were; the three errors that it names read as their initialisers lay them: the card ties that to the program's text.
-/
import Derived.Test.YtlfjhcdjgoeafaaGreatDoorCards
import Derived.Test.YtlfjhcdjgoeafaaGreatDoorTie
import Derived.ChangeSame
import Derived.ChangeVars
import Derived.JoinedOf
import Derived.LaidHandle
import Derived.LaidOnce
import Derived.LaidMore
import Derived.ProofKit
import Derived.OpenShut
import Derived.Stop.Joined
import Derived.SevenTiedAt
import Derived.Test.YtlfjhcdjgoeafaaGreatDoorFindStep00
import Derived.Test.YtlfjhcdjgoeafaaGreatDoorFindStep24
namespace Go.Proofs.YtlfjhcdjgoeafaaGreatDoor
open Go.ChangeShapes Go.WideShapes Go.ChangeAt Go.RowKit
set_option linter.unusedVariables false
set_option linter.unusedSimpArgs false
set_option linter.unnecessarySimpa false
set_option linter.unusedSectionVars false
section
theorem findStepLaw_star : "*" ++ "errors.errorString" = "*errors.errorString" := by decide
theorem findStepLaw_row (u : TypeId) (h : Tryz.prog.typeName? 3 u = some "*errors.errorString") : u = 147 :=
 typeName_ptr_named (nm := "errors.errorString") (by rw [findStepLaw_star]; kernel_rfl) (by kernel_rfl) (by decide) u (by rw [findStepLaw_star]; exact h)
theorem findStepLaw_errs {W : World} (h : laidMetH Tryz.prog Rows.fnExactFindStepRow.laid W) : ∃ eN eF eU, Errs W.heap.size W eN eF eU := by
 have h' : laidMet Tryz.prog (("loop.example/g00715/impl.errNoRoom", .iface "*errors.errorString" (.ptr (.agg [.lit (.string _)]))) :: ("loop.example/g00715/impl.errFaster", .iface "*errors.errorString" (.ptr (.agg [.lit (.string _)]))) :: ("loop.example/g00715/impl.errUnfit", .iface "*errors.errorString" (.ptr (.agg [.lit (.string _)]))) :: []) W := h
 obtain ⟨a0, a1, a2, c0, c1, c2, e0, e1, e2, n01, n02, n12⟩ := laid_sentinels3 h' (show Tryz.prog.globalNamed "loop.example/g00715/impl.errNoRoom" = some 0 by kernel_rfl) (by kernel_rfl) (show Tryz.prog.globalNamed "loop.example/g00715/impl.errFaster" = some 1 by kernel_rfl) (by kernel_rfl) (show Tryz.prog.globalNamed "loop.example/g00715/impl.errUnfit" = some 2 by kernel_rfl) (by kernel_rfl) Tryz.underlying121 findStepLaw_row Tryz.underlying147 Tryz.underlying173 rfl rfl Tryz.underlying9 (by kernel_rfl) (by kernel_rfl)
 exact ⟨a0, a1, a2, c0, c1, c2, World.block_lt_of_cell? W _ c0, World.block_lt_of_cell? W _ c1, World.block_lt_of_cell? W _ c2, e0.lt, e1.lt, e2.lt, e0, e1, e2, n01, (Ne.symm n12)⟩
theorem findStepLaw_door (os : Os) (args : Array Value) : laidMetH Tryz.prog Rows.fnExactFindStepRow.laid ((World.doorLaid Tryz.prog 66 os).forCall (fun _ _ => 0) ⟨#[], args, []⟩).memory :=
 laidMetH_of_parts3 (fuel := 8) (laidMet_of_run' 8 (by kernel_rfl) (by kernel_rfl)) (by kernel_rfl) (by kernel_rfl)
set_option maxRecDepth 100000 in
theorem findStepLaw_lifted (os : Os) (started : os.Started) (H : Type) (enc : TypeId × Value → H) :
  ReturnsInHanded {} Tryz.checked os 3 .any (fun w args => (Rows.fnExactFindStepSpec.pre enc Tryz.prog Tryz.f3 [] false w args ∧ laidMetH Tryz.prog Rows.fnExactFindStepRow.laid w) ∧ sizedMet enc Tryz.prog Tryz.f3 (OpenSpec.ofChange Rows.fnExactFindStepSpec) false w args)
   (Rows.fnExactFindStepSpec.post enc Tryz.prog Tryz.f3 false true false false) := by
 refine returnsInHanded_of_change_and (C := Tryz.checked) (X := fun w _ => laidMetH Tryz.prog Rows.fnExactFindStepRow.laid w) (fun _ _ _ hh h => h.of_heap hh) own started (by kernel_rfl) Tryz.func3
  (ChangeSpec.witness_shaped (enc := enc) (C := Tryz.checked) (os := os) (X := fun w _ => laidMetH Tryz.prog Rows.fnExactFindStepRow.laid w) false (World.doorLaid Tryz.prog 66 os) #[.agg #[.int .i64 0, .int .i64 0, .int .i64 0, .int .i64 0], .agg #[.int .i64 0, .slice none 0 0, .slice none 0 0, .slice none 0 0, .slice none 0 0], .int .i64 0, .agg #[.int .i64 0, .int .i64 0, .int .i64 0, .int .i64 0, .int .i64 0, .int .i64 0, .int .i64 0, .int .i64 0, .int .i64 0, .int .i64 0, .int .i64 0, .int .i64 0, .int .i64 0, .int .i64 0, .int .i64 0, .int .i64 0, .int .i64 0, .int .i64 0, .int .i64 0, .int .i64 0, .int .i64 0, .int .i64 0], .int .i64 0] 8 rfl (World.shaped_of_RefB (by kernel_rfl) (by kernel_rfl)) (by kernel_rfl) (by kernel_rfl) (by kernel_rfl) (findStepLaw_door os _)) ?_
 intro W base args ds gs before hval0 hW _ _ hL _
 obtain ⟨eN, eF, eU, hE⟩ := findStepLaw_errs hL
 have hval : ∀ (j : Nat) t v, Tryz.f3.params[j]? = some t → args[j]? = some v → Value.okWide Tryz.prog W .any base t v := hval0
 have hW' := hW
 obtain ⟨p, q, hA0, hV0, rfl, hfz, hnd⟩ := hW
 have hA : DataW.TrodAll enc Tryz.prog W 0 (fun _ => true) true Tryz.f3.params.toList args.toList ds p := hA0
 have hV : DataW.TrodVars enc Tryz.prog W (fun _ => true) ["loop.example/g00715/impl.errNoRoom", "loop.example/g00715/impl.errFaster", "loop.example/g00715/impl.errUnfit"] gs q := hV0
 rw [Tryz.params3] at hA hval
 obtain ⟨v0, vs0, d0, ds0, p0, q0, hargs, rfl, rfl, h0, r0⟩ := trodAll_cons hA
 obtain ⟨v1, vs1, d1, ds1, p1, q1, rfl, rfl, rfl, h1, r1⟩ := trodAll_cons r0
 obtain ⟨v2, vs2, d2, ds2, p2, q2, rfl, rfl, rfl, h2, r2⟩ := trodAll_cons r1
 obtain ⟨v3, vs3, d3, ds3, p3, q3, rfl, rfl, rfl, h3, r3⟩ := trodAll_cons r2
 obtain ⟨v4, vs4, d4, ds4, p4, q4, rfl, rfl, rfl, h4, r4⟩ := trodAll_cons r3
 obtain ⟨rfl, rfl, rfl⟩ := trodAll_nil r4
 obtain rfl : args = #[v0, v1, v2, v3, v4] := by cases args; simp_all
 obtain ⟨g0, g1, g2, rfl⟩ := vars_three hV
 have k0 := h0
 have lt0 : ∀ x ∈ p0, x.block < W.heap.size := by obtain ⟨m, hm⟩ := k0; exact DataW.trod_lt m _ _ _ hm
 obtain ⟨x0, y0, z0, u0, hv0, wx0, wy0, wz0, wu0⟩ := open_plan (hval 0 23 v0 rfl rfl) h0
 subst hv0
 have k1 := h1
 have lt1 : ∀ x ∈ p1, x.block < W.heap.size := by obtain ⟨m, hm⟩ := k1; exact DataW.trod_lt m _ _ _ hm
 obtain ⟨A1, a10, a11, a12, a13, c10, c11, c12, c13, hv1, I1, m10, m11, m12, m13⟩ := open_arena (hval 1 28 v1 rfl rfl) h1
 subst hv1
 have k2 := h2
 have lt2 : ∀ x ∈ p2, x.block < W.heap.size := by obtain ⟨m, hm⟩ := k2; exact DataW.trod_lt m _ _ _ hm
 obtain ⟨x2, hv2, wx2⟩ : ∃ x, v2 = .int .i64 x ∧ (Lit.int .i64 x).wf = true := by
  obtain ⟨x, e1, _, _, wx⟩ := open_int Tryz.underlying2 (hval 2 2 v2 rfl rfl) h2
  exact ⟨x, e1, wx⟩
 subst hv2
 have k3 := h3
 have lt3 : ∀ x ∈ p3, x.block < W.heap.size := by obtain ⟨m, hm⟩ := k3; exact DataW.trod_lt m _ _ _ hm
 obtain ⟨hd3, hv3⟩ := open_hand (hval 3 30 v3 rfl rfl) h3
 subst hv3
 have k4 := h4
 have lt4 : ∀ x ∈ p4, x.block < W.heap.size := by obtain ⟨m, hm⟩ := k4; exact DataW.trod_lt m _ _ _ hm
 obtain ⟨x4, hv4, wx4⟩ : ∃ x, v4 = .int .i64 x ∧ (Lit.int .i64 x).wf = true := by
  obtain ⟨x, e1, _, _, wx⟩ := open_int Tryz.underlying2 (hval 4 2 v4 rfl rfl) h4
  exact ⟨x, e1, wx⟩
 subst hv4
 clear hA0 hval0 hL
 refine (findStepLaw_walk x0 y0 z0 u0 wx0 wy0 wz0 wu0 A1 a10 a11 a12 a13 c10 c11 c12 c13 x2 wx2 hd3 x4 wx4 eN eF eU W I1 m10 m11 m12 m13 hE).mono fun e W' ⟨he, bel⟩ => ?_
 subst he
 exact ⟨_, rfl, _, _, _, [], _, _, hW', trodAll_mk1 (shut_bool Tryz.underlying4 _), (trodAll_cons_mk (Below.trod laidOut (by kernel_rfl) (of_decide_eq_true (by kernel_rfl)) k0 bel lt0) (trodAll_cons_mk (Below.trod laidOut (by kernel_rfl) (of_decide_eq_true (by kernel_rfl)) k1 bel lt1) (trodAll_cons_mk (Below.trod laidOut (by kernel_rfl) (of_decide_eq_true (by kernel_rfl)) k2 bel lt2) (trodAll_cons_mk (Below.trod laidOut (by kernel_rfl) (of_decide_eq_true (by kernel_rfl)) k3 bel lt3) (trodAll_cons_mk (Below.trod laidOut (by kernel_rfl) (of_decide_eq_true (by kernel_rfl)) k4 bel lt4) trodAll_mk0))))), vars_kept bel _ _ _ (fun x hx => hW'.lt x (List.mem_append_right _ hx)) (by kernel_rfl) _ _ hV, bel.frame _, fun h => by cases h⟩
theorem findStepLaw_said : Rows.FnExactFindStepSaid :=
 OpenClaim.holds_of_wide 3 Tryz.f3 rfl rfl rfl rfl rfl rfl rfl ⟨rfl, rfl, rfl, rfl, rfl⟩ rfl rfl rfl rfl rfl (by kernel_rfl) Tryz.func3 (by kernel_rfl)
  (of_decide_eq_true (by kernel_rfl)) (by unfold Func.isWrapper; first | (rw [if_pos (by decide +kernel)]; kernel_rfl) | (rw [if_neg (by decide +kernel)]; exact ⟨rfl, rfl⟩))
  (fun os started H enc _ => findStepLaw_lifted os started H enc)
theorem findStepLaw_plain (f : FuncId) (fn : Func) (hf : Tryz.pinned.checked.prog.funcNamed "loop.example/g00715/laws.FnExactFindStep" = some f) (hfn : Tryz.pinned.checked.prog.funcs[f]? = some fn) :
  Rows.fnExactFindStepCard.stood.looks = Tryz.pinned.checked.prog.looks [] ∧ ∀ (j : Nat) t, fn.params[j]? = some t → Tryz.pinned.checked.prog.wantsStandIn t = false := by
 obtain rfl : f = 3 := Option.some.inj ((show Tryz.prog.funcNamed "loop.example/g00715/laws.FnExactFindStep" = some 3 by kernel_rfl).symm.trans hf) |>.symm
 obtain rfl : fn = Tryz.f3 := (Option.some.inj (Tryz.func3.symm.trans hfn)).symm
 refine ⟨by kernel_rfl, fun j t ht => ?_⟩
 rw [Tryz.params3] at ht
 have hm : t ∈ [23, 28, 2, 30, 2] := by simpa using Array.mem_of_getElem? ht
 have hall : ([23, 28, 2, 30, 2].all fun u => !Tryz.prog.wantsStandIn u) = true := by kernel_rfl
 exact (show Tryz.prog.wantsStandIn t = false by simpa using List.all_eq_true.1 hall t hm)
theorem findStepLaw_holds : Rows.FnExactFindStepCardSaid :=
 Claim7.holds_tied_plain_at .later [] _ _ _ _ findStepLaw_said (fun _ h => by cases h) (by kernel_rfl) (fun _ h => by cases h) fnExactFindStep_row_tie rfl ⟨rfl, rfl⟩ (by kernel_rfl) rfl findStepLaw_plain (by kernel_rfl)
#print axioms findStepLaw_holds
end
end Go.Proofs.YtlfjhcdjgoeafaaGreatDoor
