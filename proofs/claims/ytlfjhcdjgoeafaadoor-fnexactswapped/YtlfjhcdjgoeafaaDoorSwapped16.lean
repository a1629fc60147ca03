/-
  Swapped answers as the document's model does: at every Plan, Arena, Hand and numbers the law of Swapped returns true and leaves its arguments as they were; the three errors that it names read as their initialisers lay them: the card ties that to the program's text.
-/
import Derived.Test.YtlfjhcdjgoeafaaDoorCards
import Derived.Test.YtlfjhcdjgoeafaaDoorTie
import Derived.ChangeSame
import Derived.ChangeVars
import Derived.JoinedOf
import Derived.LaidHandle
import Derived.LaidOnce
import Derived.LaidMore
import Derived.ProofKit
import Derived.OpenShut
import Derived.Stop.Joined
import Derived.SevenTiedAt
import Derived.Test.YtlfjhcdjgoeafaaDoorSwapped00
import Derived.Test.YtlfjhcdjgoeafaaDoorSwapped15
namespace Go.Proofs.YtlfjhcdjgoeafaaDoor
open Go.ChangeShapes Go.WideShapes Go.ChangeAt Go.RowKit
set_option maxRecDepth 100000
set_option maxHeartbeats 16000000
set_option linter.unusedVariables false
set_option linter.unusedSimpArgs false
set_option linter.unnecessarySimpa false
set_option linter.unusedSectionVars false
section
theorem qz2d : "*" ++ "errors.errorString" = "*errors.errorString" := by decide
theorem qz4h (u : TypeId) (h : Tryd.prog.typeName? 3 u = some "*errors.errorString") : u = 144 :=
 typeName_ptr_named (nm := "errors.errorString") (by rw [qz2d]; kernel_rfl) (by kernel_rfl) (by decide) u (by rw [qz2d]; exact h)
theorem qz3y {W : World} (h : laidMetH Tryd.prog Rows.fnExactSwappedRow.laid W) : ∃ eN eF eU, Errs W.heap.size W eN eF eU := by
 have h' : laidMet Tryd.prog (("loop.example/g00715/impl.errNoRoom", .iface "*errors.errorString" (.ptr (.agg [.lit (.string _)]))) :: ("loop.example/g00715/impl.errFaster", .iface "*errors.errorString" (.ptr (.agg [.lit (.string _)]))) :: ("loop.example/g00715/impl.errUnfit", .iface "*errors.errorString" (.ptr (.agg [.lit (.string _)]))) :: []) W := h.1
 obtain ⟨a0, a1, a2, c0, c1, c2, e0, e1, e2, n01, n02, n12⟩ := qz3q h' (show Tryd.prog.globalNamed "loop.example/g00715/impl.errNoRoom" = some 0 by kernel_rfl) (by kernel_rfl) (show Tryd.prog.globalNamed "loop.example/g00715/impl.errFaster" = some 1 by kernel_rfl) (by kernel_rfl) (show Tryd.prog.globalNamed "loop.example/g00715/impl.errUnfit" = some 2 by kernel_rfl) (by kernel_rfl) Tryd.underlying56 qz4h Tryd.underlying144 Tryd.underlying166 rfl rfl Tryd.underlying9 (by kernel_rfl) (by kernel_rfl)
 exact ⟨a0, a1, a2, c0, c1, c2, World.block_lt_of_cell? W _ c0, World.block_lt_of_cell? W _ c1, World.block_lt_of_cell? W _ c2, e0.lt, e1.lt, e2.lt, e0, e1, e2, n01, (Ne.symm n12)⟩
theorem qz3v {W : World} (h : laidMetH Tryd.prog Rows.fnExactSwappedRow.laid W) : ErrT W.heap.size W := by
 have h' : laidMet Tryd.prog (("loop.example/g00715/impl.errNoRoom", .iface "*errors.errorString" (.ptr (.agg [.lit (.string _)]))) :: ("loop.example/g00715/impl.errFaster", .iface "*errors.errorString" (.ptr (.agg [.lit (.string _)]))) :: ("loop.example/g00715/impl.errUnfit", .iface "*errors.errorString" (.ptr (.agg [.lit (.string _)]))) :: []) W /\ handlesMet Tryd.prog [("errors.errorType", Rows.laid_errors_errorType)] W := h
 obtain ⟨name, u, ty, e1, e2, e3, e4, e5⟩ := h'.2 _ (List.mem_singleton.2 rfl)
 have en : name = [101, 114, 114, 111, 114] := (Option.some.inj e1).symm
 subst en
 obtain rfl := Option.some.inj ((show (Tryd.prog.cutTypes.find? (·.1 == "internal/reflectlite.rtype")).map (·.2) = some 128 by kernel_rfl).symm.trans e2)
 have hm : ty ∈ (List.range Tryd.prog.types.size).filter fun t => Tryd.prog.rowNamed t [101, 114, 114, 111, 114] := List.mem_filter.2 ⟨List.mem_range.2 e3, e4⟩
 rw [show ((List.range Tryd.prog.types.size).filter fun t => Tryd.prog.rowNamed t [101, 114, 114, 111, 114]) = [56] by kernel_rfl] at hm
 obtain rfl := List.mem_singleton.1 hm
 have hh : typeHandle Tryd.prog 56 = .pointer (some ⟨4, 56, none⟩) := by kernel_rfl
 rw [hh] at e5
 have hc : W.cell? ⟨3, 0, none⟩ = some (.iface 128 (.agg #[.pointer (some ⟨4, 56, none⟩)])) := by simpa using World.var?_cell (show Tryd.prog.globalNamed "errors.errorType" = some 3 by kernel_rfl) e5 0
 exact ⟨hc, World.block_lt_of_cell? W _ hc⟩
theorem qz44 (os : Os) (args : Array Value) : laidMetH Tryd.prog Rows.fnExactSwappedRow.laid ((World.doorLaid Tryd.prog 73 os).forCall (fun _ _ => 0) ⟨#[], args, []⟩).memory :=
 laidMetH_of_parts3 (fuel := 8) (laidMet_of_run' 8 (by kernel_rfl) (by kernel_rfl)) (by kernel_rfl) (by kernel_rfl)
theorem qz34 (os : Os) (started : os.Started) (H : Type) (enc : TypeId × Value -> H) :
  ReturnsInHanded {} Tryd.checked os 3 .any (fun w args => (Rows.fnExactSwappedSpec.pre enc Tryd.prog Tryd.f3 [] false w args /\ laidMetH Tryd.prog Rows.fnExactSwappedRow.laid w) /\ sizedMet enc Tryd.prog Tryd.f3 (OpenSpec.ofChange Rows.fnExactSwappedSpec) false w args)
   (Rows.fnExactSwappedSpec.post enc Tryd.prog Tryd.f3 false true false false) := by
 refine returnsInHanded_of_change_and (C := Tryd.checked) (X := fun w _ => laidMetH Tryd.prog Rows.fnExactSwappedRow.laid w) (fun _ _ _ hh h => h.of_heap hh) own started (by kernel_rfl) Tryd.func3
  (ChangeSpec.witness_shaped (enc := enc) (C := Tryd.checked) (os := os) (X := fun w _ => laidMetH Tryd.prog Rows.fnExactSwappedRow.laid w) false (World.doorLaid Tryd.prog 73 os) #[.agg #[.int .i64 0, .int .i64 0, .int .i64 0, .int .i64 0], .agg #[.int .i64 0, .slice none 0 0, .slice none 0 0, .slice none 0 0, .slice none 0 0], .int .i64 0, .int .i64 0, .int .i64 0, .bool false, .int .i64 0] 8 rfl (World.shaped_of_RefB (by kernel_rfl) (by kernel_rfl)) (by kernel_rfl) (by kernel_rfl) (by kernel_rfl) (qz44 os _)) ?_
 intro W base args ds gs before hval0 hW _ _ hL _
 obtain ⟨eN, eF, eU, hE⟩ := qz3y hL
 have hT := qz3v hL
 have hval : ∀ (j : Nat) t v, Tryd.f3.params[j]? = some t -> args[j]? = some v -> Value.okWide Tryd.prog W .any base t v := hval0
 have hW' := hW
 obtain ⟨p, q, hA0, hV0, rfl, hfz, hnd⟩ := hW
 have hA : DataW.TrodAll enc Tryd.prog W 0 (fun _ => true) true Tryd.f3.params.toList args.toList ds p := hA0
 have hV : DataW.TrodVars enc Tryd.prog W (fun _ => true) ["loop.example/g00715/impl.errNoRoom", "loop.example/g00715/impl.errFaster", "loop.example/g00715/impl.errUnfit"] gs q := hV0
 rw [Tryd.params3] at hA hval
 obtain ⟨v0, vs0, d0, ds0, p0, q0, hargs, rfl, rfl, h0, r0⟩ := trodAll_cons hA
 obtain ⟨v1, vs1, d1, ds1, p1, q1, rfl, rfl, rfl, h1, r1⟩ := trodAll_cons r0
 obtain ⟨v2, vs2, d2, ds2, p2, q2, rfl, rfl, rfl, h2, r2⟩ := trodAll_cons r1
 obtain ⟨v3, vs3, d3, ds3, p3, q3, rfl, rfl, rfl, h3, r3⟩ := trodAll_cons r2
 obtain ⟨v4, vs4, d4, ds4, p4, q4, rfl, rfl, rfl, h4, r4⟩ := trodAll_cons r3
 obtain ⟨v5, vs5, d5, ds5, p5, q5, rfl, rfl, rfl, h5, r5⟩ := trodAll_cons r4
 obtain ⟨v6, vs6, d6, ds6, p6, q6, rfl, rfl, rfl, h6, r6⟩ := trodAll_cons r5
 obtain ⟨rfl, rfl, rfl⟩ := trodAll_nil r6
 obtain rfl : args = #[v0, v1, v2, v3, v4, v5, v6] := by cases args; simp_all
 obtain ⟨g0, g1, g2, rfl⟩ := qz76 hV
 have k0 := h0
 have lt0 : ∀ x ∈ p0, x.block < W.heap.size := by obtain ⟨m, hm⟩ := k0; exact DataW.trod_lt m _ _ _ hm
 obtain ⟨x0, y0, z0, u0, hv0, wx0, wy0, wz0, wu0⟩ := qz7z (hval 0 23 v0 rfl rfl) h0
 subst hv0
 have k1 := h1
 have lt1 : ∀ x ∈ p1, x.block < W.heap.size := by obtain ⟨m, hm⟩ := k1; exact DataW.trod_lt m _ _ _ hm
 obtain ⟨A1, a10, a11, a12, a13, c10, c11, c12, c13, hv1, I1, m10, m11, m12, m13⟩ := qz7k (hval 1 28 v1 rfl rfl) h1
 subst hv1
 have k2 := h2
 have lt2 : ∀ x ∈ p2, x.block < W.heap.size := by obtain ⟨m, hm⟩ := k2; exact DataW.trod_lt m _ _ _ hm
 obtain ⟨x2, hv2, wx2⟩ : ∃ x, v2 = .int .i64 x /\ (Lit.int .i64 x).wf = true := by
  obtain ⟨x, e1, _, _, wx⟩ := open_int Tryd.underlying2 (hval 2 2 v2 rfl rfl) h2
  exact ⟨x, e1, wx⟩
 subst hv2
 have k3 := h3
 have lt3 : ∀ x ∈ p3, x.block < W.heap.size := by obtain ⟨m, hm⟩ := k3; exact DataW.trod_lt m _ _ _ hm
 obtain ⟨x3, hv3, wx3⟩ : ∃ x, v3 = .int .i64 x /\ (Lit.int .i64 x).wf = true := by
  obtain ⟨x, e1, _, _, wx⟩ := open_int Tryd.underlying2 (hval 3 2 v3 rfl rfl) h3
  exact ⟨x, e1, wx⟩
 subst hv3
 have k4 := h4
 have lt4 : ∀ x ∈ p4, x.block < W.heap.size := by obtain ⟨m, hm⟩ := k4; exact DataW.trod_lt m _ _ _ hm
 obtain ⟨x4, hv4, wx4⟩ : ∃ x, v4 = .int .i64 x /\ (Lit.int .i64 x).wf = true := by
  obtain ⟨x, e1, _, _, wx⟩ := open_int Tryd.underlying2 (hval 4 2 v4 rfl rfl) h4
  exact ⟨x, e1, wx⟩
 subst hv4
 have k5 := h5
 have lt5 : ∀ x ∈ p5, x.block < W.heap.size := by obtain ⟨m, hm⟩ := k5; exact DataW.trod_lt m _ _ _ hm
 obtain ⟨x5, hv5⟩ : ∃ x, v5 = .bool x := by
  obtain ⟨x, e1, _, _⟩ := open_bool Tryd.underlying4 (hval 5 4 v5 rfl rfl) h5
  exact ⟨x, e1⟩
 subst hv5
 have k6 := h6
 have lt6 : ∀ x ∈ p6, x.block < W.heap.size := by obtain ⟨m, hm⟩ := k6; exact DataW.trod_lt m _ _ _ hm
 obtain ⟨x6, hv6, wx6⟩ : ∃ x, v6 = .int .i64 x /\ (Lit.int .i64 x).wf = true := by
  obtain ⟨x, e1, _, _, wx⟩ := open_int Tryd.underlying2 (hval 6 2 v6 rfl rfl) h6
  exact ⟨x, e1, wx⟩
 subst hv6
 clear hA0 hval0 hL
 refine (qz3u x0 y0 z0 u0 wx0 wy0 wz0 wu0 A1 a10 a11 a12 a13 c10 c11 c12 c13 x2 wx2 x3 wx3 x4 wx4 x5 x6 wx6 eN eF eU W I1 m10 m11 m12 m13 hE hT).mono fun e W' ⟨he, bel⟩ => ?_
 subst he
 exact ⟨_, rfl, _, _, _, [], _, _, hW', trodAll_mk1 (shut_bool Tryd.underlying4 _), (trodAll_cons_mk (Below.trod qz3p (by kernel_rfl) (of_decide_eq_true (by kernel_rfl)) k0 bel lt0) (trodAll_cons_mk (Below.trod qz3p (by kernel_rfl) (of_decide_eq_true (by kernel_rfl)) k1 bel lt1) (trodAll_cons_mk (Below.trod qz3p (by kernel_rfl) (of_decide_eq_true (by kernel_rfl)) k2 bel lt2) (trodAll_cons_mk (Below.trod qz3p (by kernel_rfl) (of_decide_eq_true (by kernel_rfl)) k3 bel lt3) (trodAll_cons_mk (Below.trod qz3p (by kernel_rfl) (of_decide_eq_true (by kernel_rfl)) k4 bel lt4) (trodAll_cons_mk (Below.trod qz3p (by kernel_rfl) (of_decide_eq_true (by kernel_rfl)) k5 bel lt5) (trodAll_cons_mk (Below.trod qz3p (by kernel_rfl) (of_decide_eq_true (by kernel_rfl)) k6 bel lt6) trodAll_mk0))))))), qz6d bel _ _ _ (fun x hx => hW'.lt x (List.mem_append_right _ hx)) (by kernel_rfl) _ _ hV, bel.frame _, fun h => by cases h⟩
theorem qz43 : Rows.FnExactSwappedSaid :=
 OpenClaim.holds_of_wide 3 Tryd.f3 rfl rfl rfl rfl rfl rfl rfl ⟨rfl, rfl, rfl, rfl, rfl⟩ rfl rfl rfl rfl rfl (by kernel_rfl) Tryd.func3 (by kernel_rfl)
  (of_decide_eq_true (by kernel_rfl)) (by unfold Func.isWrapper; first | (rw [if_pos (by decide +kernel)]; kernel_rfl) | (rw [if_neg (by decide +kernel)]; exact ⟨rfl, rfl⟩))
  (fun os started H enc _ => qz34 os started H enc)
theorem qz36 (f : FuncId) (fn : Func) (hf : Tryd.pinned.checked.prog.funcNamed "loop.example/g00715/laws.FnExactSwapped" = some f) (hfn : Tryd.pinned.checked.prog.funcs[f]? = some fn) :
  Rows.fnExactSwappedCard.stood.looks = Tryd.pinned.checked.prog.looks [] /\ ∀ (j : Nat) t, fn.params[j]? = some t -> Tryd.pinned.checked.prog.wantsStandIn t = false := by
 obtain rfl : f = 3 := Option.some.inj ((show Tryd.prog.funcNamed "loop.example/g00715/laws.FnExactSwapped" = some 3 by kernel_rfl).symm.trans hf) |>.symm
 obtain rfl : fn = Tryd.f3 := (Option.some.inj (Tryd.func3.symm.trans hfn)).symm
 refine ⟨by kernel_rfl, fun j t ht => ?_⟩
 rw [Tryd.params3] at ht
 have hm : t ∈ [23, 28, 2, 2, 2, 4, 2] := by simpa using Array.mem_of_getElem? ht
 have hall : ([23, 28, 2, 2, 2, 4, 2].all fun u => !Tryd.prog.wantsStandIn u) = true := by kernel_rfl
 exact (show Tryd.prog.wantsStandIn t = false by simpa using List.all_eq_true.1 hall t hm)
theorem swappedLaw_holds : Rows.FnExactSwappedCardSaid :=
 Claim7.holds_tied_plain_at .later [] _ _ _ _ qz43 (fun _ h => by cases h) (by kernel_rfl) (fun _ h => by cases h) fnExactSwapped_row_tie rfl ⟨rfl, rfl⟩ (by kernel_rfl) rfl qz36 (by kernel_rfl)
#print axioms swappedLaw_holds
end
end Go.Proofs.YtlfjhcdjgoeafaaDoor
