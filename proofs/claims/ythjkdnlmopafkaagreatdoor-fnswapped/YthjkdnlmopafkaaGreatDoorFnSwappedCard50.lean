/-
  A swap is made where nobody was faster, one version more, unstamped, and nothing else is changed by it: at every list of bytes the law of swapping returns true and leaves its argument as it was, where the program's own errors start as its text lays them. No other condition.
-/
import Derived.Test.YthjkdnlmopafkaaGreatDoorCards
import Derived.Test.YthjkdnlmopafkaaGreatDoorTie
import Derived.ChangeSame
import Derived.ChangeVars
import Derived.JoinedOf
import Derived.LaidHandle
import Derived.LaidOnce
import Derived.LaidMore
import Derived.ProofKit
import Derived.OpenShut
import Derived.Stop.Joined
import Derived.SevenTiedAt
import Derived.Test.YthjkdnlmopafkaaGreatDoorFnSwappedCard00
import Derived.Test.YthjkdnlmopafkaaGreatDoorFnSwappedCard49
namespace Go.Proofs.YthjkdnlmopafkaaGreatDoor
open Go.ChangeShapes Go.WideShapes Go.ChangeAt Go.RowKit
set_option maxRecDepth 100000
set_option maxHeartbeats 16000000
set_option linter.unusedVariables false
set_option linter.unusedSimpArgs false
set_option linter.unnecessarySimpa false
set_option linter.unusedSectionVars false
section
theorem qz5l : "*" ++ "errors.errorString" = "*errors.errorString" := by decide
theorem qz9l (u : TypeId) (h : Tryz.prog.typeName? 3 u = some "*errors.errorString") : u = 217 :=
 typeName_ptr_named (nm := "errors.errorString") (by rw [qz5l]; kernel_rfl) (by kernel_rfl) (by decide) u (by rw [qz5l]; exact h)
theorem qz8g {W : World} (h : laidMetH Tryz.prog Rows.fnSwappedRow.laid W) : ∃ eN eF eU, Errs W.heap.size W eN eF eU := by
 have h' : laidMet Tryz.prog (("loop.example/g00715/impl.errNoRoom", .iface "*errors.errorString" (.ptr (.agg [.lit (.string _)]))) :: ("loop.example/g00715/impl.errFaster", .iface "*errors.errorString" (.ptr (.agg [.lit (.string _)]))) :: ("loop.example/g00715/impl.errUnfit", .iface "*errors.errorString" (.ptr (.agg [.lit (.string _)]))) :: []) W := h.1
 obtain ⟨a0, a1, a2, c0, c1, c2, e0, e1, e2, n01, n02, n12⟩ := qz7b h' (show Tryz.prog.globalNamed "loop.example/g00715/impl.errNoRoom" = some 0 by kernel_rfl) (by kernel_rfl) (show Tryz.prog.globalNamed "loop.example/g00715/impl.errFaster" = some 1 by kernel_rfl) (by kernel_rfl) (show Tryz.prog.globalNamed "loop.example/g00715/impl.errUnfit" = some 2 by kernel_rfl) (by kernel_rfl) Tryz.underlying83 qz9l Tryz.underlying217 Tryz.underlying239 rfl rfl Tryz.underlying9 (by kernel_rfl) (by kernel_rfl)
 exact ⟨a0, a1, a2, c0, c1, c2, World.block_lt_of_cell? W _ c0, World.block_lt_of_cell? W _ c1, World.block_lt_of_cell? W _ c2, e0.lt, e1.lt, e2.lt, e0, e1, e2, n01, (Ne.symm n12)⟩
theorem qz8x {W : World} (h : laidMetH Tryz.prog Rows.fnSwappedRow.laid W) : ErrT W.heap.size W := by
 have h' : laidMet Tryz.prog (("loop.example/g00715/impl.errNoRoom", .iface "*errors.errorString" (.ptr (.agg [.lit (.string _)]))) :: ("loop.example/g00715/impl.errFaster", .iface "*errors.errorString" (.ptr (.agg [.lit (.string _)]))) :: ("loop.example/g00715/impl.errUnfit", .iface "*errors.errorString" (.ptr (.agg [.lit (.string _)]))) :: []) W /\ handlesMet Tryz.prog [("errors.errorType", Rows.laid_errors_errorType)] W := h
 obtain ⟨name, u, ty, e1, e2, e3, e4, e5⟩ := h'.2 _ (List.mem_singleton.2 rfl)
 have en : name = [101, 114, 114, 111, 114] := (Q6p e1).symm
 subst en
 obtain rfl := Q6p ((show (Tryz.prog.cutTypes.find? (·.1 == "internal/reflectlite.rtype")).map (·.2) = some 195 by kernel_rfl).symm.trans e2)
 have hm : ty ∈ (List.range Tryz.prog.types.size).filter fun t => Tryz.prog.rowNamed t [101, 114, 114, 111, 114] := List.mem_filter.2 ⟨List.mem_range.2 e3, e4⟩
 rw [show ((List.range Tryz.prog.types.size).filter fun t => Tryz.prog.rowNamed t [101, 114, 114, 111, 114]) = [83] by kernel_rfl] at hm
 obtain rfl := List.mem_singleton.1 hm
 have hh : typeHandle Tryz.prog 83 = .pointer (some ⟨4, 83, none⟩) := by kernel_rfl
 rw [hh] at e5
 have hc : W.cell? ⟨3, 0, none⟩ = some (.iface 195 (.agg Q61)) := by simpa using World.var?_cell (show Tryz.prog.globalNamed "errors.errorType" = some 3 by kernel_rfl) e5 0
 exact ⟨hc, World.block_lt_of_cell? W _ hc⟩
theorem qz8z (os : Os) (args : Array Value) : laidMetH Tryz.prog Rows.fnSwappedRow.laid ((World.doorLaid Tryz.prog 73 os).forCall (fun _ _ => 0) ⟨#[], args, []⟩).memory :=
 laidMetH_of_parts3 (fuel := 8) (laidMet_of_run' 8 (by kernel_rfl) (by kernel_rfl)) (by kernel_rfl) (by kernel_rfl)
theorem qz73 (os : Os) (started : os.Started) (H : Type) (enc : TypeId × Value -> H) :
  ReturnsInHanded {} Tryz.checked os 3 .any (fun w args => (Rows.fnSwappedSpec.pre enc Tryz.prog Tryz.f3 [] false w args /\ laidMetH Tryz.prog Rows.fnSwappedRow.laid w) /\ sizedMet enc Tryz.prog Tryz.f3 (OpenSpec.ofChange Rows.fnSwappedSpec) false w args)
   (Rows.fnSwappedSpec.post enc Tryz.prog Tryz.f3 false true false false) := by
 refine returnsInHanded_of_change_and (C := Tryz.checked) (X := fun w _ => laidMetH Tryz.prog Rows.fnSwappedRow.laid w) (fun _ _ _ hh h => h.of_heap hh) own started (by kernel_rfl) Tryz.func3
  (ChangeSpec.witness_shaped (enc := enc) (C := Tryz.checked) (os := os) (X := fun w _ => laidMetH Tryz.prog Rows.fnSwappedRow.laid w) false (World.doorLaid Tryz.prog 73 os) #[.slice none 0 0] 8 rfl (World.shaped_of_RefB (by kernel_rfl) (by kernel_rfl)) (by kernel_rfl) (by kernel_rfl) (by kernel_rfl) (qz8z os _)) ?_
 intro W base args ds gs before hval0 hW _ _ hL _
 obtain ⟨eN, eF, eU, hE⟩ := qz8g hL
 have hT := qz8x hL
 have hval : ∀ (j : Nat) t v, Tryz.f3.params[j]? = some t -> args[j]? = some v -> Value.okWide Tryz.prog W .any base t v := hval0
 have hW' := hW
 obtain ⟨p, q, hA0, hV0, rfl, hfz, hnd⟩ := hW
 have hA : DataW.TrodAll enc Tryz.prog W 0 (fun _ => true) true Tryz.f3.params.toList args.toList ds p := hA0
 have hV : DataW.TrodVars enc Tryz.prog W (fun _ => true) ["loop.example/g00715/impl.errNoRoom", "loop.example/g00715/impl.errFaster", "loop.example/g00715/impl.errUnfit"] gs q := hV0
 rw [Tryz.params3] at hA hval
 obtain ⟨v0, vs0, d0, ds0, p0, q0, hargs, rfl, rfl, h0, r0⟩ := trodAll_cons hA
 obtain ⟨rfl, rfl, rfl⟩ := trodAll_nil r0
 obtain rfl : args = #[v0] := by cases args; simp_all
 obtain ⟨g0, g1, g2, rfl⟩ := qzd8 hV
 have k0 := h0
 have lt0 : ∀ x ∈ p0, x.block < W.heap.size := by obtain ⟨m, hm⟩ := k0; exact DataW.trod_lt m _ _ _ hm
 obtain ⟨a0, len0, cap0, hv0, w0⟩ := qzcx (hval 0 22 v0 rfl rfl) h0
 subst hv0
 clear hA0 hval0 hL
 refine (qz8f a0 len0 cap0 eN eF eU W w0 hE hT).mono fun e W' ⟨he, bel⟩ => ?_
 subst he
 exact ⟨_, rfl, _, _, _, [], _, _, hW', trodAll_mk1 (shut_bool Tryz.underlying4 _), (trodAll_cons_mk (Below.trod qzgs (by kernel_rfl) (of_decide_eq_true (by kernel_rfl)) k0 bel lt0) trodAll_mk0), qzb6 bel _ _ _ (fun x hx => hW'.lt x (List.mem_append_right _ hx)) (by kernel_rfl) _ _ hV, bel.frame _, fun h => by cases h⟩
theorem qz8v : Rows.FnSwappedSaid :=
 OpenClaim.holds_of_wide 3 Tryz.f3 rfl rfl rfl rfl rfl rfl rfl ⟨rfl, rfl, rfl, rfl, rfl⟩ rfl rfl rfl rfl rfl (by kernel_rfl) Tryz.func3 (by kernel_rfl)
  (of_decide_eq_true (by kernel_rfl)) (by unfold Func.isWrapper; first | (rw [if_pos (by decide +kernel)]; kernel_rfl) | (rw [if_neg (by decide +kernel)]; exact ⟨rfl, rfl⟩))
  (fun os started H enc _ => qz73 os started H enc)
theorem qz7l (f : FuncId) (fn : Func) (hf : Tryz.pinned.checked.prog.funcNamed "loop.example/g00715/laws.FnSwapped" = some f) (hfn : Tryz.pinned.checked.prog.funcs[f]? = some fn) :
  Rows.fnSwappedCard.stood.looks = Tryz.pinned.checked.prog.looks [] /\ ∀ (j : Nat) t, fn.params[j]? = some t -> Tryz.pinned.checked.prog.wantsStandIn t = false := by
 obtain rfl : f = 3 := Q6p ((show Tryz.prog.funcNamed "loop.example/g00715/laws.FnSwapped" = some 3 by kernel_rfl).symm.trans hf) |>.symm
 obtain rfl : fn = Tryz.f3 := (Q6p (Tryz.func3.symm.trans hfn)).symm
 refine ⟨by kernel_rfl, fun j t ht => ?_⟩
 rw [Tryz.params3] at ht
 have hm : t ∈ [22] := by simpa using Array.mem_of_getElem? ht
 have hall : ([22].all fun u => !Tryz.prog.wantsStandIn u) = true := by kernel_rfl
 exact (show Tryz.prog.wantsStandIn t = false by simpa using List.all_eq_true.1 hall t hm)
theorem fnSwapped_holds : Rows.FnSwappedCardSaid :=
 Claim7.holds_tied_plain_at .later [] _ _ _ _ qz8v (fun _ h => by cases h) (by kernel_rfl) (fun _ h => by cases h) fnSwapped_row_tie rfl ⟨rfl, rfl⟩ (by kernel_rfl) rfl qz7l (by kernel_rfl)
#print axioms fnSwapped_holds
end
end Go.Proofs.YthjkdnlmopafkaaGreatDoor
