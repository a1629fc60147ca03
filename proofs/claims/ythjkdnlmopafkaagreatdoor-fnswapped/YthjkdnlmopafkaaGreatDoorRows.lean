/-
  NARROWER THAN 'FOR EVERY INPUT', by the rows' own cells (each row's printed sentence says how): FnSwapped: ifaces, laid · FnFound: ifaces, laid.
  DERIVED. THE GIVEN ROWS OF THIS SEAT. 2 by the template 'for every input the law returns true; each argument reads behind the call as it read before'; 0 by the template 'total and deterministic' (their statements: YthjkdnlmopafkaaGreatDoorTotals.lean).
  GIVEN WITH THE SEED: the statements are not yours to turn. If you find one false, say at which input.
  Laid BY PROGRAM, IN A SANDBOX (cutbox-rows.mjs): the forced cells as the released guide's own fill.sh prints them over the translation fb975368ffad8033… (all of the seat's roots in one cut). By AI agents, Wed Nov 11 2026. No macro, syntax, notation, axiom, sorry.
-/
import Derived.Test.YthjkdnlmopafkaaGreatDoorChecked
import GoSem.Claim
import GoSem.ClaimJoined
import GoSem.ClaimMapViews
import Derived.JoinedTies
import Derived.KernelRfl
namespace Go.Proofs.YthjkdnlmopafkaaGreatDoor
/- THE CELL 'sum', in the pinned program and in every row, IS THE sha256 OF THE DUMP (.gsa) THAT YthjkdnlmopafkaaGreatDoorProg.lean LOADS. Nothing in Lean hashes anything: it is a label: what it is worth is what the hold of that sum in a sandbox is worth. -/
noncomputable def Tryz.pinned : Pinned := { name := "ythjkdnlmopafkaagreatdoor", sum := "fb975368ffad80333fb4589b15e190583fd4b93cc49d59f56d006b11697f1a74", checked := Tryz.checked }
namespace Rows
def none {H : Type} : Left H := { results := [], args := [] }

/- WHAT THE LISTED PACKAGE-LEVEL VARIABLES READ AS WHEN THE CALL BEGINS. Each datum BY PROGRAM (the guide's laid-datum.mjs) off the statement by which the dump's own 'gosem.cut.vars' lays the variable. In a bare row this is a premise. The card (YthjkdnlmopafkaaGreatDoorCards.lean) ties it to the program's text. -/
def laid_errors_errorType {H : Type} : DataW H := .iface "internal/reflectlite.rtype" (.agg [.ptr (.lit (.string [101, 114, 114, 111, 114]))])
def laid_loop_example_g00715_impl_errNoRoom {H : Type} : DataW H := .iface "*errors.errorString" (.ptr (.agg [.lit (.string [116, 104, 101, 114, 101, 32, 97, 114, 101, 32, 97, 115, 32, 109, 97, 110, 121, 32, 118, 101, 114, 115, 105, 111, 110, 115, 32, 97, 115, 32, 116, 104, 101, 32, 112, 108, 97, 110, 32, 104, 97, 115])]))
def laid_loop_example_g00715_impl_errFaster {H : Type} : DataW H := .iface "*errors.errorString" (.ptr (.agg [.lit (.string [116, 104, 101, 32, 108, 105, 110, 107, 32, 104, 97, 115, 32, 97, 110, 111, 116, 104, 101, 114, 32, 118, 101, 114, 115, 105, 111, 110, 32, 98, 121, 32, 110, 111, 119])]))
def laid_loop_example_g00715_impl_errUnfit {H : Type} : DataW H := .iface "*errors.errorString" (.ptr (.agg [.lit (.string [116, 104, 101, 32, 97, 114, 101, 110, 97, 32, 119, 111, 117, 108, 100, 32, 110, 111, 116, 32, 98, 101, 32, 114, 105, 103, 104, 116, 32, 119, 105, 116, 104, 32, 105, 116])]))

/-- 'laws.FnSwapped': WHATEVER THE INPUT: true; the input reads as it did. -/
def fnSwappedSpec : ChangeSpec := { name := "fnSwapped", vars := ["loop.example/g00715/impl.errNoRoom", "loop.example/g00715/impl.errFaster", "loop.example/g00715/impl.errUnfit"], fn := fun _ => fun
  | [d, g1, g2, g3] => { results := [.lit (.bool true)], args := [d], vars := [g1, g2, g3] }
  | _ => none }
def fnSwappedRow : OpenClaim := { program := "ythjkdnlmopafkaagreatdoor", sum := "fb975368ffad80333fb4589b15e190583fd4b93cc49d59f56d006b11697f1a74", func := "loop.example/g00715/laws.FnSwapped", spec := "fnSwapped", inPlace := ["internal/reflectlite.ValueOf", "(internal/reflectlite.Value).Type", "(internal/reflectlite.Value).IsNil", "internal/reflectlite.TypeOf", "(internal/reflectlite.Value).Elem", "(internal/reflectlite.Value).Set"], unfollowed := true, recurses := true, named := ["loop.example/g00715/impl.errNoRoom", "loop.example/g00715/impl.errFaster", "loop.example/g00715/impl.errUnfit", "errors.errorType"], ifaces := true, apart := false, laid := [("errors.errorType", laid_errors_errorType), ("loop.example/g00715/impl.errNoRoom", laid_loop_example_g00715_impl_errNoRoom), ("loop.example/g00715/impl.errFaster", laid_loop_example_g00715_impl_errFaster), ("loop.example/g00715/impl.errUnfit", laid_loop_example_g00715_impl_errUnfit)] }
def FnSwappedSaid : Prop := fnSwappedRow.holds Tryz.pinned (OpenSpec.ofChange fnSwappedSpec)

/-- ITS FALSE NEIGHBOUR: 'it returns false'. Refute it at one input. -/
def fnSwappedWrong : ChangeSpec := { name := "fnSwapped", vars := ["loop.example/g00715/impl.errNoRoom", "loop.example/g00715/impl.errFaster", "loop.example/g00715/impl.errUnfit"], fn := fun _ => fun
  | [d, g1, g2, g3] => { results := [.lit (.bool false)], args := [d], vars := [g1, g2, g3] }
  | _ => none }
def FnSwappedWrongFalsely : Prop := fnSwappedRow.holds Tryz.pinned (OpenSpec.ofChange fnSwappedWrong)

/-- 'laws.FnFound': WHATEVER THE INPUT: true; the input reads as it did. -/
def fnFoundSpec : ChangeSpec := { name := "fnFound", vars := ["loop.example/g00715/impl.errNoRoom", "loop.example/g00715/impl.errFaster", "loop.example/g00715/impl.errUnfit"], fn := fun _ => fun
  | [d, g1, g2, g3] => { results := [.lit (.bool true)], args := [d], vars := [g1, g2, g3] }
  | _ => none }
def fnFoundRow : OpenClaim := { program := "ythjkdnlmopafkaagreatdoor", sum := "fb975368ffad80333fb4589b15e190583fd4b93cc49d59f56d006b11697f1a74", func := "loop.example/g00715/laws.FnFound", spec := "fnFound", inPlace := ["internal/reflectlite.TypeOf"], unfollowed := true, recurses := true, named := ["loop.example/g00715/impl.errNoRoom", "loop.example/g00715/impl.errFaster", "loop.example/g00715/impl.errUnfit"], ifaces := true, apart := false, laid := [("loop.example/g00715/impl.errNoRoom", laid_loop_example_g00715_impl_errNoRoom), ("loop.example/g00715/impl.errFaster", laid_loop_example_g00715_impl_errFaster), ("loop.example/g00715/impl.errUnfit", laid_loop_example_g00715_impl_errUnfit)] }
def FnFoundSaid : Prop := fnFoundRow.holds Tryz.pinned (OpenSpec.ofChange fnFoundSpec)

/-- ITS FALSE NEIGHBOUR: 'it returns false'. Refute it at one input. -/
def fnFoundWrong : ChangeSpec := { name := "fnFound", vars := ["loop.example/g00715/impl.errNoRoom", "loop.example/g00715/impl.errFaster", "loop.example/g00715/impl.errUnfit"], fn := fun _ => fun
  | [d, g1, g2, g3] => { results := [.lit (.bool false)], args := [d], vars := [g1, g2, g3] }
  | _ => none }
def FnFoundWrongFalsely : Prop := fnFoundRow.holds Tryz.pinned (OpenSpec.ofChange fnFoundWrong)

/- THE SECOND FORM. 'bulk': how many values and letters a reading holds, each counted each time it is reached (what is shared counts as often as it is met; a slice's spare places count too). A statement '..UptoSaid' is the law's where the arguments, and the package variables that the reading takes, are together of bulk at most 1048576: NARROWER than '..Said'. Prove '..Said' where nothing that the law and all that it calls make is longer than what came in: it says more and counts as full. Else prove '..UptoSaid'. A law counts once. -/
mutual
def uptoBulk {H : Type} : DataW H → Nat
  | .lit (.string bytes) => bytes.length + 1
  | .lit _ => 1
  | .nil => 1
  | .ptr d => uptoBulk d + 1
  | .slice elems spare => uptoBulkAll elems + uptoBulkAll spare + 1
  | .agg parts => uptoBulkAll parts + 1
  | .iface _ d => uptoBulk d + 1
  | .map entries => uptoBulkEntries entries + 1
  | .held _ => 1
def uptoBulkAll {H : Type} : List (DataW H) → Nat
  | [] => 0
  | d :: r => uptoBulk d + uptoBulkAll r
def uptoBulkEntries {H : Type} : List (Lit × DataW H) → Nat
  | [] => 0
  | x :: r => uptoBulkEntry x + uptoBulkEntries r
def uptoBulkEntry {H : Type} : Lit × DataW H → Nat
  | (.string bytes, d) => bytes.length + uptoBulk d + 1
  | (_, d) => uptoBulk d + 1
 end
def uptoSmall : (H : Type) → List (DataW H) → Bool := fun _ ds => decide (uptoBulkAll ds ≤ 1048576)
def OpenSpec.upto (s : _root_.Go.ChangeSpec) : _root_.Go.OpenSpec := { _root_.Go.OpenSpec.ofChange s with cond := some uptoSmall }

/-- 'laws.FnSwapped', WHERE WHAT IT READS IS OF BULK AT MOST 1048576: true; the input reads as it did. -/
def fnSwappedUptoRow : OpenClaim := { program := "ythjkdnlmopafkaagreatdoor", sum := "fb975368ffad80333fb4589b15e190583fd4b93cc49d59f56d006b11697f1a74", func := "loop.example/g00715/laws.FnSwapped", spec := "fnSwapped", inPlace := ["internal/reflectlite.ValueOf", "(internal/reflectlite.Value).Type", "(internal/reflectlite.Value).IsNil", "internal/reflectlite.TypeOf", "(internal/reflectlite.Value).Elem", "(internal/reflectlite.Value).Set"], unfollowed := true, recurses := true, named := ["loop.example/g00715/impl.errNoRoom", "loop.example/g00715/impl.errFaster", "loop.example/g00715/impl.errUnfit", "errors.errorType"], ifaces := true, apart := false, laid := [("errors.errorType", laid_errors_errorType), ("loop.example/g00715/impl.errNoRoom", laid_loop_example_g00715_impl_errNoRoom), ("loop.example/g00715/impl.errFaster", laid_loop_example_g00715_impl_errFaster), ("loop.example/g00715/impl.errUnfit", laid_loop_example_g00715_impl_errUnfit)], narrowed := true }
def FnSwappedUptoSaid : Prop := fnSwappedUptoRow.holds Tryz.pinned (OpenSpec.upto fnSwappedSpec)

/-- 'laws.FnFound', WHERE WHAT IT READS IS OF BULK AT MOST 1048576: true; the input reads as it did. -/
def fnFoundUptoRow : OpenClaim := { program := "ythjkdnlmopafkaagreatdoor", sum := "fb975368ffad80333fb4589b15e190583fd4b93cc49d59f56d006b11697f1a74", func := "loop.example/g00715/laws.FnFound", spec := "fnFound", inPlace := ["internal/reflectlite.TypeOf"], unfollowed := true, recurses := true, named := ["loop.example/g00715/impl.errNoRoom", "loop.example/g00715/impl.errFaster", "loop.example/g00715/impl.errUnfit"], ifaces := true, apart := false, laid := [("loop.example/g00715/impl.errNoRoom", laid_loop_example_g00715_impl_errNoRoom), ("loop.example/g00715/impl.errFaster", laid_loop_example_g00715_impl_errFaster), ("loop.example/g00715/impl.errUnfit", laid_loop_example_g00715_impl_errUnfit)], narrowed := true }
def FnFoundUptoSaid : Prop := fnFoundUptoRow.holds Tryz.pinned (OpenSpec.upto fnFoundSpec)

end Rows
end Go.Proofs.YthjkdnlmopafkaaGreatDoor
