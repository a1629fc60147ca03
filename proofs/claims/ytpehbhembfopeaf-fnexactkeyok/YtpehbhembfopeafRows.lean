/-
  No cell of these rows narrows 'for every input' (looked for: loops, veiled, ifaces, maps, wideKeys, modest, calm, conditions, laid).
  DERIVED. THE GIVEN ROWS OF THIS SEAT. 4 by the template 'for every input the law returns true; each argument reads behind the call as it read before'; 0 by the template 'total and deterministic' (their statements: YtpehbhembfopeafTotals.lean).
  GIVEN WITH THE SEED: the statements are not yours to turn. If you find one false, say at which input.
  Laid BY PROGRAM, IN A SANDBOX (cutbox-rows.mjs): the forced cells as the released guide's own fill.sh prints them over the translation 33b957461bb2717d… (all of the seat's roots in one cut). By AI agents, Wed Nov 11 2026. No macro, syntax, notation, axiom, sorry.
-/
import Derived.Test.YtpehbhembfopeafChecked
import GoSem.Claim
import GoSem.ClaimJoined
import GoSem.ClaimMapViews
import Derived.JoinedTies
import Derived.KernelRfl
namespace Go.Proofs.Ytpehbhembfopeaf
/- THE CELL 'sum', in the pinned program and in every row, IS THE sha256 OF THE DUMP (.gsa) THAT YtpehbhembfopeafProg.lean LOADS. Nothing in Lean hashes anything: it is a label: what it is worth is what the hold of that sum in a sandbox is worth. -/
noncomputable def Try.pinned : Pinned := { name := "ytpehbhembfopeaf", sum := "33b957461bb2717dc29f3a1380dd13a07e7e4324e08b23710d070169e1f85a3d", checked := Try.checked }
namespace Rows
def none {H : Type} : Left H := { results := [], args := [] }

/-- 'laws.FnExactPlanOk': WHATEVER THE INPUT: true; the input reads as it did. -/
def fnExactPlanOkSpec : ChangeSpec := { name := "fnExactPlanOk", fn := fun _ => fun
  | [d] => { results := [.lit (.bool true)], args := [d] }
  | _ => none }
def fnExactPlanOkRow : OpenClaim := { program := "ytpehbhembfopeaf", sum := "33b957461bb2717dc29f3a1380dd13a07e7e4324e08b23710d070169e1f85a3d", func := "loop.example/g00715/laws.FnExactPlanOk", spec := "fnExactPlanOk", apart := false }
def FnExactPlanOkSaid : Prop := fnExactPlanOkRow.holds Try.pinned (OpenSpec.ofChange fnExactPlanOkSpec)

/-- ITS FALSE NEIGHBOUR: 'it returns false'. Refute it at one input. -/
def fnExactPlanOkWrong : ChangeSpec := { name := "fnExactPlanOk", fn := fun _ => fun
  | [d] => { results := [.lit (.bool false)], args := [d] }
  | _ => none }
def FnExactPlanOkWrongFalsely : Prop := fnExactPlanOkRow.holds Try.pinned (OpenSpec.ofChange fnExactPlanOkWrong)

/-- 'laws.FnExactKeyOk': WHATEVER THE INPUT: true; the input reads as it did. -/
def fnExactKeyOkSpec : ChangeSpec := { name := "fnExactKeyOk", fn := fun _ => fun
  | [d] => { results := [.lit (.bool true)], args := [d] }
  | _ => none }
def fnExactKeyOkRow : OpenClaim := { program := "ytpehbhembfopeaf", sum := "33b957461bb2717dc29f3a1380dd13a07e7e4324e08b23710d070169e1f85a3d", func := "loop.example/g00715/laws.FnExactKeyOk", spec := "fnExactKeyOk", apart := false }
def FnExactKeyOkSaid : Prop := fnExactKeyOkRow.holds Try.pinned (OpenSpec.ofChange fnExactKeyOkSpec)

/-- ITS FALSE NEIGHBOUR: 'it returns false'. Refute it at one input. -/
def fnExactKeyOkWrong : ChangeSpec := { name := "fnExactKeyOk", fn := fun _ => fun
  | [d] => { results := [.lit (.bool false)], args := [d] }
  | _ => none }
def FnExactKeyOkWrongFalsely : Prop := fnExactKeyOkRow.holds Try.pinned (OpenSpec.ofChange fnExactKeyOkWrong)

/-- 'laws.FnExactProcIn': WHATEVER THE INPUT: true; the input reads as it did. -/
def fnExactProcInSpec : ChangeSpec := { name := "fnExactProcIn", fn := fun _ => fun
  | [d1, d2] => { results := [.lit (.bool true)], args := [d1, d2] }
  | _ => none }
def fnExactProcInRow : OpenClaim := { program := "ytpehbhembfopeaf", sum := "33b957461bb2717dc29f3a1380dd13a07e7e4324e08b23710d070169e1f85a3d", func := "loop.example/g00715/laws.FnExactProcIn", spec := "fnExactProcIn", apart := false }
def FnExactProcInSaid : Prop := fnExactProcInRow.holds Try.pinned (OpenSpec.ofChange fnExactProcInSpec)

/-- ITS FALSE NEIGHBOUR: 'it returns false'. Refute it at one input. -/
def fnExactProcInWrong : ChangeSpec := { name := "fnExactProcIn", fn := fun _ => fun
  | [d1, d2] => { results := [.lit (.bool false)], args := [d1, d2] }
  | _ => none }
def FnExactProcInWrongFalsely : Prop := fnExactProcInRow.holds Try.pinned (OpenSpec.ofChange fnExactProcInWrong)

/-- 'laws.FnExactGuideOf': WHATEVER THE INPUT: true; the input reads as it did. -/
def fnExactGuideOfSpec : ChangeSpec := { name := "fnExactGuideOf", fn := fun _ => fun
  | [d1, d2] => { results := [.lit (.bool true)], args := [d1, d2] }
  | _ => none }
def fnExactGuideOfRow : OpenClaim := { program := "ytpehbhembfopeaf", sum := "33b957461bb2717dc29f3a1380dd13a07e7e4324e08b23710d070169e1f85a3d", func := "loop.example/g00715/laws.FnExactGuideOf", spec := "fnExactGuideOf", unfollowed := true, recurses := true, apart := false }
def FnExactGuideOfSaid : Prop := fnExactGuideOfRow.holds Try.pinned (OpenSpec.ofChange fnExactGuideOfSpec)

/-- ITS FALSE NEIGHBOUR: 'it returns false'. Refute it at one input. -/
def fnExactGuideOfWrong : ChangeSpec := { name := "fnExactGuideOf", fn := fun _ => fun
  | [d1, d2] => { results := [.lit (.bool false)], args := [d1, d2] }
  | _ => none }
def FnExactGuideOfWrongFalsely : Prop := fnExactGuideOfRow.holds Try.pinned (OpenSpec.ofChange fnExactGuideOfWrong)

/- THE SECOND FORM. 'bulk': how many values and letters a reading holds, each counted each time it is reached (what is shared counts as often as it is met; a slice's spare places count too). A statement '..UptoSaid' is the law's where the arguments, and the package variables that the reading takes, are together of bulk at most 1048576: NARROWER than '..Said'. Prove '..Said' where nothing that the law and all that it calls make is longer than what came in: it says more and counts as full. Else prove '..UptoSaid'. A law counts once. -/
mutual
def uptoBulk {H : Type} : DataW H → Nat
  | .lit (.string bytes) => bytes.length + 1
  | .lit _ => 1
  | .nil => 1
  | .ptr d => uptoBulk d + 1
  | .slice elems spare => uptoBulkAll elems + uptoBulkAll spare + 1
  | .agg parts => uptoBulkAll parts + 1
  | .iface _ d => uptoBulk d + 1
  | .map entries => uptoBulkEntries entries + 1
  | .held _ => 1
def uptoBulkAll {H : Type} : List (DataW H) → Nat
  | [] => 0
  | d :: r => uptoBulk d + uptoBulkAll r
def uptoBulkEntries {H : Type} : List (Lit × DataW H) → Nat
  | [] => 0
  | x :: r => uptoBulkEntry x + uptoBulkEntries r
def uptoBulkEntry {H : Type} : Lit × DataW H → Nat
  | (.string bytes, d) => bytes.length + uptoBulk d + 1
  | (_, d) => uptoBulk d + 1
 end
def uptoSmall : (H : Type) → List (DataW H) → Bool := fun _ ds => decide (uptoBulkAll ds ≤ 1048576)
def OpenSpec.upto (s : _root_.Go.ChangeSpec) : _root_.Go.OpenSpec := { _root_.Go.OpenSpec.ofChange s with cond := some uptoSmall }

/-- 'laws.FnExactPlanOk', WHERE WHAT IT READS IS OF BULK AT MOST 1048576: true; the input reads as it did. -/
def fnExactPlanOkUptoRow : OpenClaim := { program := "ytpehbhembfopeaf", sum := "33b957461bb2717dc29f3a1380dd13a07e7e4324e08b23710d070169e1f85a3d", func := "loop.example/g00715/laws.FnExactPlanOk", spec := "fnExactPlanOk", apart := false, narrowed := true }
def FnExactPlanOkUptoSaid : Prop := fnExactPlanOkUptoRow.holds Try.pinned (OpenSpec.upto fnExactPlanOkSpec)

/-- 'laws.FnExactKeyOk', WHERE WHAT IT READS IS OF BULK AT MOST 1048576: true; the input reads as it did. -/
def fnExactKeyOkUptoRow : OpenClaim := { program := "ytpehbhembfopeaf", sum := "33b957461bb2717dc29f3a1380dd13a07e7e4324e08b23710d070169e1f85a3d", func := "loop.example/g00715/laws.FnExactKeyOk", spec := "fnExactKeyOk", apart := false, narrowed := true }
def FnExactKeyOkUptoSaid : Prop := fnExactKeyOkUptoRow.holds Try.pinned (OpenSpec.upto fnExactKeyOkSpec)

/-- 'laws.FnExactProcIn', WHERE WHAT IT READS IS OF BULK AT MOST 1048576: true; the input reads as it did. -/
def fnExactProcInUptoRow : OpenClaim := { program := "ytpehbhembfopeaf", sum := "33b957461bb2717dc29f3a1380dd13a07e7e4324e08b23710d070169e1f85a3d", func := "loop.example/g00715/laws.FnExactProcIn", spec := "fnExactProcIn", apart := false, narrowed := true }
def FnExactProcInUptoSaid : Prop := fnExactProcInUptoRow.holds Try.pinned (OpenSpec.upto fnExactProcInSpec)

/-- 'laws.FnExactGuideOf', WHERE WHAT IT READS IS OF BULK AT MOST 1048576: true; the input reads as it did. -/
def fnExactGuideOfUptoRow : OpenClaim := { program := "ytpehbhembfopeaf", sum := "33b957461bb2717dc29f3a1380dd13a07e7e4324e08b23710d070169e1f85a3d", func := "loop.example/g00715/laws.FnExactGuideOf", spec := "fnExactGuideOf", unfollowed := true, recurses := true, apart := false, narrowed := true }
def FnExactGuideOfUptoSaid : Prop := fnExactGuideOfUptoRow.holds Try.pinned (OpenSpec.upto fnExactGuideOfSpec)

end Rows
end Go.Proofs.Ytpehbhembfopeaf
