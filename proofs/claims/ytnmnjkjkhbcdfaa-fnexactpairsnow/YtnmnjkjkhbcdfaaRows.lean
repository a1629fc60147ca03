/-
  No cell of these rows narrows 'for every input' (looked for: loops, veiled, ifaces, maps, wideKeys, modest, calm, conditions, laid).
  DERIVED. THE GIVEN ROWS OF THIS SEAT. 5 by the template 'for every input the law returns true; each argument reads behind the call as it read before'; 0 by the template 'total and deterministic' (their statements: YtnmnjkjkhbcdfaaTotals.lean).
  GIVEN WITH THE SEED: the statements are not yours to turn. If you find one false, say at which input.
  Laid BY PROGRAM, IN A SANDBOX (cutbox-rows.mjs): the forced cells as the released guide's own fill.sh prints them over the translation 837d03094a512bb9… (all of the seat's roots in one cut). By AI agents, Wed Nov 11 2026. No macro, syntax, notation, axiom, sorry.
-/
import Derived.Test.YtnmnjkjkhbcdfaaChecked
import GoSem.Claim
import GoSem.ClaimJoined
import GoSem.ClaimMapViews
import Derived.JoinedTies
import Derived.KernelRfl
namespace Go.Proofs.Ytnmnjkjkhbcdfaa
/- THE CELL 'sum', in the pinned program and in every row, IS THE sha256 OF THE DUMP (.gsa) THAT YtnmnjkjkhbcdfaaProg.lean LOADS. Nothing in Lean hashes anything: it is a label: what it is worth is what the hold of that sum in a sandbox is worth. -/
noncomputable def Try.pinned : Pinned := { name := "ytnmnjkjkhbcdfaa", sum := "837d03094a512bb9a639b598fe49b875bbaf2d1a380b66cc8af30c9f27748f57", checked := Try.checked }
namespace Rows
def none {H : Type} : Left H := { results := [], args := [] }

/-- 'laws.FnExactNodesAt': WHATEVER THE INPUT: true; the input reads as it did. -/
def fnExactNodesAtSpec : ChangeSpec := { name := "fnExactNodesAt", fn := fun _ => fun
  | [d1, d2, d3] => { results := [.lit (.bool true)], args := [d1, d2, d3] }
  | _ => none }
def fnExactNodesAtRow : OpenClaim := { program := "ytnmnjkjkhbcdfaa", sum := "837d03094a512bb9a639b598fe49b875bbaf2d1a380b66cc8af30c9f27748f57", func := "loop.example/g00715/laws.FnExactNodesAt", spec := "fnExactNodesAt", unfollowed := true, recurses := true, apart := false }
def FnExactNodesAtSaid : Prop := fnExactNodesAtRow.holds Try.pinned (OpenSpec.ofChange fnExactNodesAtSpec)

/-- ITS FALSE NEIGHBOUR: 'it returns false'. Refute it at one input. -/
def fnExactNodesAtWrong : ChangeSpec := { name := "fnExactNodesAt", fn := fun _ => fun
  | [d1, d2, d3] => { results := [.lit (.bool false)], args := [d1, d2, d3] }
  | _ => none }
def FnExactNodesAtWrongFalsely : Prop := fnExactNodesAtRow.holds Try.pinned (OpenSpec.ofChange fnExactNodesAtWrong)

/-- 'laws.FnExactNodesNow': WHATEVER THE INPUT: true; the input reads as it did. -/
def fnExactNodesNowSpec : ChangeSpec := { name := "fnExactNodesNow", fn := fun _ => fun
  | [d1, d2] => { results := [.lit (.bool true)], args := [d1, d2] }
  | _ => none }
def fnExactNodesNowRow : OpenClaim := { program := "ytnmnjkjkhbcdfaa", sum := "837d03094a512bb9a639b598fe49b875bbaf2d1a380b66cc8af30c9f27748f57", func := "loop.example/g00715/laws.FnExactNodesNow", spec := "fnExactNodesNow", unfollowed := true, recurses := true, apart := false }
def FnExactNodesNowSaid : Prop := fnExactNodesNowRow.holds Try.pinned (OpenSpec.ofChange fnExactNodesNowSpec)

/-- ITS FALSE NEIGHBOUR: 'it returns false'. Refute it at one input. -/
def fnExactNodesNowWrong : ChangeSpec := { name := "fnExactNodesNow", fn := fun _ => fun
  | [d1, d2] => { results := [.lit (.bool false)], args := [d1, d2] }
  | _ => none }
def FnExactNodesNowWrongFalsely : Prop := fnExactNodesNowRow.holds Try.pinned (OpenSpec.ofChange fnExactNodesNowWrong)

/-- 'laws.FnExactPairsAt': WHATEVER THE INPUT: true; the input reads as it did. -/
def fnExactPairsAtSpec : ChangeSpec := { name := "fnExactPairsAt", fn := fun _ => fun
  | [d1, d2, d3] => { results := [.lit (.bool true)], args := [d1, d2, d3] }
  | _ => none }
def fnExactPairsAtRow : OpenClaim := { program := "ytnmnjkjkhbcdfaa", sum := "837d03094a512bb9a639b598fe49b875bbaf2d1a380b66cc8af30c9f27748f57", func := "loop.example/g00715/laws.FnExactPairsAt", spec := "fnExactPairsAt", unfollowed := true, recurses := true, apart := false }
def FnExactPairsAtSaid : Prop := fnExactPairsAtRow.holds Try.pinned (OpenSpec.ofChange fnExactPairsAtSpec)

/-- ITS FALSE NEIGHBOUR: 'it returns false'. Refute it at one input. -/
def fnExactPairsAtWrong : ChangeSpec := { name := "fnExactPairsAt", fn := fun _ => fun
  | [d1, d2, d3] => { results := [.lit (.bool false)], args := [d1, d2, d3] }
  | _ => none }
def FnExactPairsAtWrongFalsely : Prop := fnExactPairsAtRow.holds Try.pinned (OpenSpec.ofChange fnExactPairsAtWrong)

/-- 'laws.FnExactPairsNow': WHATEVER THE INPUT: true; the input reads as it did. -/
def fnExactPairsNowSpec : ChangeSpec := { name := "fnExactPairsNow", fn := fun _ => fun
  | [d1, d2] => { results := [.lit (.bool true)], args := [d1, d2] }
  | _ => none }
def fnExactPairsNowRow : OpenClaim := { program := "ytnmnjkjkhbcdfaa", sum := "837d03094a512bb9a639b598fe49b875bbaf2d1a380b66cc8af30c9f27748f57", func := "loop.example/g00715/laws.FnExactPairsNow", spec := "fnExactPairsNow", unfollowed := true, recurses := true, apart := false }
def FnExactPairsNowSaid : Prop := fnExactPairsNowRow.holds Try.pinned (OpenSpec.ofChange fnExactPairsNowSpec)

/-- ITS FALSE NEIGHBOUR: 'it returns false'. Refute it at one input. -/
def fnExactPairsNowWrong : ChangeSpec := { name := "fnExactPairsNow", fn := fun _ => fun
  | [d1, d2] => { results := [.lit (.bool false)], args := [d1, d2] }
  | _ => none }
def FnExactPairsNowWrongFalsely : Prop := fnExactPairsNowRow.holds Try.pinned (OpenSpec.ofChange fnExactPairsNowWrong)

/-- 'laws.FnExactInOrder': WHATEVER THE INPUT: true; the input reads as it did. -/
def fnExactInOrderSpec : ChangeSpec := { name := "fnExactInOrder", fn := fun _ => fun
  | [d] => { results := [.lit (.bool true)], args := [d] }
  | _ => none }
def fnExactInOrderRow : OpenClaim := { program := "ytnmnjkjkhbcdfaa", sum := "837d03094a512bb9a639b598fe49b875bbaf2d1a380b66cc8af30c9f27748f57", func := "loop.example/g00715/laws.FnExactInOrder", spec := "fnExactInOrder", apart := false }
def FnExactInOrderSaid : Prop := fnExactInOrderRow.holds Try.pinned (OpenSpec.ofChange fnExactInOrderSpec)

/-- ITS FALSE NEIGHBOUR: 'it returns false'. Refute it at one input. -/
def fnExactInOrderWrong : ChangeSpec := { name := "fnExactInOrder", fn := fun _ => fun
  | [d] => { results := [.lit (.bool false)], args := [d] }
  | _ => none }
def FnExactInOrderWrongFalsely : Prop := fnExactInOrderRow.holds Try.pinned (OpenSpec.ofChange fnExactInOrderWrong)

/- THE SECOND FORM. 'bulk': how many values and letters a reading holds, each counted each time it is reached (what is shared counts as often as it is met; a slice's spare places count too). A statement '..UptoSaid' is the law's where the arguments, and the package variables that the reading takes, are together of bulk at most 1048576: NARROWER than '..Said'. Prove '..Said' where nothing that the law and all that it calls make is longer than what came in: it says more and counts as full. Else prove '..UptoSaid'. A law counts once. -/
mutual
def uptoBulk {H : Type} : DataW H → Nat
  | .lit (.string bytes) => bytes.length + 1
  | .lit _ => 1
  | .nil => 1
  | .ptr d => uptoBulk d + 1
  | .slice elems spare => uptoBulkAll elems + uptoBulkAll spare + 1
  | .agg parts => uptoBulkAll parts + 1
  | .iface _ d => uptoBulk d + 1
  | .map entries => uptoBulkEntries entries + 1
  | .held _ => 1
def uptoBulkAll {H : Type} : List (DataW H) → Nat
  | [] => 0
  | d :: r => uptoBulk d + uptoBulkAll r
def uptoBulkEntries {H : Type} : List (Lit × DataW H) → Nat
  | [] => 0
  | x :: r => uptoBulkEntry x + uptoBulkEntries r
def uptoBulkEntry {H : Type} : Lit × DataW H → Nat
  | (.string bytes, d) => bytes.length + uptoBulk d + 1
  | (_, d) => uptoBulk d + 1
 end
def uptoSmall : (H : Type) → List (DataW H) → Bool := fun _ ds => decide (uptoBulkAll ds ≤ 1048576)
def OpenSpec.upto (s : _root_.Go.ChangeSpec) : _root_.Go.OpenSpec := { _root_.Go.OpenSpec.ofChange s with cond := some uptoSmall }

/-- 'laws.FnExactNodesAt', WHERE WHAT IT READS IS OF BULK AT MOST 1048576: true; the input reads as it did. -/
def fnExactNodesAtUptoRow : OpenClaim := { program := "ytnmnjkjkhbcdfaa", sum := "837d03094a512bb9a639b598fe49b875bbaf2d1a380b66cc8af30c9f27748f57", func := "loop.example/g00715/laws.FnExactNodesAt", spec := "fnExactNodesAt", unfollowed := true, recurses := true, apart := false, narrowed := true }
def FnExactNodesAtUptoSaid : Prop := fnExactNodesAtUptoRow.holds Try.pinned (OpenSpec.upto fnExactNodesAtSpec)

/-- 'laws.FnExactNodesNow', WHERE WHAT IT READS IS OF BULK AT MOST 1048576: true; the input reads as it did. -/
def fnExactNodesNowUptoRow : OpenClaim := { program := "ytnmnjkjkhbcdfaa", sum := "837d03094a512bb9a639b598fe49b875bbaf2d1a380b66cc8af30c9f27748f57", func := "loop.example/g00715/laws.FnExactNodesNow", spec := "fnExactNodesNow", unfollowed := true, recurses := true, apart := false, narrowed := true }
def FnExactNodesNowUptoSaid : Prop := fnExactNodesNowUptoRow.holds Try.pinned (OpenSpec.upto fnExactNodesNowSpec)

/-- 'laws.FnExactPairsAt', WHERE WHAT IT READS IS OF BULK AT MOST 1048576: true; the input reads as it did. -/
def fnExactPairsAtUptoRow : OpenClaim := { program := "ytnmnjkjkhbcdfaa", sum := "837d03094a512bb9a639b598fe49b875bbaf2d1a380b66cc8af30c9f27748f57", func := "loop.example/g00715/laws.FnExactPairsAt", spec := "fnExactPairsAt", unfollowed := true, recurses := true, apart := false, narrowed := true }
def FnExactPairsAtUptoSaid : Prop := fnExactPairsAtUptoRow.holds Try.pinned (OpenSpec.upto fnExactPairsAtSpec)

/-- 'laws.FnExactPairsNow', WHERE WHAT IT READS IS OF BULK AT MOST 1048576: true; the input reads as it did. -/
def fnExactPairsNowUptoRow : OpenClaim := { program := "ytnmnjkjkhbcdfaa", sum := "837d03094a512bb9a639b598fe49b875bbaf2d1a380b66cc8af30c9f27748f57", func := "loop.example/g00715/laws.FnExactPairsNow", spec := "fnExactPairsNow", unfollowed := true, recurses := true, apart := false, narrowed := true }
def FnExactPairsNowUptoSaid : Prop := fnExactPairsNowUptoRow.holds Try.pinned (OpenSpec.upto fnExactPairsNowSpec)

/-- 'laws.FnExactInOrder', WHERE WHAT IT READS IS OF BULK AT MOST 1048576: true; the input reads as it did. -/
def fnExactInOrderUptoRow : OpenClaim := { program := "ytnmnjkjkhbcdfaa", sum := "837d03094a512bb9a639b598fe49b875bbaf2d1a380b66cc8af30c9f27748f57", func := "loop.example/g00715/laws.FnExactInOrder", spec := "fnExactInOrder", apart := false, narrowed := true }
def FnExactInOrderUptoSaid : Prop := fnExactInOrderUptoRow.holds Try.pinned (OpenSpec.upto fnExactInOrderSpec)

end Rows
end Go.Proofs.Ytnmnjkjkhbcdfaa
