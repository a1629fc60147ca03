/-
  No cell of these rows narrows 'for every input' (looked for: loops, veiled, ifaces, maps, wideKeys, modest, calm, conditions, laid).
  DERIVED. THE GIVEN ROWS OF THIS SEAT. 4 by the template 'for every input the law returns true; each argument reads behind the call as it read before'; 0 by the template 'total and deterministic' (their statements: YtlmfgaacbedbcaaTotals.lean).
  GIVEN WITH THE SEED: the statements are not yours to turn. If you find one false, say at which input.
  Laid BY PROGRAM, IN A SANDBOX (cutbox-rows.mjs): the forced cells as the released guide's own fill.sh prints them over the translation 758e4ead7895bc69… (all of the seat's roots in one cut). By AI agents, Wed Nov 11 2026. No macro, syntax, notation, axiom, sorry.
-/
import Derived.Test.YtlmfgaacbedbcaaChecked
import GoSem.Claim
import GoSem.ClaimJoined
import GoSem.ClaimMapViews
import Derived.JoinedTies
import Derived.KernelRfl
namespace Go.Proofs.Ytlmfgaacbedbcaa
/- THE CELL 'sum', in the pinned program and in every row, IS THE sha256 OF THE DUMP (.gsa) THAT YtlmfgaacbedbcaaProg.lean LOADS. Nothing in Lean hashes anything: it is a label: what it is worth is what the hold of that sum in a sandbox is worth. -/
noncomputable def Try.pinned : Pinned := { name := "ytlmfgaacbedbcaa", sum := "758e4ead7895bc691e2d185a4ae4426dd623ac11b01228f33d91dae3d69ae8f3", checked := Try.checked }
namespace Rows
def none {H : Type} : Left H := { results := [], args := [] }

/-- 'laws.FnResting': WHATEVER THE INPUT: true; the input reads as it did. -/
def fnRestingSpec : ChangeSpec := { name := "fnResting", fn := fun _ => fun
  | [d] => { results := [.lit (.bool true)], args := [d] }
  | _ => none }
def fnRestingRow : OpenClaim := { program := "ytlmfgaacbedbcaa", sum := "758e4ead7895bc691e2d185a4ae4426dd623ac11b01228f33d91dae3d69ae8f3", func := "loop.example/g00715/laws.FnResting", spec := "fnResting", apart := false }
def FnRestingSaid : Prop := fnRestingRow.holds Try.pinned (OpenSpec.ofChange fnRestingSpec)

/-- ITS FALSE NEIGHBOUR: 'it returns false'. Refute it at one input. -/
def fnRestingWrong : ChangeSpec := { name := "fnResting", fn := fun _ => fun
  | [d] => { results := [.lit (.bool false)], args := [d] }
  | _ => none }
def FnRestingWrongFalsely : Prop := fnRestingRow.holds Try.pinned (OpenSpec.ofChange fnRestingWrong)

/-- 'laws.FnExactHandOk': WHATEVER THE INPUT: true; the input reads as it did. -/
def fnExactHandOkSpec : ChangeSpec := { name := "fnExactHandOk", fn := fun _ => fun
  | [d1, d2] => { results := [.lit (.bool true)], args := [d1, d2] }
  | _ => none }
def fnExactHandOkRow : OpenClaim := { program := "ytlmfgaacbedbcaa", sum := "758e4ead7895bc691e2d185a4ae4426dd623ac11b01228f33d91dae3d69ae8f3", func := "loop.example/g00715/laws.FnExactHandOk", spec := "fnExactHandOk", apart := false }
def FnExactHandOkSaid : Prop := fnExactHandOkRow.holds Try.pinned (OpenSpec.ofChange fnExactHandOkSpec)

/-- ITS FALSE NEIGHBOUR: 'it returns false'. Refute it at one input. -/
def fnExactHandOkWrong : ChangeSpec := { name := "fnExactHandOk", fn := fun _ => fun
  | [d1, d2] => { results := [.lit (.bool false)], args := [d1, d2] }
  | _ => none }
def FnExactHandOkWrongFalsely : Prop := fnExactHandOkRow.holds Try.pinned (OpenSpec.ofChange fnExactHandOkWrong)

/-- 'laws.FnExactNewHand': WHATEVER THE INPUT: true; the input reads as it did. -/
def fnExactNewHandSpec : ChangeSpec := { name := "fnExactNewHand", fn := fun _ => fun
  | [] => { results := [.lit (.bool true)], args := [] }
  | _ => none }
def fnExactNewHandRow : OpenClaim := { program := "ytlmfgaacbedbcaa", sum := "758e4ead7895bc691e2d185a4ae4426dd623ac11b01228f33d91dae3d69ae8f3", func := "loop.example/g00715/laws.FnExactNewHand", spec := "fnExactNewHand", apart := false }
def FnExactNewHandSaid : Prop := fnExactNewHandRow.holds Try.pinned (OpenSpec.ofChange fnExactNewHandSpec)

/-- ITS FALSE NEIGHBOUR: 'it returns false'. Refute it at one input. -/
def fnExactNewHandWrong : ChangeSpec := { name := "fnExactNewHand", fn := fun _ => fun
  | [] => { results := [.lit (.bool false)], args := [] }
  | _ => none }
def FnExactNewHandWrongFalsely : Prop := fnExactNewHandRow.holds Try.pinned (OpenSpec.ofChange fnExactNewHandWrong)

/-- 'laws.FnExactResting': WHATEVER THE INPUT: true; the input reads as it did. -/
def fnExactRestingSpec : ChangeSpec := { name := "fnExactResting", fn := fun _ => fun
  | [d1, d2, d3, d4] => { results := [.lit (.bool true)], args := [d1, d2, d3, d4] }
  | _ => none }
def fnExactRestingRow : OpenClaim := { program := "ytlmfgaacbedbcaa", sum := "758e4ead7895bc691e2d185a4ae4426dd623ac11b01228f33d91dae3d69ae8f3", func := "loop.example/g00715/laws.FnExactResting", spec := "fnExactResting", apart := false }
def FnExactRestingSaid : Prop := fnExactRestingRow.holds Try.pinned (OpenSpec.ofChange fnExactRestingSpec)

/-- ITS FALSE NEIGHBOUR: 'it returns false'. Refute it at one input. -/
def fnExactRestingWrong : ChangeSpec := { name := "fnExactResting", fn := fun _ => fun
  | [d1, d2, d3, d4] => { results := [.lit (.bool false)], args := [d1, d2, d3, d4] }
  | _ => none }
def FnExactRestingWrongFalsely : Prop := fnExactRestingRow.holds Try.pinned (OpenSpec.ofChange fnExactRestingWrong)

/- THE SECOND FORM. 'bulk': how many values and letters a reading holds, each counted each time it is reached (what is shared counts as often as it is met; a slice's spare places count too). A statement '..UptoSaid' is the law's where the arguments, and the package variables that the reading takes, are together of bulk at most 1048576: NARROWER than '..Said'. Prove '..Said' where nothing that the law and all that it calls make is longer than what came in: it says more and counts as full. Else prove '..UptoSaid'. A law counts once. -/
mutual
def uptoBulk {H : Type} : DataW H → Nat
  | .lit (.string bytes) => bytes.length + 1
  | .lit _ => 1
  | .nil => 1
  | .ptr d => uptoBulk d + 1
  | .slice elems spare => uptoBulkAll elems + uptoBulkAll spare + 1
  | .agg parts => uptoBulkAll parts + 1
  | .iface _ d => uptoBulk d + 1
  | .map entries => uptoBulkEntries entries + 1
  | .held _ => 1
def uptoBulkAll {H : Type} : List (DataW H) → Nat
  | [] => 0
  | d :: r => uptoBulk d + uptoBulkAll r
def uptoBulkEntries {H : Type} : List (Lit × DataW H) → Nat
  | [] => 0
  | x :: r => uptoBulkEntry x + uptoBulkEntries r
def uptoBulkEntry {H : Type} : Lit × DataW H → Nat
  | (.string bytes, d) => bytes.length + uptoBulk d + 1
  | (_, d) => uptoBulk d + 1
 end
def uptoSmall : (H : Type) → List (DataW H) → Bool := fun _ ds => decide (uptoBulkAll ds ≤ 1048576)
def OpenSpec.upto (s : _root_.Go.ChangeSpec) : _root_.Go.OpenSpec := { _root_.Go.OpenSpec.ofChange s with cond := some uptoSmall }

/-- 'laws.FnResting', WHERE WHAT IT READS IS OF BULK AT MOST 1048576: true; the input reads as it did. -/
def fnRestingUptoRow : OpenClaim := { program := "ytlmfgaacbedbcaa", sum := "758e4ead7895bc691e2d185a4ae4426dd623ac11b01228f33d91dae3d69ae8f3", func := "loop.example/g00715/laws.FnResting", spec := "fnResting", apart := false, narrowed := true }
def FnRestingUptoSaid : Prop := fnRestingUptoRow.holds Try.pinned (OpenSpec.upto fnRestingSpec)

/-- 'laws.FnExactHandOk', WHERE WHAT IT READS IS OF BULK AT MOST 1048576: true; the input reads as it did. -/
def fnExactHandOkUptoRow : OpenClaim := { program := "ytlmfgaacbedbcaa", sum := "758e4ead7895bc691e2d185a4ae4426dd623ac11b01228f33d91dae3d69ae8f3", func := "loop.example/g00715/laws.FnExactHandOk", spec := "fnExactHandOk", apart := false, narrowed := true }
def FnExactHandOkUptoSaid : Prop := fnExactHandOkUptoRow.holds Try.pinned (OpenSpec.upto fnExactHandOkSpec)

/-- 'laws.FnExactNewHand', WHERE WHAT IT READS IS OF BULK AT MOST 1048576: true; the input reads as it did. -/
def fnExactNewHandUptoRow : OpenClaim := { program := "ytlmfgaacbedbcaa", sum := "758e4ead7895bc691e2d185a4ae4426dd623ac11b01228f33d91dae3d69ae8f3", func := "loop.example/g00715/laws.FnExactNewHand", spec := "fnExactNewHand", apart := false, narrowed := true }
def FnExactNewHandUptoSaid : Prop := fnExactNewHandUptoRow.holds Try.pinned (OpenSpec.upto fnExactNewHandSpec)

/-- 'laws.FnExactResting', WHERE WHAT IT READS IS OF BULK AT MOST 1048576: true; the input reads as it did. -/
def fnExactRestingUptoRow : OpenClaim := { program := "ytlmfgaacbedbcaa", sum := "758e4ead7895bc691e2d185a4ae4426dd623ac11b01228f33d91dae3d69ae8f3", func := "loop.example/g00715/laws.FnExactResting", spec := "fnExactResting", apart := false, narrowed := true }
def FnExactRestingUptoSaid : Prop := fnExactRestingUptoRow.holds Try.pinned (OpenSpec.upto fnExactRestingSpec)

end Rows
end Go.Proofs.Ytlmfgaacbedbcaa
