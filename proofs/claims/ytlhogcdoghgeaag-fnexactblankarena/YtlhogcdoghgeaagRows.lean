/-
  No cell of these rows narrows 'for every input' (looked for: loops, veiled, ifaces, maps, wideKeys, modest, calm, conditions, laid).
  DERIVED. THE GIVEN ROWS OF THIS SEAT. 4 by the template 'for every input the law returns true; each argument reads behind the call as it read before'; 0 by the template 'total and deterministic' (their statements: YtlhogcdoghgeaagTotals.lean).
  GIVEN WITH THE SEED: the statements are not yours to turn. If you find one false, say at which input.
  Laid BY PROGRAM, IN A SANDBOX (cutbox-rows.mjs): the forced cells as the released guide's own fill.sh prints them over the translation 38efa89a2cf4068e… (all of the seat's roots in one cut). By AI agents, Wed Nov 11 2026. No macro, syntax, notation, axiom, sorry.
-/
import Derived.Test.YtlhogcdoghgeaagChecked
import GoSem.Claim
import GoSem.ClaimJoined
import GoSem.ClaimMapViews
import Derived.JoinedTies
import Derived.KernelRfl
namespace Go.Proofs.Ytlhogcdoghgeaag
/- THE CELL 'sum', in the pinned program and in every row, IS THE sha256 OF THE DUMP (.gsa) THAT YtlhogcdoghgeaagProg.lean LOADS. Nothing in Lean hashes anything: it is a label: what it is worth is what the hold of that sum in a sandbox is worth. -/
noncomputable def Try.pinned : Pinned := { name := "ytlhogcdoghgeaag", sum := "38efa89a2cf4068edf12aea189907c97297bfdd48c6cbee93b4e5c43ac494b1b", checked := Try.checked }
namespace Rows
def none {H : Type} : Left H := { results := [], args := [] }

/-- 'laws.FnExactPointOf': WHATEVER THE INPUT: true; the input reads as it did. -/
def fnExactPointOfSpec : ChangeSpec := { name := "fnExactPointOf", fn := fun _ => fun
  | [d1, d2] => { results := [.lit (.bool true)], args := [d1, d2] }
  | _ => none }
def fnExactPointOfRow : OpenClaim := { program := "ytlhogcdoghgeaag", sum := "38efa89a2cf4068edf12aea189907c97297bfdd48c6cbee93b4e5c43ac494b1b", func := "loop.example/g00715/laws.FnExactPointOf", spec := "fnExactPointOf", unfollowed := true, recurses := true, apart := false }
def FnExactPointOfSaid : Prop := fnExactPointOfRow.holds Try.pinned (OpenSpec.ofChange fnExactPointOfSpec)

/-- ITS FALSE NEIGHBOUR: 'it returns false'. Refute it at one input. -/
def fnExactPointOfWrong : ChangeSpec := { name := "fnExactPointOf", fn := fun _ => fun
  | [d1, d2] => { results := [.lit (.bool false)], args := [d1, d2] }
  | _ => none }
def FnExactPointOfWrongFalsely : Prop := fnExactPointOfRow.holds Try.pinned (OpenSpec.ofChange fnExactPointOfWrong)

/-- 'laws.FnExactArenaOk': WHATEVER THE INPUT: true; the input reads as it did. -/
def fnExactArenaOkSpec : ChangeSpec := { name := "fnExactArenaOk", fn := fun _ => fun
  | [d1, d2] => { results := [.lit (.bool true)], args := [d1, d2] }
  | _ => none }
def fnExactArenaOkRow : OpenClaim := { program := "ytlhogcdoghgeaag", sum := "38efa89a2cf4068edf12aea189907c97297bfdd48c6cbee93b4e5c43ac494b1b", func := "loop.example/g00715/laws.FnExactArenaOk", spec := "fnExactArenaOk", apart := false }
def FnExactArenaOkSaid : Prop := fnExactArenaOkRow.holds Try.pinned (OpenSpec.ofChange fnExactArenaOkSpec)

/-- ITS FALSE NEIGHBOUR: 'it returns false'. Refute it at one input. -/
def fnExactArenaOkWrong : ChangeSpec := { name := "fnExactArenaOk", fn := fun _ => fun
  | [d1, d2] => { results := [.lit (.bool false)], args := [d1, d2] }
  | _ => none }
def FnExactArenaOkWrongFalsely : Prop := fnExactArenaOkRow.holds Try.pinned (OpenSpec.ofChange fnExactArenaOkWrong)

/-- 'laws.FnExactBlankArena': WHATEVER THE INPUT: true; the input reads as it did. -/
def fnExactBlankArenaSpec : ChangeSpec := { name := "fnExactBlankArena", fn := fun _ => fun
  | [d] => { results := [.lit (.bool true)], args := [d] }
  | _ => none }
def fnExactBlankArenaRow : OpenClaim := { program := "ytlhogcdoghgeaag", sum := "38efa89a2cf4068edf12aea189907c97297bfdd48c6cbee93b4e5c43ac494b1b", func := "loop.example/g00715/laws.FnExactBlankArena", spec := "fnExactBlankArena", apart := false }
def FnExactBlankArenaSaid : Prop := fnExactBlankArenaRow.holds Try.pinned (OpenSpec.ofChange fnExactBlankArenaSpec)

/-- ITS FALSE NEIGHBOUR: 'it returns false'. Refute it at one input. -/
def fnExactBlankArenaWrong : ChangeSpec := { name := "fnExactBlankArena", fn := fun _ => fun
  | [d] => { results := [.lit (.bool false)], args := [d] }
  | _ => none }
def FnExactBlankArenaWrongFalsely : Prop := fnExactBlankArenaRow.holds Try.pinned (OpenSpec.ofChange fnExactBlankArenaWrong)

/-- 'laws.FnExactStamped': WHATEVER THE INPUT: true; the input reads as it did. -/
def fnExactStampedSpec : ChangeSpec := { name := "fnExactStamped", fn := fun _ => fun
  | [d1, d2] => { results := [.lit (.bool true)], args := [d1, d2] }
  | _ => none }
def fnExactStampedRow : OpenClaim := { program := "ytlhogcdoghgeaag", sum := "38efa89a2cf4068edf12aea189907c97297bfdd48c6cbee93b4e5c43ac494b1b", func := "loop.example/g00715/laws.FnExactStamped", spec := "fnExactStamped", apart := false }
def FnExactStampedSaid : Prop := fnExactStampedRow.holds Try.pinned (OpenSpec.ofChange fnExactStampedSpec)

/-- ITS FALSE NEIGHBOUR: 'it returns false'. Refute it at one input. -/
def fnExactStampedWrong : ChangeSpec := { name := "fnExactStamped", fn := fun _ => fun
  | [d1, d2] => { results := [.lit (.bool false)], args := [d1, d2] }
  | _ => none }
def FnExactStampedWrongFalsely : Prop := fnExactStampedRow.holds Try.pinned (OpenSpec.ofChange fnExactStampedWrong)

/- THE SECOND FORM. 'bulk': how many values and letters a reading holds, each counted each time it is reached (what is shared counts as often as it is met; a slice's spare places count too). A statement '..UptoSaid' is the law's where the arguments, and the package variables that the reading takes, are together of bulk at most 1048576: NARROWER than '..Said'. Prove '..Said' where nothing that the law and all that it calls make is longer than what came in: it says more and counts as full. Else prove '..UptoSaid'. A law counts once. -/
mutual
def uptoBulk {H : Type} : DataW H → Nat
  | .lit (.string bytes) => bytes.length + 1
  | .lit _ => 1
  | .nil => 1
  | .ptr d => uptoBulk d + 1
  | .slice elems spare => uptoBulkAll elems + uptoBulkAll spare + 1
  | .agg parts => uptoBulkAll parts + 1
  | .iface _ d => uptoBulk d + 1
  | .map entries => uptoBulkEntries entries + 1
  | .held _ => 1
def uptoBulkAll {H : Type} : List (DataW H) → Nat
  | [] => 0
  | d :: r => uptoBulk d + uptoBulkAll r
def uptoBulkEntries {H : Type} : List (Lit × DataW H) → Nat
  | [] => 0
  | x :: r => uptoBulkEntry x + uptoBulkEntries r
def uptoBulkEntry {H : Type} : Lit × DataW H → Nat
  | (.string bytes, d) => bytes.length + uptoBulk d + 1
  | (_, d) => uptoBulk d + 1
 end
def uptoSmall : (H : Type) → List (DataW H) → Bool := fun _ ds => decide (uptoBulkAll ds ≤ 1048576)
def OpenSpec.upto (s : _root_.Go.ChangeSpec) : _root_.Go.OpenSpec := { _root_.Go.OpenSpec.ofChange s with cond := some uptoSmall }

/-- 'laws.FnExactPointOf', WHERE WHAT IT READS IS OF BULK AT MOST 1048576: true; the input reads as it did. -/
def fnExactPointOfUptoRow : OpenClaim := { program := "ytlhogcdoghgeaag", sum := "38efa89a2cf4068edf12aea189907c97297bfdd48c6cbee93b4e5c43ac494b1b", func := "loop.example/g00715/laws.FnExactPointOf", spec := "fnExactPointOf", unfollowed := true, recurses := true, apart := false, narrowed := true }
def FnExactPointOfUptoSaid : Prop := fnExactPointOfUptoRow.holds Try.pinned (OpenSpec.upto fnExactPointOfSpec)

/-- 'laws.FnExactArenaOk', WHERE WHAT IT READS IS OF BULK AT MOST 1048576: true; the input reads as it did. -/
def fnExactArenaOkUptoRow : OpenClaim := { program := "ytlhogcdoghgeaag", sum := "38efa89a2cf4068edf12aea189907c97297bfdd48c6cbee93b4e5c43ac494b1b", func := "loop.example/g00715/laws.FnExactArenaOk", spec := "fnExactArenaOk", apart := false, narrowed := true }
def FnExactArenaOkUptoSaid : Prop := fnExactArenaOkUptoRow.holds Try.pinned (OpenSpec.upto fnExactArenaOkSpec)

/-- 'laws.FnExactBlankArena', WHERE WHAT IT READS IS OF BULK AT MOST 1048576: true; the input reads as it did. -/
def fnExactBlankArenaUptoRow : OpenClaim := { program := "ytlhogcdoghgeaag", sum := "38efa89a2cf4068edf12aea189907c97297bfdd48c6cbee93b4e5c43ac494b1b", func := "loop.example/g00715/laws.FnExactBlankArena", spec := "fnExactBlankArena", apart := false, narrowed := true }
def FnExactBlankArenaUptoSaid : Prop := fnExactBlankArenaUptoRow.holds Try.pinned (OpenSpec.upto fnExactBlankArenaSpec)

/-- 'laws.FnExactStamped', WHERE WHAT IT READS IS OF BULK AT MOST 1048576: true; the input reads as it did. -/
def fnExactStampedUptoRow : OpenClaim := { program := "ytlhogcdoghgeaag", sum := "38efa89a2cf4068edf12aea189907c97297bfdd48c6cbee93b4e5c43ac494b1b", func := "loop.example/g00715/laws.FnExactStamped", spec := "fnExactStamped", apart := false, narrowed := true }
def FnExactStampedUptoSaid : Prop := fnExactStampedUptoRow.holds Try.pinned (OpenSpec.upto fnExactStampedSpec)

end Rows
end Go.Proofs.Ytlhogcdoghgeaag
