/-
  No cell of these rows narrows 'for every input' (looked for: loops, veiled, ifaces, maps, wideKeys, modest, calm, conditions, laid).
  DERIVED. THE GIVEN ROWS OF THIS SEAT. 6 by the template 'for every input the law returns true; each argument reads behind the call as it read before'; 0 by the template 'total and deterministic' (their statements: YtcgjkodpmloccaaTotals.lean).
  GIVEN WITH THE SEED: the statements are not yours to turn. If you find one false, say at which input.
  Laid BY PROGRAM, IN A SANDBOX (cutbox-rows.mjs): the forced cells as the released guide's own fill.sh prints them over the translation d0208bcfdb05dc2b… (all of the seat's roots in one cut). By AI agents, Wed Nov 11 2026. No macro, syntax, notation, axiom, sorry.
-/
import Derived.Test.YtcgjkodpmloccaaChecked
import GoSem.Claim
import GoSem.ClaimJoined
import GoSem.ClaimMapViews
import Derived.JoinedTies
import Derived.KernelRfl
namespace Go.Proofs.Ytcgjkodpmloccaa
/- THE CELL 'sum', in the pinned program and in every row, IS THE sha256 OF THE DUMP (.gsa) THAT YtcgjkodpmloccaaProg.lean LOADS. Nothing in Lean hashes anything: it is a label: what it is worth is what the hold of that sum in a sandbox is worth. -/
noncomputable def Try.pinned : Pinned := { name := "ytcgjkodpmloccaa", sum := "d0208bcfdb05dc2b474f020db990376a1dfe461c5b743aabe3f3f1a022326b4e", checked := Try.checked }
namespace Rows
def none {H : Type} : Left H := { results := [], args := [] }

/-- 'laws.FnExactBlankArena': WHATEVER THE INPUT: true; the input reads as it did. -/
def fnExactBlankArenaSpec : ChangeSpec := { name := "fnExactBlankArena", fn := fun _ => fun
  | [d] => { results := [.lit (.bool true)], args := [d] }
  | _ => none }
def fnExactBlankArenaRow : OpenClaim := { program := "ytcgjkodpmloccaa", sum := "d0208bcfdb05dc2b474f020db990376a1dfe461c5b743aabe3f3f1a022326b4e", func := "loop.example/g00715/laws.FnExactBlankArena", spec := "fnExactBlankArena", apart := false }
def FnExactBlankArenaSaid : Prop := fnExactBlankArenaRow.holds Try.pinned (OpenSpec.ofChange fnExactBlankArenaSpec)

/-- ITS FALSE NEIGHBOUR: 'it returns false'. Refute it at one input. -/
def fnExactBlankArenaWrong : ChangeSpec := { name := "fnExactBlankArena", fn := fun _ => fun
  | [d] => { results := [.lit (.bool false)], args := [d] }
  | _ => none }
def FnExactBlankArenaWrongFalsely : Prop := fnExactBlankArenaRow.holds Try.pinned (OpenSpec.ofChange fnExactBlankArenaWrong)

/-- 'laws.FnExactHandOk': WHATEVER THE INPUT: true; the input reads as it did. -/
def fnExactHandOkSpec : ChangeSpec := { name := "fnExactHandOk", fn := fun _ => fun
  | [d1, d2] => { results := [.lit (.bool true)], args := [d1, d2] }
  | _ => none }
def fnExactHandOkRow : OpenClaim := { program := "ytcgjkodpmloccaa", sum := "d0208bcfdb05dc2b474f020db990376a1dfe461c5b743aabe3f3f1a022326b4e", func := "loop.example/g00715/laws.FnExactHandOk", spec := "fnExactHandOk", apart := false }
def FnExactHandOkSaid : Prop := fnExactHandOkRow.holds Try.pinned (OpenSpec.ofChange fnExactHandOkSpec)

/-- ITS FALSE NEIGHBOUR: 'it returns false'. Refute it at one input. -/
def fnExactHandOkWrong : ChangeSpec := { name := "fnExactHandOk", fn := fun _ => fun
  | [d1, d2] => { results := [.lit (.bool false)], args := [d1, d2] }
  | _ => none }
def FnExactHandOkWrongFalsely : Prop := fnExactHandOkRow.holds Try.pinned (OpenSpec.ofChange fnExactHandOkWrong)

/-- 'laws.FnExactCalled': WHATEVER THE INPUT: true; the input reads as it did. -/
def fnExactCalledSpec : ChangeSpec := { name := "fnExactCalled", fn := fun _ => fun
  | [d1, d2, d3, d4, d5] => { results := [.lit (.bool true)], args := [d1, d2, d3, d4, d5] }
  | _ => none }
def fnExactCalledRow : OpenClaim := { program := "ytcgjkodpmloccaa", sum := "d0208bcfdb05dc2b474f020db990376a1dfe461c5b743aabe3f3f1a022326b4e", func := "loop.example/g00715/laws.FnExactCalled", spec := "fnExactCalled", apart := false }
def FnExactCalledSaid : Prop := fnExactCalledRow.holds Try.pinned (OpenSpec.ofChange fnExactCalledSpec)

/-- ITS FALSE NEIGHBOUR: 'it returns false'. Refute it at one input. -/
def fnExactCalledWrong : ChangeSpec := { name := "fnExactCalled", fn := fun _ => fun
  | [d1, d2, d3, d4, d5] => { results := [.lit (.bool false)], args := [d1, d2, d3, d4, d5] }
  | _ => none }
def FnExactCalledWrongFalsely : Prop := fnExactCalledRow.holds Try.pinned (OpenSpec.ofChange fnExactCalledWrong)

/-- 'laws.FnExactWalkedTo': WHATEVER THE INPUT: true; the input reads as it did. -/
def fnExactWalkedToSpec : ChangeSpec := { name := "fnExactWalkedTo", fn := fun _ => fun
  | [d1, d2, d3, d4] => { results := [.lit (.bool true)], args := [d1, d2, d3, d4] }
  | _ => none }
def fnExactWalkedToRow : OpenClaim := { program := "ytcgjkodpmloccaa", sum := "d0208bcfdb05dc2b474f020db990376a1dfe461c5b743aabe3f3f1a022326b4e", func := "loop.example/g00715/laws.FnExactWalkedTo", spec := "fnExactWalkedTo", apart := false }
def FnExactWalkedToSaid : Prop := fnExactWalkedToRow.holds Try.pinned (OpenSpec.ofChange fnExactWalkedToSpec)

/-- ITS FALSE NEIGHBOUR: 'it returns false'. Refute it at one input. -/
def fnExactWalkedToWrong : ChangeSpec := { name := "fnExactWalkedTo", fn := fun _ => fun
  | [d1, d2, d3, d4] => { results := [.lit (.bool false)], args := [d1, d2, d3, d4] }
  | _ => none }
def FnExactWalkedToWrongFalsely : Prop := fnExactWalkedToRow.holds Try.pinned (OpenSpec.ofChange fnExactWalkedToWrong)

/-- 'laws.FnExactWentOn': WHATEVER THE INPUT: true; the input reads as it did. -/
def fnExactWentOnSpec : ChangeSpec := { name := "fnExactWentOn", fn := fun _ => fun
  | [d1, d2, d3] => { results := [.lit (.bool true)], args := [d1, d2, d3] }
  | _ => none }
def fnExactWentOnRow : OpenClaim := { program := "ytcgjkodpmloccaa", sum := "d0208bcfdb05dc2b474f020db990376a1dfe461c5b743aabe3f3f1a022326b4e", func := "loop.example/g00715/laws.FnExactWentOn", spec := "fnExactWentOn", unfollowed := true, recurses := true, apart := false }
def FnExactWentOnSaid : Prop := fnExactWentOnRow.holds Try.pinned (OpenSpec.ofChange fnExactWentOnSpec)

/-- ITS FALSE NEIGHBOUR: 'it returns false'. Refute it at one input. -/
def fnExactWentOnWrong : ChangeSpec := { name := "fnExactWentOn", fn := fun _ => fun
  | [d1, d2, d3] => { results := [.lit (.bool false)], args := [d1, d2, d3] }
  | _ => none }
def FnExactWentOnWrongFalsely : Prop := fnExactWentOnRow.holds Try.pinned (OpenSpec.ofChange fnExactWentOnWrong)

/-- 'laws.FnExactFit': WHATEVER THE INPUT: true; the input reads as it did. -/
def fnExactFitSpec : ChangeSpec := { name := "fnExactFit", fn := fun _ => fun
  | [d1, d2, d3, d4, d5] => { results := [.lit (.bool true)], args := [d1, d2, d3, d4, d5] }
  | _ => none }
def fnExactFitRow : OpenClaim := { program := "ytcgjkodpmloccaa", sum := "d0208bcfdb05dc2b474f020db990376a1dfe461c5b743aabe3f3f1a022326b4e", func := "loop.example/g00715/laws.FnExactFit", spec := "fnExactFit", apart := false }
def FnExactFitSaid : Prop := fnExactFitRow.holds Try.pinned (OpenSpec.ofChange fnExactFitSpec)

/-- ITS FALSE NEIGHBOUR: 'it returns false'. Refute it at one input. -/
def fnExactFitWrong : ChangeSpec := { name := "fnExactFit", fn := fun _ => fun
  | [d1, d2, d3, d4, d5] => { results := [.lit (.bool false)], args := [d1, d2, d3, d4, d5] }
  | _ => none }
def FnExactFitWrongFalsely : Prop := fnExactFitRow.holds Try.pinned (OpenSpec.ofChange fnExactFitWrong)

/- THE SECOND FORM. 'bulk': how many values and letters a reading holds, each counted each time it is reached (what is shared counts as often as it is met; a slice's spare places count too). A statement '..UptoSaid' is the law's where the arguments, and the package variables that the reading takes, are together of bulk at most 1048576: NARROWER than '..Said'. Prove '..Said' where nothing that the law and all that it calls make is longer than what came in: it says more and counts as full. Else prove '..UptoSaid'. A law counts once. -/
mutual
def uptoBulk {H : Type} : DataW H → Nat
  | .lit (.string bytes) => bytes.length + 1
  | .lit _ => 1
  | .nil => 1
  | .ptr d => uptoBulk d + 1
  | .slice elems spare => uptoBulkAll elems + uptoBulkAll spare + 1
  | .agg parts => uptoBulkAll parts + 1
  | .iface _ d => uptoBulk d + 1
  | .map entries => uptoBulkEntries entries + 1
  | .held _ => 1
def uptoBulkAll {H : Type} : List (DataW H) → Nat
  | [] => 0
  | d :: r => uptoBulk d + uptoBulkAll r
def uptoBulkEntries {H : Type} : List (Lit × DataW H) → Nat
  | [] => 0
  | x :: r => uptoBulkEntry x + uptoBulkEntries r
def uptoBulkEntry {H : Type} : Lit × DataW H → Nat
  | (.string bytes, d) => bytes.length + uptoBulk d + 1
  | (_, d) => uptoBulk d + 1
 end
def uptoSmall : (H : Type) → List (DataW H) → Bool := fun _ ds => decide (uptoBulkAll ds ≤ 1048576)
def OpenSpec.upto (s : _root_.Go.ChangeSpec) : _root_.Go.OpenSpec := { _root_.Go.OpenSpec.ofChange s with cond := some uptoSmall }

/-- 'laws.FnExactBlankArena', WHERE WHAT IT READS IS OF BULK AT MOST 1048576: true; the input reads as it did. -/
def fnExactBlankArenaUptoRow : OpenClaim := { program := "ytcgjkodpmloccaa", sum := "d0208bcfdb05dc2b474f020db990376a1dfe461c5b743aabe3f3f1a022326b4e", func := "loop.example/g00715/laws.FnExactBlankArena", spec := "fnExactBlankArena", apart := false, narrowed := true }
def FnExactBlankArenaUptoSaid : Prop := fnExactBlankArenaUptoRow.holds Try.pinned (OpenSpec.upto fnExactBlankArenaSpec)

/-- 'laws.FnExactHandOk', WHERE WHAT IT READS IS OF BULK AT MOST 1048576: true; the input reads as it did. -/
def fnExactHandOkUptoRow : OpenClaim := { program := "ytcgjkodpmloccaa", sum := "d0208bcfdb05dc2b474f020db990376a1dfe461c5b743aabe3f3f1a022326b4e", func := "loop.example/g00715/laws.FnExactHandOk", spec := "fnExactHandOk", apart := false, narrowed := true }
def FnExactHandOkUptoSaid : Prop := fnExactHandOkUptoRow.holds Try.pinned (OpenSpec.upto fnExactHandOkSpec)

/-- 'laws.FnExactCalled', WHERE WHAT IT READS IS OF BULK AT MOST 1048576: true; the input reads as it did. -/
def fnExactCalledUptoRow : OpenClaim := { program := "ytcgjkodpmloccaa", sum := "d0208bcfdb05dc2b474f020db990376a1dfe461c5b743aabe3f3f1a022326b4e", func := "loop.example/g00715/laws.FnExactCalled", spec := "fnExactCalled", apart := false, narrowed := true }
def FnExactCalledUptoSaid : Prop := fnExactCalledUptoRow.holds Try.pinned (OpenSpec.upto fnExactCalledSpec)

/-- 'laws.FnExactWalkedTo', WHERE WHAT IT READS IS OF BULK AT MOST 1048576: true; the input reads as it did. -/
def fnExactWalkedToUptoRow : OpenClaim := { program := "ytcgjkodpmloccaa", sum := "d0208bcfdb05dc2b474f020db990376a1dfe461c5b743aabe3f3f1a022326b4e", func := "loop.example/g00715/laws.FnExactWalkedTo", spec := "fnExactWalkedTo", apart := false, narrowed := true }
def FnExactWalkedToUptoSaid : Prop := fnExactWalkedToUptoRow.holds Try.pinned (OpenSpec.upto fnExactWalkedToSpec)

/-- 'laws.FnExactWentOn', WHERE WHAT IT READS IS OF BULK AT MOST 1048576: true; the input reads as it did. -/
def fnExactWentOnUptoRow : OpenClaim := { program := "ytcgjkodpmloccaa", sum := "d0208bcfdb05dc2b474f020db990376a1dfe461c5b743aabe3f3f1a022326b4e", func := "loop.example/g00715/laws.FnExactWentOn", spec := "fnExactWentOn", unfollowed := true, recurses := true, apart := false, narrowed := true }
def FnExactWentOnUptoSaid : Prop := fnExactWentOnUptoRow.holds Try.pinned (OpenSpec.upto fnExactWentOnSpec)

/-- 'laws.FnExactFit', WHERE WHAT IT READS IS OF BULK AT MOST 1048576: true; the input reads as it did. -/
def fnExactFitUptoRow : OpenClaim := { program := "ytcgjkodpmloccaa", sum := "d0208bcfdb05dc2b474f020db990376a1dfe461c5b743aabe3f3f1a022326b4e", func := "loop.example/g00715/laws.FnExactFit", spec := "fnExactFit", apart := false, narrowed := true }
def FnExactFitUptoSaid : Prop := fnExactFitUptoRow.holds Try.pinned (OpenSpec.upto fnExactFitSpec)

end Rows
end Go.Proofs.Ytcgjkodpmloccaa
