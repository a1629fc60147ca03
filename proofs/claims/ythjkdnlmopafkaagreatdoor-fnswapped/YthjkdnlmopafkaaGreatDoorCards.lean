/-
  DERIVED. GIVEN WITH THE SEED: THE CARDS: each row of YthjkdnlmopafkaaGreatDoorRows.lean that lists a variable, with what it lists TIED to the program's text (the seventh form; the later family's looks); each row that meets fmt, with fmt's text TOLD by the authors' own Lean function (tested against real Go, not proved from fmt's source: count such statements apart). THE CARD IS WHAT COUNTS. Prove the row's statement (the work); the ties are given (YthjkdnlmopafkaaGreatDoorTie.lean); close each card by the builder's one call (the guide's Derived/Test/ToyasCard.lean, 'card_holds'). Laid BY PROGRAM, IN A SANDBOX (cutbox-door.mjs). By AI agents, Wed Nov 11 2026. No macro, syntax, notation, axiom, sorry.
-/
import Derived.Test.YthjkdnlmopafkaaGreatDoorRows
import GoSem.ClaimSeven
namespace Go.Proofs.YthjkdnlmopafkaaGreatDoor
namespace Rows

/-- THE TIED CARD OF 'laws.FnSwapped'. -/
def fnSwappedCard : Claim7 := { stood := { row := fnSwappedRow, standIns := [], harness := (true, "0a41a3173f9b327c9fa1b05f07a2d193ab5b0222e9e8f108869e8e936dcaecf9"), looks := true }, kinds := [], alts := [], laidByText := true, laidKinds := [.handle, .sentinel, .sentinel, .sentinel], laidTests := true, laidLooks := .later }
def FnSwappedCardSaid : Prop := Claim7.holds Tryz.pinned (.plain (OpenSpec.ofChange fnSwappedSpec)) fnSwappedCard

/-- THE TIED CARD OF 'laws.FnFound'. -/
def fnFoundCard : Claim7 := { stood := { row := fnFoundRow, standIns := [], harness := (true, "0a41a3173f9b327c9fa1b05f07a2d193ab5b0222e9e8f108869e8e936dcaecf9"), looks := true }, kinds := [], alts := [], laidByText := true, laidKinds := [.sentinel, .sentinel, .sentinel], laidTests := true, laidLooks := .later }
def FnFoundCardSaid : Prop := Claim7.holds Tryz.pinned (.plain (OpenSpec.ofChange fnFoundSpec)) fnFoundCard

/-- THE SECOND FORM's CARD OF 'laws.FnSwapped'. -/
def fnSwappedUptoCard : Claim7 := { stood := { row := fnSwappedUptoRow, standIns := [], harness := (true, "0a41a3173f9b327c9fa1b05f07a2d193ab5b0222e9e8f108869e8e936dcaecf9"), looks := true }, kinds := [], alts := [], laidByText := true, laidKinds := [.handle, .sentinel, .sentinel, .sentinel], laidTests := true, laidLooks := .later }
def FnSwappedUptoCardSaid : Prop := Claim7.holds Tryz.pinned (.plain (OpenSpec.upto fnSwappedSpec)) fnSwappedUptoCard

/-- THE SECOND FORM's CARD OF 'laws.FnFound'. -/
def fnFoundUptoCard : Claim7 := { stood := { row := fnFoundUptoRow, standIns := [], harness := (true, "0a41a3173f9b327c9fa1b05f07a2d193ab5b0222e9e8f108869e8e936dcaecf9"), looks := true }, kinds := [], alts := [], laidByText := true, laidKinds := [.sentinel, .sentinel, .sentinel], laidTests := true, laidLooks := .later }
def FnFoundUptoCardSaid : Prop := Claim7.holds Tryz.pinned (.plain (OpenSpec.upto fnFoundSpec)) fnFoundUptoCard
end Rows
end Go.Proofs.YthjkdnlmopafkaaGreatDoor
