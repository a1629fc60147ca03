/-
  DERIVED. GIVEN WITH THE SEED: THE CARDS: each row of YtlfjhcdjgoeafaaGreatDoorRows.lean that lists a variable, with what it lists TIED to the program's text (the seventh form; the later family's looks); each row that meets fmt, with fmt's text TOLD by the authors' own Lean function (tested against real Go, not proved from fmt's source: count such statements apart). THE CARD IS WHAT COUNTS. Prove the row's statement (the work); the ties are given (YtlfjhcdjgoeafaaGreatDoorTie.lean); close each card by the builder's one call (the guide's Derived/Test/ToyasCard.lean, 'card_holds'). Laid BY PROGRAM, IN A SANDBOX (cutbox-door.mjs). By AI agents, Wed Nov 11 2026. No macro, syntax, notation, axiom, sorry.
-/
import Derived.Test.YtlfjhcdjgoeafaaGreatDoorRows
import GoSem.ClaimSeven
namespace Go.Proofs.YtlfjhcdjgoeafaaGreatDoor
namespace Rows

/-- THE TIED CARD OF 'laws.FnExactFindStep'. -/
def fnExactFindStepCard : Claim7 := { stood := { row := fnExactFindStepRow, standIns := [], harness := (true, "7892b227369062508f729d7d416c2cdb7ee75e32c0f6e2a371faaa2c75cd6475"), looks := true }, kinds := [], alts := [], laidByText := true, laidKinds := [.sentinel, .sentinel, .sentinel], laidTests := true, laidLooks := .later }
def FnExactFindStepCardSaid : Prop := Claim7.holds Tryz.pinned (.plain (OpenSpec.ofChange fnExactFindStepSpec)) fnExactFindStepCard

/-- THE SECOND FORM's CARD OF 'laws.FnExactFindStep'. -/
def fnExactFindStepUptoCard : Claim7 := { stood := { row := fnExactFindStepUptoRow, standIns := [], harness := (true, "7892b227369062508f729d7d416c2cdb7ee75e32c0f6e2a371faaa2c75cd6475"), looks := true }, kinds := [], alts := [], laidByText := true, laidKinds := [.sentinel, .sentinel, .sentinel], laidTests := true, laidLooks := .later }
def FnExactFindStepUptoCardSaid : Prop := Claim7.holds Tryz.pinned (.plain (OpenSpec.upto fnExactFindStepSpec)) fnExactFindStepUptoCard
end Rows
end Go.Proofs.YtlfjhcdjgoeafaaGreatDoor
