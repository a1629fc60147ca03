/-
  DERIVED. GIVEN WITH THE SEED: THE CARDS: each row of YtlfjhcdjgoeafaaDoorRows.lean that lists a variable, with what it lists TIED to the program's text (the seventh form; the later family's looks); each row that meets fmt, with fmt's text TOLD by the authors' own Lean function (tested against real Go, not proved from fmt's source: count such statements apart). THE CARD IS WHAT COUNTS. Prove the row's statement (the work); the ties are given (YtlfjhcdjgoeafaaDoorTie.lean); close each card by the builder's one call (the guide's Derived/Test/ToyasCard.lean, 'card_holds'). Laid BY PROGRAM, IN A SANDBOX (cutbox-door.mjs). By AI agents, Wed Nov 11 2026. No macro, syntax, notation, axiom, sorry.
-/
import Derived.Test.YtlfjhcdjgoeafaaDoorRows
import GoSem.ClaimSeven
namespace Go.Proofs.YtlfjhcdjgoeafaaDoor
namespace Rows

/-- THE TIED CARD OF 'laws.FnExactSwapped'. -/
def fnExactSwappedCard : Claim7 := { stood := { row := fnExactSwappedRow, standIns := [], harness := (true, "6606c8424621aa9e6b8be5813d0c3dfa6b6f5c82736d47dd601abdcce865b009"), looks := true }, kinds := [], alts := [], laidByText := true, laidKinds := [.handle, .sentinel, .sentinel, .sentinel], laidTests := true, laidLooks := .later }
def FnExactSwappedCardSaid : Prop := Claim7.holds Tryd.pinned (.plain (OpenSpec.ofChange fnExactSwappedSpec)) fnExactSwappedCard

/-- THE TIED CARD OF 'laws.FnExactStartFor'. -/
def fnExactStartForCard : Claim7 := { stood := { row := fnExactStartForRow, standIns := [], harness := (true, "6606c8424621aa9e6b8be5813d0c3dfa6b6f5c82736d47dd601abdcce865b009"), looks := true }, kinds := [], alts := [], laidByText := true, laidKinds := [.sentinel, .sentinel, .sentinel], laidTests := true, laidLooks := .later }
def FnExactStartForCardSaid : Prop := Claim7.holds Tryd.pinned (.plain (OpenSpec.ofChange fnExactStartForSpec)) fnExactStartForCard

/-- THE SECOND FORM's CARD OF 'laws.FnExactSwapped'. -/
def fnExactSwappedUptoCard : Claim7 := { stood := { row := fnExactSwappedUptoRow, standIns := [], harness := (true, "6606c8424621aa9e6b8be5813d0c3dfa6b6f5c82736d47dd601abdcce865b009"), looks := true }, kinds := [], alts := [], laidByText := true, laidKinds := [.handle, .sentinel, .sentinel, .sentinel], laidTests := true, laidLooks := .later }
def FnExactSwappedUptoCardSaid : Prop := Claim7.holds Tryd.pinned (.plain (OpenSpec.upto fnExactSwappedSpec)) fnExactSwappedUptoCard

/-- THE SECOND FORM's CARD OF 'laws.FnExactStartFor'. -/
def fnExactStartForUptoCard : Claim7 := { stood := { row := fnExactStartForUptoRow, standIns := [], harness := (true, "6606c8424621aa9e6b8be5813d0c3dfa6b6f5c82736d47dd601abdcce865b009"), looks := true }, kinds := [], alts := [], laidByText := true, laidKinds := [.sentinel, .sentinel, .sentinel], laidTests := true, laidLooks := .later }
def FnExactStartForUptoCardSaid : Prop := Claim7.holds Tryd.pinned (.plain (OpenSpec.upto fnExactStartForSpec)) fnExactStartForUptoCard
end Rows
end Go.Proofs.YtlfjhcdjgoeafaaDoor
