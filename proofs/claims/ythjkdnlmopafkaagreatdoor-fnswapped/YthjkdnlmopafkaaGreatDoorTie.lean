/-
  DERIVED. GIVEN WITH THE SEED: THE PROGRAM's TIES (one call each: nine closed facts by the kernel) AND EACH ROW's TIE, after the 31st guide's Derived/Test/Toyas{Tie, Card}.lean. No idea stands in it: it is a product of the set-up. Laid BY PROGRAM, IN A SANDBOX (cutbox-door.mjs). By AI agents, Wed Nov 11 2026. No macro, syntax, notation, axiom, sorry.
-/
import Derived.Test.YthjkdnlmopafkaaGreatDoorRows
import Derived.LaidByTextLater
import Derived.SevenTiedAt
import Derived.LaidSub
import Derived.LaidOnce
namespace Go.Proofs.YthjkdnlmopafkaaGreatDoor
open Go
set_option maxRecDepth 100000
theorem seatTie1 : Tryz.prog.laidByTextLater [("errors.errorType", Rows.laid_errors_errorType), ("loop.example/g00715/impl.errNoRoom", Rows.laid_loop_example_g00715_impl_errNoRoom), ("loop.example/g00715/impl.errFaster", Rows.laid_loop_example_g00715_impl_errFaster), ("loop.example/g00715/impl.errUnfit", Rows.laid_loop_example_g00715_impl_errUnfit)] [.handle, .sentinel, .sentinel, .sentinel] true :=
  Program.laidByTextLater_by_one 73 8 2 (by kernel_rfl) (by kernel_rfl) (by kernel_rfl) (by kernel_rfl) (by kernel_rfl) (by kernel_rfl) (fun _ _ => by kernel_rfl)
theorem noOwnUnsafe : Tryz.pinned.checked.prog.headLifts.contains "ownunsafe" = false := by kernel_rfl
theorem tie : Tryz.prog.laidByTextLater [("errors.errorType", Rows.laid_errors_errorType), ("loop.example/g00715/impl.errNoRoom", Rows.laid_loop_example_g00715_impl_errNoRoom), ("loop.example/g00715/impl.errFaster", Rows.laid_loop_example_g00715_impl_errFaster), ("loop.example/g00715/impl.errUnfit", Rows.laid_loop_example_g00715_impl_errUnfit)] [.handle, .sentinel, .sentinel, .sentinel] true :=
  Program.laidByTextLater.sub seatTie1 ["errors.errorType", "loop.example/g00715/impl.errNoRoom", "loop.example/g00715/impl.errFaster", "loop.example/g00715/impl.errUnfit"] (by kernel_rfl) (by kernel_rfl)
theorem fnSwapped_row_tie : Rows.fnSwappedRow.laidByTextAt .later Tryz.pinned [.handle, .sentinel, .sentinel, .sentinel] true :=
  OpenClaim.laidByTextAt_later rfl rfl tie noOwnUnsafe
theorem tie2 : Tryz.prog.laidByTextLater [("loop.example/g00715/impl.errNoRoom", Rows.laid_loop_example_g00715_impl_errNoRoom), ("loop.example/g00715/impl.errFaster", Rows.laid_loop_example_g00715_impl_errFaster), ("loop.example/g00715/impl.errUnfit", Rows.laid_loop_example_g00715_impl_errUnfit)] [.sentinel, .sentinel, .sentinel] true :=
  Program.laidByTextLater.sub seatTie1 ["loop.example/g00715/impl.errNoRoom", "loop.example/g00715/impl.errFaster", "loop.example/g00715/impl.errUnfit"] (by kernel_rfl) (by kernel_rfl)
theorem fnFound_row_tie : Rows.fnFoundRow.laidByTextAt .later Tryz.pinned [.sentinel, .sentinel, .sentinel] true :=
  OpenClaim.laidByTextAt_later rfl rfl tie2 noOwnUnsafe
theorem fnSwappedUpto_row_tie : Rows.fnSwappedUptoRow.laidByTextAt .later Tryz.pinned [.handle, .sentinel, .sentinel, .sentinel] true :=
  OpenClaim.laidByTextAt_later rfl rfl tie noOwnUnsafe
theorem fnFoundUpto_row_tie : Rows.fnFoundUptoRow.laidByTextAt .later Tryz.pinned [.sentinel, .sentinel, .sentinel] true :=
  OpenClaim.laidByTextAt_later rfl rfl tie2 noOwnUnsafe
end Go.Proofs.YthjkdnlmopafkaaGreatDoor
