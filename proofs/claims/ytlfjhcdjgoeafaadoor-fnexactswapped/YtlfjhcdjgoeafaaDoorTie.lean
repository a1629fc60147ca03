/-
  DERIVED. GIVEN WITH THE SEED: THE PROGRAM's TIES (one call each: nine closed facts by the kernel) AND EACH ROW's TIE, after the 31st guide's Derived/Test/Toyas{Tie, Card}.lean. No idea stands in it: it is a product of the set-up. Laid BY PROGRAM, IN A SANDBOX (cutbox-door.mjs). By AI agents, Wed Nov 11 2026. No macro, syntax, notation, axiom, sorry.
-/
import Derived.Test.YtlfjhcdjgoeafaaDoorRows
import Derived.LaidByTextLater
import Derived.SevenTiedAt
import Derived.LaidSub
import Derived.LaidOnce
namespace Go.Proofs.YtlfjhcdjgoeafaaDoor
open Go
set_option maxRecDepth 100000
theorem seatTie1 : Tryd.prog.laidByTextLater [("errors.errorType", Rows.laid_errors_errorType), ("loop.example/g00715/impl.errNoRoom", Rows.laid_loop_example_g00715_impl_errNoRoom), ("loop.example/g00715/impl.errFaster", Rows.laid_loop_example_g00715_impl_errFaster), ("loop.example/g00715/impl.errUnfit", Rows.laid_loop_example_g00715_impl_errUnfit)] [.handle, .sentinel, .sentinel, .sentinel] true :=
  Program.laidByTextLater_by_one 73 8 2 (by kernel_rfl) (by kernel_rfl) (by kernel_rfl) (by kernel_rfl) (by kernel_rfl) (by kernel_rfl) (fun _ _ => by kernel_rfl)
theorem noOwnUnsafe : Tryd.pinned.checked.prog.headLifts.contains "ownunsafe" = false := by kernel_rfl
theorem tie : Tryd.prog.laidByTextLater [("errors.errorType", Rows.laid_errors_errorType), ("loop.example/g00715/impl.errNoRoom", Rows.laid_loop_example_g00715_impl_errNoRoom), ("loop.example/g00715/impl.errFaster", Rows.laid_loop_example_g00715_impl_errFaster), ("loop.example/g00715/impl.errUnfit", Rows.laid_loop_example_g00715_impl_errUnfit)] [.handle, .sentinel, .sentinel, .sentinel] true :=
  Program.laidByTextLater.sub seatTie1 ["errors.errorType", "loop.example/g00715/impl.errNoRoom", "loop.example/g00715/impl.errFaster", "loop.example/g00715/impl.errUnfit"] (by kernel_rfl) (by kernel_rfl)
theorem fnExactSwapped_row_tie : Rows.fnExactSwappedRow.laidByTextAt .later Tryd.pinned [.handle, .sentinel, .sentinel, .sentinel] true :=
  OpenClaim.laidByTextAt_later rfl rfl tie noOwnUnsafe
theorem tie2 : Tryd.prog.laidByTextLater [("loop.example/g00715/impl.errNoRoom", Rows.laid_loop_example_g00715_impl_errNoRoom), ("loop.example/g00715/impl.errFaster", Rows.laid_loop_example_g00715_impl_errFaster), ("loop.example/g00715/impl.errUnfit", Rows.laid_loop_example_g00715_impl_errUnfit)] [.sentinel, .sentinel, .sentinel] true :=
  Program.laidByTextLater.sub seatTie1 ["loop.example/g00715/impl.errNoRoom", "loop.example/g00715/impl.errFaster", "loop.example/g00715/impl.errUnfit"] (by kernel_rfl) (by kernel_rfl)
theorem fnExactStartFor_row_tie : Rows.fnExactStartForRow.laidByTextAt .later Tryd.pinned [.sentinel, .sentinel, .sentinel] true :=
  OpenClaim.laidByTextAt_later rfl rfl tie2 noOwnUnsafe
theorem fnExactSwappedUpto_row_tie : Rows.fnExactSwappedUptoRow.laidByTextAt .later Tryd.pinned [.handle, .sentinel, .sentinel, .sentinel] true :=
  OpenClaim.laidByTextAt_later rfl rfl tie noOwnUnsafe
theorem fnExactStartForUpto_row_tie : Rows.fnExactStartForUptoRow.laidByTextAt .later Tryd.pinned [.sentinel, .sentinel, .sentinel] true :=
  OpenClaim.laidByTextAt_later rfl rfl tie2 noOwnUnsafe
end Go.Proofs.YtlfjhcdjgoeafaaDoor
