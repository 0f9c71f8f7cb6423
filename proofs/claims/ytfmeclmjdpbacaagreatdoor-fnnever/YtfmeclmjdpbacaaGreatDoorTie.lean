/-
  DERIVED. GIVEN WITH THE SEED: THE PROGRAM's TIES (one call each: nine closed facts by the kernel) AND EACH ROW's TIE, after the 31st guide's Derived/Test/Toyas{Tie, Card}.lean. No idea stands in it: it is a product of the set-up. Laid BY PROGRAM, IN A SANDBOX (cutbox-door.mjs). By AI agents, Wed Nov 11 2026. No macro, syntax, notation, axiom, sorry.
-/
import Derived.Test.YtfmeclmjdpbacaaGreatDoorRows
import Derived.LaidByTextLater
import Derived.SevenTiedAt
import Derived.LaidSub
import Derived.LaidOnce
namespace Go.Proofs.YtfmeclmjdpbacaaGreatDoor
open Go
set_option maxRecDepth 100000
theorem seatTie1 : Tryz.prog.laidByTextLater [("errors.errorType", Rows.laid_errors_errorType), ("loop.example/kilnvault/impl.kindParts", Rows.laid_loop_example_kilnvault_impl_kindParts), ("loop.example/kilnvault/impl.errWidth", Rows.laid_loop_example_kilnvault_impl_errWidth), ("loop.example/kilnvault/impl.errKind", Rows.laid_loop_example_kilnvault_impl_errKind), ("loop.example/kilnvault/impl.errShort", Rows.laid_loop_example_kilnvault_impl_errShort), ("loop.example/kilnvault/impl.errThing", Rows.laid_loop_example_kilnvault_impl_errThing), ("loop.example/kilnvault/impl.errLong", Rows.laid_loop_example_kilnvault_impl_errLong), ("loop.example/kilnvault/impl.errParts", Rows.laid_loop_example_kilnvault_impl_errParts)] [.handle, .data, .sentinel, .sentinel, .sentinel, .sentinel, .sentinel, .sentinel] true :=
  Program.laidByTextLater_by_one 142 8 33 (by kernel_rfl) (by kernel_rfl) (by kernel_rfl) (by kernel_rfl) (by kernel_rfl) (by kernel_rfl) (fun _ _ => by kernel_rfl)
theorem noOwnUnsafe : Tryz.pinned.checked.prog.headLifts.contains "ownunsafe" = false := by kernel_rfl
theorem tie : Tryz.prog.laidByTextLater [("errors.errorType", Rows.laid_errors_errorType), ("loop.example/kilnvault/impl.kindParts", Rows.laid_loop_example_kilnvault_impl_kindParts), ("loop.example/kilnvault/impl.errWidth", Rows.laid_loop_example_kilnvault_impl_errWidth), ("loop.example/kilnvault/impl.errKind", Rows.laid_loop_example_kilnvault_impl_errKind), ("loop.example/kilnvault/impl.errShort", Rows.laid_loop_example_kilnvault_impl_errShort), ("loop.example/kilnvault/impl.errThing", Rows.laid_loop_example_kilnvault_impl_errThing), ("loop.example/kilnvault/impl.errLong", Rows.laid_loop_example_kilnvault_impl_errLong), ("loop.example/kilnvault/impl.errParts", Rows.laid_loop_example_kilnvault_impl_errParts)] [.handle, .data, .sentinel, .sentinel, .sentinel, .sentinel, .sentinel, .sentinel] true :=
  Program.laidByTextLater.sub seatTie1 ["errors.errorType", "loop.example/kilnvault/impl.kindParts", "loop.example/kilnvault/impl.errWidth", "loop.example/kilnvault/impl.errKind", "loop.example/kilnvault/impl.errShort", "loop.example/kilnvault/impl.errThing", "loop.example/kilnvault/impl.errLong", "loop.example/kilnvault/impl.errParts"] (by kernel_rfl) (by kernel_rfl)
theorem fnNever_row_tie : Rows.fnNeverRow.laidByTextAt .later Tryz.pinned [.handle, .data, .sentinel, .sentinel, .sentinel, .sentinel, .sentinel, .sentinel] true :=
  OpenClaim.laidByTextAt_later rfl rfl tie noOwnUnsafe
theorem fnNeverUpto_row_tie : Rows.fnNeverUptoRow.laidByTextAt .later Tryz.pinned [.handle, .data, .sentinel, .sentinel, .sentinel, .sentinel, .sentinel, .sentinel] true :=
  OpenClaim.laidByTextAt_later rfl rfl tie noOwnUnsafe
end Go.Proofs.YtfmeclmjdpbacaaGreatDoor
