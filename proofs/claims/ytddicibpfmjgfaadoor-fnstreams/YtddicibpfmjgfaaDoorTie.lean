/-
  DERIVED. GIVEN WITH THE SEED: THE PROGRAM's TIES (one call each: nine closed facts by the kernel) AND EACH ROW's TIE, after the 31st guide's Derived/Test/Toyas{Tie, Card}.lean. No idea stands in it: it is a product of the set-up. Laid BY PROGRAM, IN A SANDBOX (cutbox-door.mjs). By AI agents, Wed Nov 11 2026. No macro, syntax, notation, axiom, sorry.
-/
import Derived.Test.YtddicibpfmjgfaaDoorRows
import Derived.LaidByTextLater
import Derived.SevenTiedAt
import Derived.LaidSub
import Derived.LaidOnce
namespace Go.Proofs.YtddicibpfmjgfaaDoor
open Go
set_option maxRecDepth 100000
theorem seatTie1 : Tryd.prog.laidByTextLater [("errors.errorType", Rows.laid_errors_errorType), ("loop.example/g00450/impl.errWrongStream", Rows.laid_loop_example_g00450_impl_errWrongStream), ("loop.example/g00450/impl.errEnded", Rows.laid_loop_example_g00450_impl_errEnded), ("loop.example/g00450/impl.errTooLong", Rows.laid_loop_example_g00450_impl_errTooLong), ("loop.example/g00450/impl.errOtherBytes", Rows.laid_loop_example_g00450_impl_errOtherBytes), ("loop.example/g00450/impl.errToldAlready", Rows.laid_loop_example_g00450_impl_errToldAlready), ("loop.example/g00450/impl.errTooSoon", Rows.laid_loop_example_g00450_impl_errTooSoon)] [.handle, .sentinel, .sentinel, .sentinel, .sentinel, .sentinel, .sentinel] true :=
  Program.laidByTextLater_by_one 130 8 2 (by kernel_rfl) (by kernel_rfl) (by kernel_rfl) (by kernel_rfl) (by kernel_rfl) (by kernel_rfl) (fun _ _ => by kernel_rfl)
theorem noOwnUnsafe : Tryd.pinned.checked.prog.headLifts.contains "ownunsafe" = false := by kernel_rfl
theorem tie : Tryd.prog.laidByTextLater [("errors.errorType", Rows.laid_errors_errorType), ("loop.example/g00450/impl.errWrongStream", Rows.laid_loop_example_g00450_impl_errWrongStream), ("loop.example/g00450/impl.errEnded", Rows.laid_loop_example_g00450_impl_errEnded), ("loop.example/g00450/impl.errTooLong", Rows.laid_loop_example_g00450_impl_errTooLong), ("loop.example/g00450/impl.errOtherBytes", Rows.laid_loop_example_g00450_impl_errOtherBytes), ("loop.example/g00450/impl.errToldAlready", Rows.laid_loop_example_g00450_impl_errToldAlready), ("loop.example/g00450/impl.errTooSoon", Rows.laid_loop_example_g00450_impl_errTooSoon)] [.handle, .sentinel, .sentinel, .sentinel, .sentinel, .sentinel, .sentinel] true :=
  Program.laidByTextLater.sub seatTie1 ["errors.errorType", "loop.example/g00450/impl.errWrongStream", "loop.example/g00450/impl.errEnded", "loop.example/g00450/impl.errTooLong", "loop.example/g00450/impl.errOtherBytes", "loop.example/g00450/impl.errToldAlready", "loop.example/g00450/impl.errTooSoon"] (by kernel_rfl) (by kernel_rfl)
theorem fnStreams_row_tie : Rows.fnStreamsRow.laidByTextAt .later Tryd.pinned [.handle, .sentinel, .sentinel, .sentinel, .sentinel, .sentinel, .sentinel] true :=
  OpenClaim.laidByTextAt_later rfl rfl tie noOwnUnsafe
theorem tie2 : Tryd.prog.laidByTextLater [("errors.errorType", Rows.laid_errors_errorType), ("loop.example/g00450/impl.errWrongStream", Rows.laid_loop_example_g00450_impl_errWrongStream), ("loop.example/g00450/impl.errEnded", Rows.laid_loop_example_g00450_impl_errEnded), ("loop.example/g00450/impl.errTooLong", Rows.laid_loop_example_g00450_impl_errTooLong)] [.handle, .sentinel, .sentinel, .sentinel] true :=
  Program.laidByTextLater.sub seatTie1 ["errors.errorType", "loop.example/g00450/impl.errWrongStream", "loop.example/g00450/impl.errEnded", "loop.example/g00450/impl.errTooLong"] (by kernel_rfl) (by kernel_rfl)
theorem fnExactGrew_row_tie : Rows.fnExactGrewRow.laidByTextAt .later Tryd.pinned [.handle, .sentinel, .sentinel, .sentinel] true :=
  OpenClaim.laidByTextAt_later rfl rfl tie2 noOwnUnsafe
theorem tie3 : Tryd.prog.laidByTextLater [("errors.errorType", Rows.laid_errors_errorType), ("loop.example/g00450/impl.errWrongStream", Rows.laid_loop_example_g00450_impl_errWrongStream), ("loop.example/g00450/impl.errOtherBytes", Rows.laid_loop_example_g00450_impl_errOtherBytes)] [.handle, .sentinel, .sentinel] true :=
  Program.laidByTextLater.sub seatTie1 ["errors.errorType", "loop.example/g00450/impl.errWrongStream", "loop.example/g00450/impl.errOtherBytes"] (by kernel_rfl) (by kernel_rfl)
theorem fnExactWasRead_row_tie : Rows.fnExactWasReadRow.laidByTextAt .later Tryd.pinned [.handle, .sentinel, .sentinel] true :=
  OpenClaim.laidByTextAt_later rfl rfl tie3 noOwnUnsafe
theorem tie4 : Tryd.prog.laidByTextLater [("errors.errorType", Rows.laid_errors_errorType), ("loop.example/g00450/impl.errWrongStream", Rows.laid_loop_example_g00450_impl_errWrongStream), ("loop.example/g00450/impl.errEnded", Rows.laid_loop_example_g00450_impl_errEnded)] [.handle, .sentinel, .sentinel] true :=
  Program.laidByTextLater.sub seatTie1 ["errors.errorType", "loop.example/g00450/impl.errWrongStream", "loop.example/g00450/impl.errEnded"] (by kernel_rfl) (by kernel_rfl)
theorem fnExactEnded_row_tie : Rows.fnExactEndedRow.laidByTextAt .later Tryd.pinned [.handle, .sentinel, .sentinel] true :=
  OpenClaim.laidByTextAt_later rfl rfl tie4 noOwnUnsafe
theorem tie5 : Tryd.prog.laidByTextLater [("errors.errorType", Rows.laid_errors_errorType), ("loop.example/g00450/impl.errWrongStream", Rows.laid_loop_example_g00450_impl_errWrongStream), ("loop.example/g00450/impl.errToldAlready", Rows.laid_loop_example_g00450_impl_errToldAlready), ("loop.example/g00450/impl.errTooSoon", Rows.laid_loop_example_g00450_impl_errTooSoon)] [.handle, .sentinel, .sentinel, .sentinel] true :=
  Program.laidByTextLater.sub seatTie1 ["errors.errorType", "loop.example/g00450/impl.errWrongStream", "loop.example/g00450/impl.errToldAlready", "loop.example/g00450/impl.errTooSoon"] (by kernel_rfl) (by kernel_rfl)
theorem fnExactTellEnd_row_tie : Rows.fnExactTellEndRow.laidByTextAt .later Tryd.pinned [.handle, .sentinel, .sentinel, .sentinel] true :=
  OpenClaim.laidByTextAt_later rfl rfl tie5 noOwnUnsafe
theorem fnStreamsUpto_row_tie : Rows.fnStreamsUptoRow.laidByTextAt .later Tryd.pinned [.handle, .sentinel, .sentinel, .sentinel, .sentinel, .sentinel, .sentinel] true :=
  OpenClaim.laidByTextAt_later rfl rfl tie noOwnUnsafe
theorem fnExactGrewUpto_row_tie : Rows.fnExactGrewUptoRow.laidByTextAt .later Tryd.pinned [.handle, .sentinel, .sentinel, .sentinel] true :=
  OpenClaim.laidByTextAt_later rfl rfl tie2 noOwnUnsafe
theorem fnExactWasReadUpto_row_tie : Rows.fnExactWasReadUptoRow.laidByTextAt .later Tryd.pinned [.handle, .sentinel, .sentinel] true :=
  OpenClaim.laidByTextAt_later rfl rfl tie3 noOwnUnsafe
theorem fnExactEndedUpto_row_tie : Rows.fnExactEndedUptoRow.laidByTextAt .later Tryd.pinned [.handle, .sentinel, .sentinel] true :=
  OpenClaim.laidByTextAt_later rfl rfl tie4 noOwnUnsafe
theorem fnExactTellEndUpto_row_tie : Rows.fnExactTellEndUptoRow.laidByTextAt .later Tryd.pinned [.handle, .sentinel, .sentinel, .sentinel] true :=
  OpenClaim.laidByTextAt_later rfl rfl tie5 noOwnUnsafe
end Go.Proofs.YtddicibpfmjgfaaDoor
