/-
  DERIVED. GIVEN WITH THE SEED: THE PROGRAM's TIES (one call each: nine closed facts by the kernel) AND EACH ROW's TIE, after the 31st guide's Derived/Test/Toyas{Tie, Card}.lean. No idea stands in it: it is a product of the set-up. Laid BY PROGRAM, IN A SANDBOX (cutbox-door.mjs). By AI agents, Wed Nov 11 2026. No macro, syntax, notation, axiom, sorry.
-/
import Derived.Test.YtfachhcijcjbpaaGreatDoorRows
import Derived.LaidByTextLater
import Derived.SevenTiedAt
import Derived.LaidSub
import Derived.LaidOnce
namespace Go.Proofs.YtfachhcijcjbpaaGreatDoor
open Go
set_option maxRecDepth 100000
theorem seatTie1 : Tryz.prog.laidByTextLater [("errors.errorType", Rows.laid_errors_errorType), ("loop.example/g00264/impl.errNoPurses", Rows.laid_loop_example_g00264_impl_errNoPurses), ("loop.example/g00264/impl.errNoKey", Rows.laid_loop_example_g00264_impl_errNoKey), ("loop.example/g00264/impl.errNoAmount", Rows.laid_loop_example_g00264_impl_errNoAmount), ("loop.example/g00264/impl.errFewer", Rows.laid_loop_example_g00264_impl_errFewer), ("loop.example/g00264/impl.errBeyond", Rows.laid_loop_example_g00264_impl_errBeyond)] [.handle, .sentinel, .sentinel, .sentinel, .sentinel, .sentinel] true :=
  Program.laidByTextLater_by_one 111 8 2 (by kernel_rfl) (by kernel_rfl) (by kernel_rfl) (by kernel_rfl) (by kernel_rfl) (by kernel_rfl) (fun _ _ => by kernel_rfl)
theorem noOwnUnsafe : Tryz.pinned.checked.prog.headLifts.contains "ownunsafe" = false := by kernel_rfl
theorem tie : Tryz.prog.laidByTextLater [("errors.errorType", Rows.laid_errors_errorType), ("loop.example/g00264/impl.errNoPurses", Rows.laid_loop_example_g00264_impl_errNoPurses), ("loop.example/g00264/impl.errNoKey", Rows.laid_loop_example_g00264_impl_errNoKey), ("loop.example/g00264/impl.errNoAmount", Rows.laid_loop_example_g00264_impl_errNoAmount), ("loop.example/g00264/impl.errFewer", Rows.laid_loop_example_g00264_impl_errFewer), ("loop.example/g00264/impl.errBeyond", Rows.laid_loop_example_g00264_impl_errBeyond)] [.handle, .sentinel, .sentinel, .sentinel, .sentinel, .sentinel] true :=
  Program.laidByTextLater.sub seatTie1 ["errors.errorType", "loop.example/g00264/impl.errNoPurses", "loop.example/g00264/impl.errNoKey", "loop.example/g00264/impl.errNoAmount", "loop.example/g00264/impl.errFewer", "loop.example/g00264/impl.errBeyond"] (by kernel_rfl) (by kernel_rfl)
theorem fnExactWorldOk_row_tie : Rows.fnExactWorldOkRow.laidByTextAt .later Tryz.pinned [.handle, .sentinel, .sentinel, .sentinel, .sentinel, .sentinel] true :=
  OpenClaim.laidByTextAt_later rfl rfl tie noOwnUnsafe
theorem fnExactWorldOkUpto_row_tie : Rows.fnExactWorldOkUptoRow.laidByTextAt .later Tryz.pinned [.handle, .sentinel, .sentinel, .sentinel, .sentinel, .sentinel] true :=
  OpenClaim.laidByTextAt_later rfl rfl tie noOwnUnsafe
end Go.Proofs.YtfachhcijcjbpaaGreatDoor
