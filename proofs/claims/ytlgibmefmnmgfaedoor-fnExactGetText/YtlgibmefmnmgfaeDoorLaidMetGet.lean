/-
  What the two rows' lists give their walks.
-/
import Derived.Test.YtlgibmefmnmgfaeDoorLaidGet
namespace Go.Proofs.YtlgibmefmnmgfaeDoor
theorem fnExactGetNum_met {W : World} (h : laidMetH Tryd.prog Rows.fnExactGetNumRow.laid W) : Handle W := handle_lone h
theorem fnExactGetText_met {W : World} (h : laidMetH Tryd.prog Rows.fnExactGetTextRow.laid W) : Handle W := handle_lone h
end Go.Proofs.YtlgibmefmnmgfaeDoor
