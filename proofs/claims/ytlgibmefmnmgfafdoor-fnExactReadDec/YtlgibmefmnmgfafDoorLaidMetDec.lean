/-
  What the row's list gives the walk of FnExactReadDec.
-/
import Derived.Test.YtlgibmefmnmgfafDoorLaidGet
namespace Go.Proofs.YtlgibmefmnmgfafDoor
theorem fnExactReadDec_met {W : World} (h : laidMetH Tryd.prog Rows.fnExactReadDecRow.laid W) : Handle W := handle_lone h
end Go.Proofs.YtlgibmefmnmgfafDoor
