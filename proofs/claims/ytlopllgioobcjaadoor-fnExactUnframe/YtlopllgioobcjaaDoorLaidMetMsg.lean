/-
  What the row's list gives the walk.
-/
import Derived.Test.YtlopllgioobcjaaDoorLaidGet
namespace Go.Proofs.YtlopllgioobcjaaDoor
theorem fnExactGetMsg_met {W : World} (h : laidMetH Tryd.prog Rows.fnExactGetMsgRow.laid W) : Handle W := handle_lone h
theorem fnExactUnframe_met {W : World} (h : laidMetH Tryd.prog Rows.fnExactUnframeRow.laid W) : Handle W := handle_lone h
end Go.Proofs.YtlopllgioobcjaaDoor
