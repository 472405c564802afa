/-
  The bulk of a list of purses.
-/
import Derived.Test.YtccpcmhideijpaaDoorPuLoops
namespace Go.Proofs.YtccpcmhideijpaaDoor
open Go.RowKit
open Mth

end Go.Proofs.YtccpcmhideijpaaDoor
