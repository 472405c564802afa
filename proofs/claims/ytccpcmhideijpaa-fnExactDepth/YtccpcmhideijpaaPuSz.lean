/-
  The bulk of a list of purses.
-/
import Derived.Test.YtccpcmhideijpaaPuLoops
namespace Go.Proofs.Ytccpcmhideijpaa
open Go.RowKit
open Mth

end Go.Proofs.Ytccpcmhideijpaa
