/-
  The laws' own loops on lists of purses: their bulk, held against each other.
-/
import Derived.Test.YtccpcmhideijpaaDoorPuRows
import Derived.Deep.QuietTactic
import Derived.BigQuiet
namespace Go.Proofs.YtccpcmhideijpaaDoor
open Go.RowKit
open Mth

end Go.Proofs.YtccpcmhideijpaaDoor
