/-
  What the program's KeyOk comes to.
-/
import Derived.Test.YtccpcmhideijpaaDoorKey
namespace Go.Proofs.YtccpcmhideijpaaDoor
open Go.RowKit

end Go.Proofs.YtccpcmhideijpaaDoor
