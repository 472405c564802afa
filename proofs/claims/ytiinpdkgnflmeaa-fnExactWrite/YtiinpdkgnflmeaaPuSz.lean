/-
  The bulk of a list of purses.
-/
import Derived.Test.YtiinpdkgnflmeaaPuLoops
namespace Go.Proofs.Ytiinpdkgnflmeaa
open Go.RowKit
open Mth

end Go.Proofs.Ytiinpdkgnflmeaa
