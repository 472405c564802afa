/- Parts. -/
import Derived.Test.YtcfcngbfnflbgaaGreatDoorPk6
import Derived.Test.YtcfcngbfnflbgaaGreatDoorPk9
import Derived.Test.YtcfcngbfnflbgaaGreatDoorPk10
namespace Go.Proofs.YtcfcngbfnflbgaaGreatDoor
open Go.RowKit
open Mth

namespace Mth
instance : Inhabited Mg := ⟨⟨0, 0, 0, 0, 0, ByteArray.empty, 0⟩⟩
abbrev encM (m : Mg) : List Value := [.int .i64 m.K, .int .i64 m.F, .int .i64 m.T, .int .i64 m.I, .int .i64 m.L, .string m.k, .int .i64 m.N]
theorem encM_length (m : Mg) : (encM m).length = 7 := rfl
end Mth
end Go.Proofs.YtcfcngbfnflbgaaGreatDoor
