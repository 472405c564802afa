/- Parts. -/
import Derived.Test.YtacgbldlonoaaaaGreatDoorRu3
namespace Go.Proofs.YtacgbldlonoaaaaGreatDoor
set_option maxRecDepth 100000
open Go.RowKit
theorem awd (a:Option Addr) (len cap:Nat) (zs:List Int) (E:Nat→Addr) (w:World) (hz:au8 .u8 w a len cap zs) (he:gW w E):
 Calls Tryz.prog 3 #[.slice a len cap] w fun e w'=>e= .returned (.bool true)∧Below w.heap.size w w':=by
 by_cases hl:len≤1048576
 ·exact awh a len cap E w (avn hz hl) he
 ·have hl':1048576 < len:=by omega
  clear hz he;go_enter Tryz.func3,Tryz.ntmps3
  go_wp2_with (go_at_call 6;refine(avH a len cap _ hl').mono ?_;rintro e w0 ⟨rfl,rfl⟩)
  go_ret;exact⟨rfl,Below.refl _ _⟩
end Go.Proofs.YtacgbldlonoaaaaGreatDoor
