/-
  DERIVED. GIVEN WITH THE SEED: THE CARDS: each row of YtcfcngbfnflbgaaGreatDoorRows.lean that lists a variable, with what it lists TIED to the program's text (the seventh form; the later family's looks); each row that meets fmt, with fmt's text TOLD by the authors' own Lean function (tested against real Go, not proved from fmt's source: count such statements apart). THE CARD IS WHAT COUNTS. Prove the row's statement (the work); the ties are given (YtcfcngbfnflbgaaGreatDoorTie.lean); close each card by the builder's one call (the guide's Derived/Test/ToyasCard.lean, 'card_holds'). Laid BY PROGRAM, IN A SANDBOX (cutbox-door.mjs). By AI agents, Wed Nov 11 2026. No macro, syntax, notation, axiom, sorry.
-/
import Derived.Test.YtcfcngbfnflbgaaGreatDoorRows
import GoSem.ClaimSeven
namespace Go.Proofs.YtcfcngbfnflbgaaGreatDoor
namespace Rows

/-- THE TIED CARD OF 'laws.FnExactKeeperNew'. -/
def fnExactKeeperNewCard : Claim7 := { stood := { row := fnExactKeeperNewRow, standIns := [], harness := (true, "c0c891dff11ddf2f844e5d5d70ba5168098d9ff0e10447342e4d3fa4b717fbf0"), looks := true }, kinds := [], alts := [], laidByText := true, laidKinds := [.handle, .sentinel, .sentinel, .sentinel, .sentinel, .sentinel], laidTests := true, laidLooks := .later }
def FnExactKeeperNewCardSaid : Prop := Claim7.holds Tryz.pinned (.plain (OpenSpec.ofChange fnExactKeeperNewSpec)) fnExactKeeperNewCard

/-- THE SECOND FORM's CARD OF 'laws.FnExactKeeperNew'. -/
def fnExactKeeperNewUptoCard : Claim7 := { stood := { row := fnExactKeeperNewUptoRow, standIns := [], harness := (true, "c0c891dff11ddf2f844e5d5d70ba5168098d9ff0e10447342e4d3fa4b717fbf0"), looks := true }, kinds := [], alts := [], laidByText := true, laidKinds := [.handle, .sentinel, .sentinel, .sentinel, .sentinel, .sentinel], laidTests := true, laidLooks := .later }
def FnExactKeeperNewUptoCardSaid : Prop := Claim7.holds Tryz.pinned (.plain (OpenSpec.upto fnExactKeeperNewSpec)) fnExactKeeperNewUptoCard
end Rows
end Go.Proofs.YtcfcngbfnflbgaaGreatDoor
