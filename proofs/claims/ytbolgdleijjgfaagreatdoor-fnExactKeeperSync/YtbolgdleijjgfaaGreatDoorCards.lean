/-
  DERIVED. GIVEN WITH THE SEED: THE CARDS: each row of YtbolgdleijjgfaaGreatDoorRows.lean that lists a variable, with what it lists TIED to the program's text (the seventh form; the later family's looks); each row that meets fmt, with fmt's text TOLD by the authors' own Lean function (tested against real Go, not proved from fmt's source: count such statements apart). THE CARD IS WHAT COUNTS. Prove the row's statement (the work); the ties are given (YtbolgdleijjgfaaGreatDoorTie.lean); close each card by the builder's one call (the guide's Derived/Test/ToyasCard.lean, 'card_holds'). Laid BY PROGRAM, IN A SANDBOX (cutbox-door.mjs). By AI agents, Wed Nov 11 2026. No macro, syntax, notation, axiom, sorry.
-/
import Derived.Test.YtbolgdleijjgfaaGreatDoorRows
import GoSem.ClaimSeven
namespace Go.Proofs.YtbolgdleijjgfaaGreatDoor
namespace Rows

/-- THE TIED CARD OF 'laws.FnExactKeeperSync'. -/
def fnExactKeeperSyncCard : Claim7 := { stood := { row := fnExactKeeperSyncRow, standIns := [], harness := (true, "c58fdfffe6e2c027ff1d8df8361076b81d5dccc4c7c8f441f1e05ca187d2f6c9"), looks := true }, kinds := [], alts := [], laidByText := true, laidKinds := [.handle, .sentinel, .sentinel, .sentinel, .sentinel, .sentinel], laidTests := true, laidLooks := .later }
def FnExactKeeperSyncCardSaid : Prop := Claim7.holds Tryz.pinned (.plain (OpenSpec.ofChange fnExactKeeperSyncSpec)) fnExactKeeperSyncCard

/-- THE TIED CARD OF 'laws.FnExactKeeperFold'. -/
def fnExactKeeperFoldCard : Claim7 := { stood := { row := fnExactKeeperFoldRow, standIns := [], harness := (true, "c58fdfffe6e2c027ff1d8df8361076b81d5dccc4c7c8f441f1e05ca187d2f6c9"), looks := true }, kinds := [], alts := [], laidByText := true, laidKinds := [.handle, .sentinel, .sentinel, .sentinel, .sentinel, .sentinel], laidTests := true, laidLooks := .later }
def FnExactKeeperFoldCardSaid : Prop := Claim7.holds Tryz.pinned (.plain (OpenSpec.ofChange fnExactKeeperFoldSpec)) fnExactKeeperFoldCard

/-- THE SECOND FORM's CARD OF 'laws.FnExactKeeperSync'. -/
def fnExactKeeperSyncUptoCard : Claim7 := { stood := { row := fnExactKeeperSyncUptoRow, standIns := [], harness := (true, "c58fdfffe6e2c027ff1d8df8361076b81d5dccc4c7c8f441f1e05ca187d2f6c9"), looks := true }, kinds := [], alts := [], laidByText := true, laidKinds := [.handle, .sentinel, .sentinel, .sentinel, .sentinel, .sentinel], laidTests := true, laidLooks := .later }
def FnExactKeeperSyncUptoCardSaid : Prop := Claim7.holds Tryz.pinned (.plain (OpenSpec.upto fnExactKeeperSyncSpec)) fnExactKeeperSyncUptoCard

/-- THE SECOND FORM's CARD OF 'laws.FnExactKeeperFold'. -/
def fnExactKeeperFoldUptoCard : Claim7 := { stood := { row := fnExactKeeperFoldUptoRow, standIns := [], harness := (true, "c58fdfffe6e2c027ff1d8df8361076b81d5dccc4c7c8f441f1e05ca187d2f6c9"), looks := true }, kinds := [], alts := [], laidByText := true, laidKinds := [.handle, .sentinel, .sentinel, .sentinel, .sentinel, .sentinel], laidTests := true, laidLooks := .later }
def FnExactKeeperFoldUptoCardSaid : Prop := Claim7.holds Tryz.pinned (.plain (OpenSpec.upto fnExactKeeperFoldSpec)) fnExactKeeperFoldUptoCard
end Rows
end Go.Proofs.YtbolgdleijjgfaaGreatDoor
