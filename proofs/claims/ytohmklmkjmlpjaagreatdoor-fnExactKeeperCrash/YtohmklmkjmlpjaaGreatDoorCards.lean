/-
  DERIVED. GIVEN WITH THE SEED: THE CARDS: each row of YtohmklmkjmlpjaaGreatDoorRows.lean that lists a variable, with what it lists TIED to the program's text (the seventh form; the later family's looks); each row that meets fmt, with fmt's text TOLD by the authors' own Lean function (tested against real Go, not proved from fmt's source: count such statements apart). THE CARD IS WHAT COUNTS. Prove the row's statement (the work); the ties are given (YtohmklmkjmlpjaaGreatDoorTie.lean); close each card by the builder's one call (the guide's Derived/Test/ToyasCard.lean, 'card_holds'). Laid BY PROGRAM, IN A SANDBOX (cutbox-door.mjs). By AI agents, Wed Nov 11 2026. No macro, syntax, notation, axiom, sorry.
-/
import Derived.Test.YtohmklmkjmlpjaaGreatDoorRows
import GoSem.ClaimSeven
namespace Go.Proofs.YtohmklmkjmlpjaaGreatDoor
namespace Rows

/-- THE TIED CARD OF 'laws.FnExactKeeperOk'. -/
def fnExactKeeperOkCard : Claim7 := { stood := { row := fnExactKeeperOkRow, standIns := [], harness := (true, "7387b3d28856743ff4b090c8b2718ffb13dde574547c555fca10d7ca964df6b1"), looks := true }, kinds := [], alts := [], laidByText := true, laidKinds := [.handle, .sentinel, .sentinel, .sentinel, .sentinel, .sentinel], laidTests := true, laidLooks := .later }
def FnExactKeeperOkCardSaid : Prop := Claim7.holds Tryz.pinned (.plain (OpenSpec.ofChange fnExactKeeperOkSpec)) fnExactKeeperOkCard

/-- THE TIED CARD OF 'laws.FnExactKeeperCrash'. -/
def fnExactKeeperCrashCard : Claim7 := { stood := { row := fnExactKeeperCrashRow, standIns := [], harness := (true, "7387b3d28856743ff4b090c8b2718ffb13dde574547c555fca10d7ca964df6b1"), looks := true }, kinds := [], alts := [], laidByText := true, laidKinds := [.handle, .sentinel, .sentinel, .sentinel, .sentinel, .sentinel], laidTests := true, laidLooks := .later }
def FnExactKeeperCrashCardSaid : Prop := Claim7.holds Tryz.pinned (.plain (OpenSpec.ofChange fnExactKeeperCrashSpec)) fnExactKeeperCrashCard

/-- THE SECOND FORM's CARD OF 'laws.FnExactKeeperOk'. -/
def fnExactKeeperOkUptoCard : Claim7 := { stood := { row := fnExactKeeperOkUptoRow, standIns := [], harness := (true, "7387b3d28856743ff4b090c8b2718ffb13dde574547c555fca10d7ca964df6b1"), looks := true }, kinds := [], alts := [], laidByText := true, laidKinds := [.handle, .sentinel, .sentinel, .sentinel, .sentinel, .sentinel], laidTests := true, laidLooks := .later }
def FnExactKeeperOkUptoCardSaid : Prop := Claim7.holds Tryz.pinned (.plain (OpenSpec.upto fnExactKeeperOkSpec)) fnExactKeeperOkUptoCard

/-- THE SECOND FORM's CARD OF 'laws.FnExactKeeperCrash'. -/
def fnExactKeeperCrashUptoCard : Claim7 := { stood := { row := fnExactKeeperCrashUptoRow, standIns := [], harness := (true, "7387b3d28856743ff4b090c8b2718ffb13dde574547c555fca10d7ca964df6b1"), looks := true }, kinds := [], alts := [], laidByText := true, laidKinds := [.handle, .sentinel, .sentinel, .sentinel, .sentinel, .sentinel], laidTests := true, laidLooks := .later }
def FnExactKeeperCrashUptoCardSaid : Prop := Claim7.holds Tryz.pinned (.plain (OpenSpec.upto fnExactKeeperCrashSpec)) fnExactKeeperCrashUptoCard
end Rows
end Go.Proofs.YtohmklmkjmlpjaaGreatDoor
