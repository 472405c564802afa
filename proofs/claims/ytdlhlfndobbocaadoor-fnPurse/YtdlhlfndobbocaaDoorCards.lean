/-
  DERIVED. GIVEN WITH THE SEED: THE CARDS: each row of YtdlhlfndobbocaaDoorRows.lean that lists a variable, with what it lists TIED to the program's text (the seventh form; the later family's looks); each row that meets fmt, with fmt's text TOLD by the authors' own Lean function (tested against real Go, not proved from fmt's source: count such statements apart). THE CARD IS WHAT COUNTS. Prove the row's statement (the work); the ties are given (YtdlhlfndobbocaaDoorTie.lean); close each card by the builder's one call (the guide's Derived/Test/ToyasCard.lean, 'card_holds'). Laid BY PROGRAM, IN A SANDBOX (cutbox-door.mjs). By AI agents, Wed Nov 11 2026. No macro, syntax, notation, axiom, sorry.
-/
import Derived.Test.YtdlhlfndobbocaaDoorRows
import GoSem.ClaimSeven
namespace Go.Proofs.YtdlhlfndobbocaaDoor
namespace Rows

/-- THE TIED CARD OF 'laws.FnPurse'. -/
def fnPurseCard : Claim7 := { stood := { row := fnPurseRow, standIns := [], harness := (true, "cf789ccee30d8c7751c07afb26cded9d166e86a83df2150abee6ad827b89483b"), looks := true }, kinds := [], alts := [], laidByText := true, laidKinds := [.sentinel, .sentinel, .sentinel, .sentinel, .sentinel], laidTests := true, laidLooks := .later }
def FnPurseCardSaid : Prop := Claim7.holds Tryd.pinned (.plain (OpenSpec.ofChange fnPurseSpec)) fnPurseCard

/-- THE TIED CARD OF 'laws.FnExactMint'. -/
def fnExactMintCard : Claim7 := { stood := { row := fnExactMintRow, standIns := [], harness := (true, "cf789ccee30d8c7751c07afb26cded9d166e86a83df2150abee6ad827b89483b"), looks := true }, kinds := [], alts := [], laidByText := true, laidKinds := [.sentinel, .sentinel, .sentinel, .sentinel, .sentinel], laidTests := true, laidLooks := .later }
def FnExactMintCardSaid : Prop := Claim7.holds Tryd.pinned (.plain (OpenSpec.ofChange fnExactMintSpec)) fnExactMintCard

/-- THE TIED CARD OF 'laws.FnExactGain'. -/
def fnExactGainCard : Claim7 := { stood := { row := fnExactGainRow, standIns := [], harness := (true, "cf789ccee30d8c7751c07afb26cded9d166e86a83df2150abee6ad827b89483b"), looks := true }, kinds := [], alts := [], laidByText := true, laidKinds := [.sentinel, .sentinel, .sentinel, .sentinel, .sentinel], laidTests := true, laidLooks := .later }
def FnExactGainCardSaid : Prop := Claim7.holds Tryd.pinned (.plain (OpenSpec.ofChange fnExactGainSpec)) fnExactGainCard

/-- THE TIED CARD OF 'laws.FnExactPart'. -/
def fnExactPartCard : Claim7 := { stood := { row := fnExactPartRow, standIns := [], harness := (true, "cf789ccee30d8c7751c07afb26cded9d166e86a83df2150abee6ad827b89483b"), looks := true }, kinds := [], alts := [], laidByText := true, laidKinds := [.sentinel, .sentinel, .sentinel, .sentinel, .sentinel], laidTests := true, laidLooks := .later }
def FnExactPartCardSaid : Prop := Claim7.holds Tryd.pinned (.plain (OpenSpec.ofChange fnExactPartSpec)) fnExactPartCard

/-- THE TIED CARD OF 'laws.FnExactSpend'. -/
def fnExactSpendCard : Claim7 := { stood := { row := fnExactSpendRow, standIns := [], harness := (true, "cf789ccee30d8c7751c07afb26cded9d166e86a83df2150abee6ad827b89483b"), looks := true }, kinds := [], alts := [], laidByText := true, laidKinds := [.sentinel, .sentinel, .sentinel, .sentinel, .sentinel], laidTests := true, laidLooks := .later }
def FnExactSpendCardSaid : Prop := Claim7.holds Tryd.pinned (.plain (OpenSpec.ofChange fnExactSpendSpec)) fnExactSpendCard

/-- THE TIED CARD OF 'laws.FnExactUnspend'. -/
def fnExactUnspendCard : Claim7 := { stood := { row := fnExactUnspendRow, standIns := [], harness := (true, "cf789ccee30d8c7751c07afb26cded9d166e86a83df2150abee6ad827b89483b"), looks := true }, kinds := [], alts := [], laidByText := true, laidKinds := [.sentinel, .sentinel, .sentinel, .sentinel, .sentinel], laidTests := true, laidLooks := .later }
def FnExactUnspendCardSaid : Prop := Claim7.holds Tryd.pinned (.plain (OpenSpec.ofChange fnExactUnspendSpec)) fnExactUnspendCard

/-- THE SECOND FORM's CARD OF 'laws.FnPurse'. -/
def fnPurseUptoCard : Claim7 := { stood := { row := fnPurseUptoRow, standIns := [], harness := (true, "cf789ccee30d8c7751c07afb26cded9d166e86a83df2150abee6ad827b89483b"), looks := true }, kinds := [], alts := [], laidByText := true, laidKinds := [.sentinel, .sentinel, .sentinel, .sentinel, .sentinel], laidTests := true, laidLooks := .later }
def FnPurseUptoCardSaid : Prop := Claim7.holds Tryd.pinned (.plain (OpenSpec.upto fnPurseSpec)) fnPurseUptoCard

/-- THE SECOND FORM's CARD OF 'laws.FnExactMint'. -/
def fnExactMintUptoCard : Claim7 := { stood := { row := fnExactMintUptoRow, standIns := [], harness := (true, "cf789ccee30d8c7751c07afb26cded9d166e86a83df2150abee6ad827b89483b"), looks := true }, kinds := [], alts := [], laidByText := true, laidKinds := [.sentinel, .sentinel, .sentinel, .sentinel, .sentinel], laidTests := true, laidLooks := .later }
def FnExactMintUptoCardSaid : Prop := Claim7.holds Tryd.pinned (.plain (OpenSpec.upto fnExactMintSpec)) fnExactMintUptoCard

/-- THE SECOND FORM's CARD OF 'laws.FnExactGain'. -/
def fnExactGainUptoCard : Claim7 := { stood := { row := fnExactGainUptoRow, standIns := [], harness := (true, "cf789ccee30d8c7751c07afb26cded9d166e86a83df2150abee6ad827b89483b"), looks := true }, kinds := [], alts := [], laidByText := true, laidKinds := [.sentinel, .sentinel, .sentinel, .sentinel, .sentinel], laidTests := true, laidLooks := .later }
def FnExactGainUptoCardSaid : Prop := Claim7.holds Tryd.pinned (.plain (OpenSpec.upto fnExactGainSpec)) fnExactGainUptoCard

/-- THE SECOND FORM's CARD OF 'laws.FnExactPart'. -/
def fnExactPartUptoCard : Claim7 := { stood := { row := fnExactPartUptoRow, standIns := [], harness := (true, "cf789ccee30d8c7751c07afb26cded9d166e86a83df2150abee6ad827b89483b"), looks := true }, kinds := [], alts := [], laidByText := true, laidKinds := [.sentinel, .sentinel, .sentinel, .sentinel, .sentinel], laidTests := true, laidLooks := .later }
def FnExactPartUptoCardSaid : Prop := Claim7.holds Tryd.pinned (.plain (OpenSpec.upto fnExactPartSpec)) fnExactPartUptoCard

/-- THE SECOND FORM's CARD OF 'laws.FnExactSpend'. -/
def fnExactSpendUptoCard : Claim7 := { stood := { row := fnExactSpendUptoRow, standIns := [], harness := (true, "cf789ccee30d8c7751c07afb26cded9d166e86a83df2150abee6ad827b89483b"), looks := true }, kinds := [], alts := [], laidByText := true, laidKinds := [.sentinel, .sentinel, .sentinel, .sentinel, .sentinel], laidTests := true, laidLooks := .later }
def FnExactSpendUptoCardSaid : Prop := Claim7.holds Tryd.pinned (.plain (OpenSpec.upto fnExactSpendSpec)) fnExactSpendUptoCard

/-- THE SECOND FORM's CARD OF 'laws.FnExactUnspend'. -/
def fnExactUnspendUptoCard : Claim7 := { stood := { row := fnExactUnspendUptoRow, standIns := [], harness := (true, "cf789ccee30d8c7751c07afb26cded9d166e86a83df2150abee6ad827b89483b"), looks := true }, kinds := [], alts := [], laidByText := true, laidKinds := [.sentinel, .sentinel, .sentinel, .sentinel, .sentinel], laidTests := true, laidLooks := .later }
def FnExactUnspendUptoCardSaid : Prop := Claim7.holds Tryd.pinned (.plain (OpenSpec.upto fnExactUnspendSpec)) fnExactUnspendUptoCard
end Rows
end Go.Proofs.YtdlhlfndobbocaaDoor
