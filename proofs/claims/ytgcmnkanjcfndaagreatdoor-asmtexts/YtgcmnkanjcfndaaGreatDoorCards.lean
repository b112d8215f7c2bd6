/-
  DERIVED. GIVEN WITH THE SEED: THE CARDS: each row of YtgcmnkanjcfndaaGreatDoorRows.lean that lists a variable, with what it lists TIED to the program's text (the seventh form; the later family's looks); each row that meets fmt, with fmt's text TOLD by the authors' own Lean function (tested against real Go, not proved from fmt's source: count such statements apart). THE CARD IS WHAT COUNTS. Prove the row's statement (the work); the ties are given (YtgcmnkanjcfndaaGreatDoorTie.lean); close each card by the builder's one call (the guide's Derived/Test/ToyasCard.lean, 'card_holds'). Laid BY PROGRAM, IN A SANDBOX (cutbox-door.mjs). By AI agents, Wed Nov 11 2026. No macro, syntax, notation, axiom, sorry.
-/
import Derived.Test.YtgcmnkanjcfndaaGreatDoorRows
import GoSem.ClaimSeven
namespace Go.Proofs.YtgcmnkanjcfndaaGreatDoor
namespace Rows

/-- THE TIED CARD OF 'lathelaw25.AsmTexts'. -/
def asmTextsCard : Claim7 := { stood := { row := asmTextsRow, standIns := [], harness := (true, "32d5f5916033f305f130ad774028c2500e072b92fd6d1edca4dcbba9fe0e8175"), looks := true }, kinds := [], alts := [], laidByText := true, laidKinds := [.data, .data, .data, .sentinel, .sentinel], laidTests := true, laidLooks := .later }
def AsmTextsCardSaid : Prop := Claim7.holds Tryz.pinned (.plain (OpenSpec.ofChange asmTextsSpec)) asmTextsCard

/-- THE TIED CARD OF 'lathelaw25.AsmParses'. -/
def asmParsesCard : Claim7 := { stood := { row := asmParsesRow, standIns := [], harness := (true, "32d5f5916033f305f130ad774028c2500e072b92fd6d1edca4dcbba9fe0e8175"), looks := true }, kinds := [], alts := [], laidByText := true, laidKinds := [.data, .data, .data, .sentinel, .sentinel], laidTests := true, laidLooks := .later }
def AsmParsesCardSaid : Prop := Claim7.holds Tryz.pinned (.plain (OpenSpec.ofChange asmParsesSpec)) asmParsesCard

/-- THE TIED CARD OF 'lathelaw25.AsmBack'. -/
def asmBackCard : Claim7 := { stood := { row := asmBackRow, standIns := [], harness := (true, "32d5f5916033f305f130ad774028c2500e072b92fd6d1edca4dcbba9fe0e8175"), looks := true }, kinds := [], alts := [], laidByText := true, laidKinds := [.data, .data, .data, .sentinel, .sentinel], laidTests := true, laidLooks := .later }
def AsmBackCardSaid : Prop := Claim7.holds Tryz.pinned (.plain (OpenSpec.ofChange asmBackSpec)) asmBackCard

/-- THE TIED CARD OF 'lathelaw25.AsmForth'. -/
def asmForthCard : Claim7 := { stood := { row := asmForthRow, standIns := [], harness := (true, "32d5f5916033f305f130ad774028c2500e072b92fd6d1edca4dcbba9fe0e8175"), looks := true }, kinds := [], alts := [], laidByText := true, laidKinds := [.data, .data, .data, .sentinel, .sentinel], laidTests := true, laidLooks := .later }
def AsmForthCardSaid : Prop := Claim7.holds Tryz.pinned (.plain (OpenSpec.ofChange asmForthSpec)) asmForthCard

/-- THE TIED CARD OF 'lathelaw25.AsmOwn'. -/
def asmOwnCard : Claim7 := { stood := { row := asmOwnRow, standIns := [], harness := (true, "32d5f5916033f305f130ad774028c2500e072b92fd6d1edca4dcbba9fe0e8175"), looks := true }, kinds := [], alts := [], laidByText := true, laidKinds := [.data, .data, .data, .sentinel, .sentinel], laidTests := true, laidLooks := .later }
def AsmOwnCardSaid : Prop := Claim7.holds Tryz.pinned (.plain (OpenSpec.ofChange asmOwnSpec)) asmOwnCard

/-- THE SECOND FORM's CARD OF 'lathelaw25.AsmTexts'. -/
def asmTextsUptoCard : Claim7 := { stood := { row := asmTextsUptoRow, standIns := [], harness := (true, "32d5f5916033f305f130ad774028c2500e072b92fd6d1edca4dcbba9fe0e8175"), looks := true }, kinds := [], alts := [], laidByText := true, laidKinds := [.data, .data, .data, .sentinel, .sentinel], laidTests := true, laidLooks := .later }
def AsmTextsUptoCardSaid : Prop := Claim7.holds Tryz.pinned (.plain (OpenSpec.upto asmTextsSpec)) asmTextsUptoCard

/-- THE SECOND FORM's CARD OF 'lathelaw25.AsmParses'. -/
def asmParsesUptoCard : Claim7 := { stood := { row := asmParsesUptoRow, standIns := [], harness := (true, "32d5f5916033f305f130ad774028c2500e072b92fd6d1edca4dcbba9fe0e8175"), looks := true }, kinds := [], alts := [], laidByText := true, laidKinds := [.data, .data, .data, .sentinel, .sentinel], laidTests := true, laidLooks := .later }
def AsmParsesUptoCardSaid : Prop := Claim7.holds Tryz.pinned (.plain (OpenSpec.upto asmParsesSpec)) asmParsesUptoCard

/-- THE SECOND FORM's CARD OF 'lathelaw25.AsmBack'. -/
def asmBackUptoCard : Claim7 := { stood := { row := asmBackUptoRow, standIns := [], harness := (true, "32d5f5916033f305f130ad774028c2500e072b92fd6d1edca4dcbba9fe0e8175"), looks := true }, kinds := [], alts := [], laidByText := true, laidKinds := [.data, .data, .data, .sentinel, .sentinel], laidTests := true, laidLooks := .later }
def AsmBackUptoCardSaid : Prop := Claim7.holds Tryz.pinned (.plain (OpenSpec.upto asmBackSpec)) asmBackUptoCard

/-- THE SECOND FORM's CARD OF 'lathelaw25.AsmForth'. -/
def asmForthUptoCard : Claim7 := { stood := { row := asmForthUptoRow, standIns := [], harness := (true, "32d5f5916033f305f130ad774028c2500e072b92fd6d1edca4dcbba9fe0e8175"), looks := true }, kinds := [], alts := [], laidByText := true, laidKinds := [.data, .data, .data, .sentinel, .sentinel], laidTests := true, laidLooks := .later }
def AsmForthUptoCardSaid : Prop := Claim7.holds Tryz.pinned (.plain (OpenSpec.upto asmForthSpec)) asmForthUptoCard

/-- THE SECOND FORM's CARD OF 'lathelaw25.AsmOwn'. -/
def asmOwnUptoCard : Claim7 := { stood := { row := asmOwnUptoRow, standIns := [], harness := (true, "32d5f5916033f305f130ad774028c2500e072b92fd6d1edca4dcbba9fe0e8175"), looks := true }, kinds := [], alts := [], laidByText := true, laidKinds := [.data, .data, .data, .sentinel, .sentinel], laidTests := true, laidLooks := .later }
def AsmOwnUptoCardSaid : Prop := Claim7.holds Tryz.pinned (.plain (OpenSpec.upto asmOwnSpec)) asmOwnUptoCard
end Rows
end Go.Proofs.YtgcmnkanjcfndaaGreatDoor
