/-
  DERIVED. GIVEN WITH THE SEED: THE CARDS: each row of YtjlpkjblkllfbaaGreatDoorRows.lean that lists a variable, with what it lists TIED to the program's text (the seventh form; the later family's looks); each row that meets fmt, with fmt's text TOLD by the authors' own Lean function (tested against real Go, not proved from fmt's source: count such statements apart). THE CARD IS WHAT COUNTS. Prove the row's statement (the work); the ties are given (YtjlpkjblkllfbaaGreatDoorTie.lean); close each card by the builder's one call (the guide's Derived/Test/ToyasCard.lean, 'card_holds'). Laid BY PROGRAM, IN A SANDBOX (cutbox-door.mjs). By AI agents, Wed Nov 11 2026. No macro, syntax, notation, axiom, sorry.
-/
import Derived.Test.YtjlpkjblkllfbaaGreatDoorRows
import GoSem.ClaimSeven
namespace Go.Proofs.YtjlpkjblkllfbaaGreatDoor
namespace Rows

/-- THE TIED CARD OF 'lathelaw25.AsmParses'. -/
def asmParsesCard : Claim7 := { stood := { row := asmParsesRow, standIns := [], harness := (true, "3142d5b10200b1eda2aa03402918c551eef3b4515cd48085b2fdf325bf9d734f"), looks := true }, kinds := [], alts := [], laidByText := true, laidKinds := [.data, .data, .data, .sentinel, .sentinel], laidTests := true, laidLooks := .later }
def AsmParsesCardSaid : Prop := Claim7.holds Tryz.pinned (.plain (OpenSpec.ofChange asmParsesSpec)) asmParsesCard

/-- THE TIED CARD OF 'lathelaw25.AsmOwn'. -/
def asmOwnCard : Claim7 := { stood := { row := asmOwnRow, standIns := [], harness := (true, "3142d5b10200b1eda2aa03402918c551eef3b4515cd48085b2fdf325bf9d734f"), looks := true }, kinds := [], alts := [], laidByText := true, laidKinds := [.data, .data, .data, .sentinel, .sentinel], laidTests := true, laidLooks := .later }
def AsmOwnCardSaid : Prop := Claim7.holds Tryz.pinned (.plain (OpenSpec.ofChange asmOwnSpec)) asmOwnCard

/-- THE SECOND FORM's CARD OF 'lathelaw25.AsmParses'. -/
def asmParsesUptoCard : Claim7 := { stood := { row := asmParsesUptoRow, standIns := [], harness := (true, "3142d5b10200b1eda2aa03402918c551eef3b4515cd48085b2fdf325bf9d734f"), looks := true }, kinds := [], alts := [], laidByText := true, laidKinds := [.data, .data, .data, .sentinel, .sentinel], laidTests := true, laidLooks := .later }
def AsmParsesUptoCardSaid : Prop := Claim7.holds Tryz.pinned (.plain (OpenSpec.upto asmParsesSpec)) asmParsesUptoCard

/-- THE SECOND FORM's CARD OF 'lathelaw25.AsmOwn'. -/
def asmOwnUptoCard : Claim7 := { stood := { row := asmOwnUptoRow, standIns := [], harness := (true, "3142d5b10200b1eda2aa03402918c551eef3b4515cd48085b2fdf325bf9d734f"), looks := true }, kinds := [], alts := [], laidByText := true, laidKinds := [.data, .data, .data, .sentinel, .sentinel], laidTests := true, laidLooks := .later }
def AsmOwnUptoCardSaid : Prop := Claim7.holds Tryz.pinned (.plain (OpenSpec.upto asmOwnSpec)) asmOwnUptoCard
end Rows
end Go.Proofs.YtjlpkjblkllfbaaGreatDoor
