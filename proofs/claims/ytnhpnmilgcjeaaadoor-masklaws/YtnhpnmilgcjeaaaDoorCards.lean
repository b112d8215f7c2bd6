/-
  DERIVED. GIVEN WITH THE SEED: THE CARDS: each row of YtnhpnmilgcjeaaaDoorRows.lean that lists a variable, with what it lists TIED to the program's text (the seventh form; the later family's looks); each row that meets fmt, with fmt's text TOLD by the authors' own Lean function (tested against real Go, not proved from fmt's source: count such statements apart). THE CARD IS WHAT COUNTS. Prove the row's statement (the work); the ties are given (YtnhpnmilgcjeaaaDoorTie.lean); close each card by the builder's one call (the guide's Derived/Test/ToyasCard.lean, 'card_holds'). Laid BY PROGRAM, IN A SANDBOX (cutbox-door.mjs). By AI agents, Wed Nov 11 2026. No macro, syntax, notation, axiom, sorry.
-/
import Derived.Test.YtnhpnmilgcjeaaaDoorRows
import GoSem.ClaimSeven
namespace Go.Proofs.YtnhpnmilgcjeaaaDoor
namespace Rows

/-- THE TIED CARD OF 'lathelaw11.MaskMatches'. -/
def maskMatchesCard : Claim7 := { stood := { row := maskMatchesRow, standIns := [], harness := (true, "79048b3e8c8e5d230ff5bd52332db04fe714f05b54461bbc7e79274afedabf79"), looks := false }, kinds := [], alts := [], laidByText := true, laidKinds := [.data, .pinned], laidTests := true, laidLooks := .later }
def MaskMatchesCardSaid : Prop := Claim7.holds Tryd.pinned (.plain (OpenSpec.ofChange maskMatchesSpec)) maskMatchesCard

/-- THE TIED CARD OF 'lathelaw11.MaskParts'. -/
def maskPartsCard : Claim7 := { stood := { row := maskPartsRow, standIns := [], harness := (true, "79048b3e8c8e5d230ff5bd52332db04fe714f05b54461bbc7e79274afedabf79"), looks := false }, kinds := [], alts := [], laidByText := true, laidKinds := [.data, .pinned], laidTests := true, laidLooks := .later }
def MaskPartsCardSaid : Prop := Claim7.holds Tryd.pinned (.plain (OpenSpec.ofChange maskPartsSpec)) maskPartsCard

/-- THE TIED CARD OF 'lathelaw11.MaskSets'. -/
def maskSetsCard : Claim7 := { stood := { row := maskSetsRow, standIns := [], harness := (true, "79048b3e8c8e5d230ff5bd52332db04fe714f05b54461bbc7e79274afedabf79"), looks := false }, kinds := [], alts := [], laidByText := true, laidKinds := [.data, .pinned], laidTests := true, laidLooks := .later }
def MaskSetsCardSaid : Prop := Claim7.holds Tryd.pinned (.plain (OpenSpec.ofChange maskSetsSpec)) maskSetsCard

/-- THE TIED CARD OF 'lathelaw11.MaskLaws'. -/
def maskLawsCard : Claim7 := { stood := { row := maskLawsRow, standIns := [], harness := (true, "79048b3e8c8e5d230ff5bd52332db04fe714f05b54461bbc7e79274afedabf79"), looks := false }, kinds := [], alts := [], laidByText := true, laidKinds := [.data, .pinned], laidTests := true, laidLooks := .later }
def MaskLawsCardSaid : Prop := Claim7.holds Tryd.pinned (.plain (OpenSpec.ofChange maskLawsSpec)) maskLawsCard

/-- THE TIED CARD OF 'lathelaw11.MaskOwn'. -/
def maskOwnCard : Claim7 := { stood := { row := maskOwnRow, standIns := [], harness := (true, "79048b3e8c8e5d230ff5bd52332db04fe714f05b54461bbc7e79274afedabf79"), looks := false }, kinds := [], alts := [], laidByText := true, laidKinds := [.data, .pinned], laidTests := true, laidLooks := .later }
def MaskOwnCardSaid : Prop := Claim7.holds Tryd.pinned (.plain (OpenSpec.ofChange maskOwnSpec)) maskOwnCard

/-- THE SECOND FORM's CARD OF 'lathelaw11.MaskMatches'. -/
def maskMatchesUptoCard : Claim7 := { stood := { row := maskMatchesUptoRow, standIns := [], harness := (true, "79048b3e8c8e5d230ff5bd52332db04fe714f05b54461bbc7e79274afedabf79"), looks := false }, kinds := [], alts := [], laidByText := true, laidKinds := [.data, .pinned], laidTests := true, laidLooks := .later }
def MaskMatchesUptoCardSaid : Prop := Claim7.holds Tryd.pinned (.plain (OpenSpec.upto maskMatchesSpec)) maskMatchesUptoCard

/-- THE SECOND FORM's CARD OF 'lathelaw11.MaskParts'. -/
def maskPartsUptoCard : Claim7 := { stood := { row := maskPartsUptoRow, standIns := [], harness := (true, "79048b3e8c8e5d230ff5bd52332db04fe714f05b54461bbc7e79274afedabf79"), looks := false }, kinds := [], alts := [], laidByText := true, laidKinds := [.data, .pinned], laidTests := true, laidLooks := .later }
def MaskPartsUptoCardSaid : Prop := Claim7.holds Tryd.pinned (.plain (OpenSpec.upto maskPartsSpec)) maskPartsUptoCard

/-- THE SECOND FORM's CARD OF 'lathelaw11.MaskSets'. -/
def maskSetsUptoCard : Claim7 := { stood := { row := maskSetsUptoRow, standIns := [], harness := (true, "79048b3e8c8e5d230ff5bd52332db04fe714f05b54461bbc7e79274afedabf79"), looks := false }, kinds := [], alts := [], laidByText := true, laidKinds := [.data, .pinned], laidTests := true, laidLooks := .later }
def MaskSetsUptoCardSaid : Prop := Claim7.holds Tryd.pinned (.plain (OpenSpec.upto maskSetsSpec)) maskSetsUptoCard

/-- THE SECOND FORM's CARD OF 'lathelaw11.MaskLaws'. -/
def maskLawsUptoCard : Claim7 := { stood := { row := maskLawsUptoRow, standIns := [], harness := (true, "79048b3e8c8e5d230ff5bd52332db04fe714f05b54461bbc7e79274afedabf79"), looks := false }, kinds := [], alts := [], laidByText := true, laidKinds := [.data, .pinned], laidTests := true, laidLooks := .later }
def MaskLawsUptoCardSaid : Prop := Claim7.holds Tryd.pinned (.plain (OpenSpec.upto maskLawsSpec)) maskLawsUptoCard

/-- THE SECOND FORM's CARD OF 'lathelaw11.MaskOwn'. -/
def maskOwnUptoCard : Claim7 := { stood := { row := maskOwnUptoRow, standIns := [], harness := (true, "79048b3e8c8e5d230ff5bd52332db04fe714f05b54461bbc7e79274afedabf79"), looks := false }, kinds := [], alts := [], laidByText := true, laidKinds := [.data, .pinned], laidTests := true, laidLooks := .later }
def MaskOwnUptoCardSaid : Prop := Claim7.holds Tryd.pinned (.plain (OpenSpec.upto maskOwnSpec)) maskOwnUptoCard
end Rows
end Go.Proofs.YtnhpnmilgcjeaaaDoor
