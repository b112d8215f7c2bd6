/-
  No cell of these rows narrows 'for every input' (looked for: loops, veiled, ifaces, maps, wideKeys, modest, calm, conditions, laid).
  DERIVED. THE GIVEN ROWS OF THIS SEAT. 6 by the template 'for every input the law returns true; each argument reads behind the call as it read before'; 0 by the template 'total and deterministic' (their statements: YtjbcafkpcgehdaaTotals.lean).
  GIVEN WITH THE SEED: the statements are not yours to turn. If you find one false, say at which input.
  Laid BY PROGRAM, IN A SANDBOX (cutbox-rows.mjs): the forced cells as the released guide's own fill.sh prints them over the translation 02d5a48f07b6aa57… (all of the seat's roots in one cut). By AI agents, Wed Nov 11 2026. No macro, syntax, notation, axiom, sorry.
-/
import Derived.Test.YtjbcafkpcgehdaaChecked
import GoSem.Claim
import GoSem.ClaimJoined
import GoSem.ClaimMapViews
import Derived.JoinedTies
import Derived.KernelRfl
namespace Go.Proofs.Ytjbcafkpcgehdaa
/- THE CELL 'sum', in the pinned program and in every row, IS THE sha256 OF THE DUMP (.gsa) THAT YtjbcafkpcgehdaaProg.lean LOADS. Nothing in Lean hashes anything: it is a label: what it is worth is what the hold of that sum in a sandbox is worth. -/
noncomputable def Try.pinned : Pinned := { name := "ytjbcafkpcgehdaa", sum := "02d5a48f07b6aa5732ceedd503605c16ae371bb035ed8253e13984c4d10910eb", checked := Try.checked }
namespace Rows
def none {H : Type} : Left H := { results := [], args := [] }

/-- 'lathelaw04.PairParts': WHATEVER THE INPUT: true; the input reads as it did. -/
def pairPartsSpec : ChangeSpec := { name := "pairParts", fn := fun _ => fun
  | [d1, d2, d3] => { results := [.lit (.bool true)], args := [d1, d2, d3] }
  | _ => none }
def pairPartsRow : OpenClaim := { program := "ytjbcafkpcgehdaa", sum := "02d5a48f07b6aa5732ceedd503605c16ae371bb035ed8253e13984c4d10910eb", func := "lathe/lathelaw04.PairParts", spec := "pairParts", inPlace := ["math.Float32frombits", "math.Float32bits"], apart := false }
def PairPartsSaid : Prop := pairPartsRow.holds Try.pinned (OpenSpec.ofChange pairPartsSpec)

/-- ITS FALSE NEIGHBOUR: 'it returns false'. Refute it at one input. -/
def pairPartsWrong : ChangeSpec := { name := "pairParts", fn := fun _ => fun
  | [d1, d2, d3] => { results := [.lit (.bool false)], args := [d1, d2, d3] }
  | _ => none }
def PairPartsWrongFalsely : Prop := pairPartsRow.holds Try.pinned (OpenSpec.ofChange pairPartsWrong)

/-- 'lathelaw04.PairMuls': WHATEVER THE INPUT: true; the input reads as it did. -/
def pairMulsSpec : ChangeSpec := { name := "pairMuls", fn := fun _ => fun
  | [d1, d2] => { results := [.lit (.bool true)], args := [d1, d2] }
  | _ => none }
def pairMulsRow : OpenClaim := { program := "ytjbcafkpcgehdaa", sum := "02d5a48f07b6aa5732ceedd503605c16ae371bb035ed8253e13984c4d10910eb", func := "lathe/lathelaw04.PairMuls", spec := "pairMuls", inPlace := ["math.Float32frombits", "math.Float32bits"], apart := false }
def PairMulsSaid : Prop := pairMulsRow.holds Try.pinned (OpenSpec.ofChange pairMulsSpec)

/-- ITS FALSE NEIGHBOUR: 'it returns false'. Refute it at one input. -/
def pairMulsWrong : ChangeSpec := { name := "pairMuls", fn := fun _ => fun
  | [d1, d2] => { results := [.lit (.bool false)], args := [d1, d2] }
  | _ => none }
def PairMulsWrongFalsely : Prop := pairMulsRow.holds Try.pinned (OpenSpec.ofChange pairMulsWrong)

/-- 'lathelaw04.PairPowers': WHATEVER THE INPUT: true; the input reads as it did. -/
def pairPowersSpec : ChangeSpec := { name := "pairPowers", fn := fun _ => fun
  | [d1, d2] => { results := [.lit (.bool true)], args := [d1, d2] }
  | _ => none }
def pairPowersRow : OpenClaim := { program := "ytjbcafkpcgehdaa", sum := "02d5a48f07b6aa5732ceedd503605c16ae371bb035ed8253e13984c4d10910eb", func := "lathe/lathelaw04.PairPowers", spec := "pairPowers", inPlace := ["math.Float32frombits", "math.Float32bits"], apart := false }
def PairPowersSaid : Prop := pairPowersRow.holds Try.pinned (OpenSpec.ofChange pairPowersSpec)

/-- ITS FALSE NEIGHBOUR: 'it returns false'. Refute it at one input. -/
def pairPowersWrong : ChangeSpec := { name := "pairPowers", fn := fun _ => fun
  | [d1, d2] => { results := [.lit (.bool false)], args := [d1, d2] }
  | _ => none }
def PairPowersWrongFalsely : Prop := pairPowersRow.holds Try.pinned (OpenSpec.ofChange pairPowersWrong)

/-- 'lathelaw04.PairLists': WHATEVER THE INPUT: true; the input reads as it did. -/
def pairListsSpec : ChangeSpec := { name := "pairLists", fn := fun _ => fun
  | [d] => { results := [.lit (.bool true)], args := [d] }
  | _ => none }
def pairListsRow : OpenClaim := { program := "ytjbcafkpcgehdaa", sum := "02d5a48f07b6aa5732ceedd503605c16ae371bb035ed8253e13984c4d10910eb", func := "lathe/lathelaw04.PairLists", spec := "pairLists", inPlace := ["math.Float32frombits", "math.Float32bits"], apart := false }
def PairListsSaid : Prop := pairListsRow.holds Try.pinned (OpenSpec.ofChange pairListsSpec)

/-- ITS FALSE NEIGHBOUR: 'it returns false'. Refute it at one input. -/
def pairListsWrong : ChangeSpec := { name := "pairLists", fn := fun _ => fun
  | [d] => { results := [.lit (.bool false)], args := [d] }
  | _ => none }
def PairListsWrongFalsely : Prop := pairListsRow.holds Try.pinned (OpenSpec.ofChange pairListsWrong)

/-- 'lathelaw04.PairTurns': WHATEVER THE INPUT: true; the input reads as it did. -/
def pairTurnsSpec : ChangeSpec := { name := "pairTurns", fn := fun _ => fun
  | [d1, d2] => { results := [.lit (.bool true)], args := [d1, d2] }
  | _ => none }
def pairTurnsRow : OpenClaim := { program := "ytjbcafkpcgehdaa", sum := "02d5a48f07b6aa5732ceedd503605c16ae371bb035ed8253e13984c4d10910eb", func := "lathe/lathelaw04.PairTurns", spec := "pairTurns", inPlace := ["math.Float32frombits", "math.Float32bits"], apart := false }
def PairTurnsSaid : Prop := pairTurnsRow.holds Try.pinned (OpenSpec.ofChange pairTurnsSpec)

/-- ITS FALSE NEIGHBOUR: 'it returns false'. Refute it at one input. -/
def pairTurnsWrong : ChangeSpec := { name := "pairTurns", fn := fun _ => fun
  | [d1, d2] => { results := [.lit (.bool false)], args := [d1, d2] }
  | _ => none }
def PairTurnsWrongFalsely : Prop := pairTurnsRow.holds Try.pinned (OpenSpec.ofChange pairTurnsWrong)

/-- 'lathelaw04.PairGauss': WHATEVER THE INPUT: true; the input reads as it did. -/
def pairGaussSpec : ChangeSpec := { name := "pairGauss", fn := fun _ => fun
  | [d] => { results := [.lit (.bool true)], args := [d] }
  | _ => none }
def pairGaussRow : OpenClaim := { program := "ytjbcafkpcgehdaa", sum := "02d5a48f07b6aa5732ceedd503605c16ae371bb035ed8253e13984c4d10910eb", func := "lathe/lathelaw04.PairGauss", spec := "pairGauss", inPlace := ["math.Float32frombits", "math.Float32bits"], apart := false }
def PairGaussSaid : Prop := pairGaussRow.holds Try.pinned (OpenSpec.ofChange pairGaussSpec)

/-- ITS FALSE NEIGHBOUR: 'it returns false'. Refute it at one input. -/
def pairGaussWrong : ChangeSpec := { name := "pairGauss", fn := fun _ => fun
  | [d] => { results := [.lit (.bool false)], args := [d] }
  | _ => none }
def PairGaussWrongFalsely : Prop := pairGaussRow.holds Try.pinned (OpenSpec.ofChange pairGaussWrong)

/- THE SECOND FORM. 'bulk': how many values and letters a reading holds, each counted each time it is reached (what is shared counts as often as it is met; a slice's spare places count too). A statement '..UptoSaid' is the law's where the arguments, and the package variables that the reading takes, are together of bulk at most 1048576: NARROWER than '..Said'. Prove '..Said' where nothing that the law and all that it calls make is longer than what came in: it says more and counts as full. Else prove '..UptoSaid'. A law counts once. -/
mutual
def uptoBulk {H : Type} : DataW H → Nat
  | .lit (.string bytes) => bytes.length + 1
  | .lit _ => 1
  | .nil => 1
  | .ptr d => uptoBulk d + 1
  | .slice elems spare => uptoBulkAll elems + uptoBulkAll spare + 1
  | .agg parts => uptoBulkAll parts + 1
  | .iface _ d => uptoBulk d + 1
  | .map entries => uptoBulkEntries entries + 1
  | .held _ => 1
def uptoBulkAll {H : Type} : List (DataW H) → Nat
  | [] => 0
  | d :: r => uptoBulk d + uptoBulkAll r
def uptoBulkEntries {H : Type} : List (Lit × DataW H) → Nat
  | [] => 0
  | x :: r => uptoBulkEntry x + uptoBulkEntries r
def uptoBulkEntry {H : Type} : Lit × DataW H → Nat
  | (.string bytes, d) => bytes.length + uptoBulk d + 1
  | (_, d) => uptoBulk d + 1
 end
def uptoSmall : (H : Type) → List (DataW H) → Bool := fun _ ds => decide (uptoBulkAll ds ≤ 1048576)
def OpenSpec.upto (s : _root_.Go.ChangeSpec) : _root_.Go.OpenSpec := { _root_.Go.OpenSpec.ofChange s with cond := some uptoSmall }

/-- 'lathelaw04.PairParts', WHERE WHAT IT READS IS OF BULK AT MOST 1048576: true; the input reads as it did. -/
def pairPartsUptoRow : OpenClaim := { program := "ytjbcafkpcgehdaa", sum := "02d5a48f07b6aa5732ceedd503605c16ae371bb035ed8253e13984c4d10910eb", func := "lathe/lathelaw04.PairParts", spec := "pairParts", inPlace := ["math.Float32frombits", "math.Float32bits"], apart := false, narrowed := true }
def PairPartsUptoSaid : Prop := pairPartsUptoRow.holds Try.pinned (OpenSpec.upto pairPartsSpec)

/-- 'lathelaw04.PairMuls', WHERE WHAT IT READS IS OF BULK AT MOST 1048576: true; the input reads as it did. -/
def pairMulsUptoRow : OpenClaim := { program := "ytjbcafkpcgehdaa", sum := "02d5a48f07b6aa5732ceedd503605c16ae371bb035ed8253e13984c4d10910eb", func := "lathe/lathelaw04.PairMuls", spec := "pairMuls", inPlace := ["math.Float32frombits", "math.Float32bits"], apart := false, narrowed := true }
def PairMulsUptoSaid : Prop := pairMulsUptoRow.holds Try.pinned (OpenSpec.upto pairMulsSpec)

/-- 'lathelaw04.PairPowers', WHERE WHAT IT READS IS OF BULK AT MOST 1048576: true; the input reads as it did. -/
def pairPowersUptoRow : OpenClaim := { program := "ytjbcafkpcgehdaa", sum := "02d5a48f07b6aa5732ceedd503605c16ae371bb035ed8253e13984c4d10910eb", func := "lathe/lathelaw04.PairPowers", spec := "pairPowers", inPlace := ["math.Float32frombits", "math.Float32bits"], apart := false, narrowed := true }
def PairPowersUptoSaid : Prop := pairPowersUptoRow.holds Try.pinned (OpenSpec.upto pairPowersSpec)

/-- 'lathelaw04.PairLists', WHERE WHAT IT READS IS OF BULK AT MOST 1048576: true; the input reads as it did. -/
def pairListsUptoRow : OpenClaim := { program := "ytjbcafkpcgehdaa", sum := "02d5a48f07b6aa5732ceedd503605c16ae371bb035ed8253e13984c4d10910eb", func := "lathe/lathelaw04.PairLists", spec := "pairLists", inPlace := ["math.Float32frombits", "math.Float32bits"], apart := false, narrowed := true }
def PairListsUptoSaid : Prop := pairListsUptoRow.holds Try.pinned (OpenSpec.upto pairListsSpec)

/-- 'lathelaw04.PairTurns', WHERE WHAT IT READS IS OF BULK AT MOST 1048576: true; the input reads as it did. -/
def pairTurnsUptoRow : OpenClaim := { program := "ytjbcafkpcgehdaa", sum := "02d5a48f07b6aa5732ceedd503605c16ae371bb035ed8253e13984c4d10910eb", func := "lathe/lathelaw04.PairTurns", spec := "pairTurns", inPlace := ["math.Float32frombits", "math.Float32bits"], apart := false, narrowed := true }
def PairTurnsUptoSaid : Prop := pairTurnsUptoRow.holds Try.pinned (OpenSpec.upto pairTurnsSpec)

/-- 'lathelaw04.PairGauss', WHERE WHAT IT READS IS OF BULK AT MOST 1048576: true; the input reads as it did. -/
def pairGaussUptoRow : OpenClaim := { program := "ytjbcafkpcgehdaa", sum := "02d5a48f07b6aa5732ceedd503605c16ae371bb035ed8253e13984c4d10910eb", func := "lathe/lathelaw04.PairGauss", spec := "pairGauss", inPlace := ["math.Float32frombits", "math.Float32bits"], apart := false, narrowed := true }
def PairGaussUptoSaid : Prop := pairGaussUptoRow.holds Try.pinned (OpenSpec.upto pairGaussSpec)

end Rows
end Go.Proofs.Ytjbcafkpcgehdaa
