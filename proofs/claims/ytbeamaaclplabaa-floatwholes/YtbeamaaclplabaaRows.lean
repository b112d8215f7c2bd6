/-
  No cell of these rows narrows 'for every input' (looked for: loops, veiled, ifaces, maps, wideKeys, modest, calm, conditions, laid).
  DERIVED. THE GIVEN ROWS OF THIS SEAT. 6 by the template 'for every input the law returns true; each argument reads behind the call as it read before'; 0 by the template 'total and deterministic' (their statements: YtbeamaaclplabaaTotals.lean).
  GIVEN WITH THE SEED: the statements are not yours to turn. If you find one false, say at which input.
  Laid BY PROGRAM, IN A SANDBOX (cutbox-rows.mjs): the forced cells as the released guide's own fill.sh prints them over the translation c4e09b4fe0060614… (all of the seat's roots in one cut). By AI agents, Wed Nov 11 2026. No macro, syntax, notation, axiom, sorry.
-/
import Derived.Test.YtbeamaaclplabaaChecked
import GoSem.Claim
import GoSem.ClaimJoined
import GoSem.ClaimMapViews
import Derived.JoinedTies
import Derived.KernelRfl
namespace Go.Proofs.Ytbeamaaclplabaa
/- THE CELL 'sum', in the pinned program and in every row, IS THE sha256 OF THE DUMP (.gsa) THAT YtbeamaaclplabaaProg.lean LOADS. Nothing in Lean hashes anything: it is a label: what it is worth is what the hold of that sum in a sandbox is worth. -/
noncomputable def Try.pinned : Pinned := { name := "ytbeamaaclplabaa", sum := "c4e09b4fe006061493334e9d99115793ad02f1c51c78c9f69ab8231a28a79da5", checked := Try.checked }
namespace Rows
def none {H : Type} : Left H := { results := [], args := [] }

/-- 'lathelaw02.FloatAdds': WHATEVER THE INPUT: true; the input reads as it did. -/
def floatAddsSpec : ChangeSpec := { name := "floatAdds", fn := fun _ => fun
  | [d1, d2] => { results := [.lit (.bool true)], args := [d1, d2] }
  | _ => none }
def floatAddsRow : OpenClaim := { program := "ytbeamaaclplabaa", sum := "c4e09b4fe006061493334e9d99115793ad02f1c51c78c9f69ab8231a28a79da5", func := "lathe/lathelaw02.FloatAdds", spec := "floatAdds", inPlace := ["math.Float32frombits", "math.Float32bits", "math.sqrt"], apart := false }
def FloatAddsSaid : Prop := floatAddsRow.holds Try.pinned (OpenSpec.ofChange floatAddsSpec)

/-- ITS FALSE NEIGHBOUR: 'it returns false'. Refute it at one input. -/
def floatAddsWrong : ChangeSpec := { name := "floatAdds", fn := fun _ => fun
  | [d1, d2] => { results := [.lit (.bool false)], args := [d1, d2] }
  | _ => none }
def FloatAddsWrongFalsely : Prop := floatAddsRow.holds Try.pinned (OpenSpec.ofChange floatAddsWrong)

/-- 'lathelaw02.FloatMuls': WHATEVER THE INPUT: true; the input reads as it did. -/
def floatMulsSpec : ChangeSpec := { name := "floatMuls", fn := fun _ => fun
  | [d1, d2] => { results := [.lit (.bool true)], args := [d1, d2] }
  | _ => none }
def floatMulsRow : OpenClaim := { program := "ytbeamaaclplabaa", sum := "c4e09b4fe006061493334e9d99115793ad02f1c51c78c9f69ab8231a28a79da5", func := "lathe/lathelaw02.FloatMuls", spec := "floatMuls", inPlace := ["math.Float32frombits", "math.Float32bits", "math.sqrt"], apart := false }
def FloatMulsSaid : Prop := floatMulsRow.holds Try.pinned (OpenSpec.ofChange floatMulsSpec)

/-- ITS FALSE NEIGHBOUR: 'it returns false'. Refute it at one input. -/
def floatMulsWrong : ChangeSpec := { name := "floatMuls", fn := fun _ => fun
  | [d1, d2] => { results := [.lit (.bool false)], args := [d1, d2] }
  | _ => none }
def FloatMulsWrongFalsely : Prop := floatMulsRow.holds Try.pinned (OpenSpec.ofChange floatMulsWrong)

/-- 'lathelaw02.FloatDivs': WHATEVER THE INPUT: true; the input reads as it did. -/
def floatDivsSpec : ChangeSpec := { name := "floatDivs", fn := fun _ => fun
  | [d1, d2] => { results := [.lit (.bool true)], args := [d1, d2] }
  | _ => none }
def floatDivsRow : OpenClaim := { program := "ytbeamaaclplabaa", sum := "c4e09b4fe006061493334e9d99115793ad02f1c51c78c9f69ab8231a28a79da5", func := "lathe/lathelaw02.FloatDivs", spec := "floatDivs", inPlace := ["math.Float32frombits", "math.Float32bits", "math.sqrt"], apart := false }
def FloatDivsSaid : Prop := floatDivsRow.holds Try.pinned (OpenSpec.ofChange floatDivsSpec)

/-- ITS FALSE NEIGHBOUR: 'it returns false'. Refute it at one input. -/
def floatDivsWrong : ChangeSpec := { name := "floatDivs", fn := fun _ => fun
  | [d1, d2] => { results := [.lit (.bool false)], args := [d1, d2] }
  | _ => none }
def FloatDivsWrongFalsely : Prop := floatDivsRow.holds Try.pinned (OpenSpec.ofChange floatDivsWrong)

/-- 'lathelaw02.FloatRoots': WHATEVER THE INPUT: true; the input reads as it did. -/
def floatRootsSpec : ChangeSpec := { name := "floatRoots", fn := fun _ => fun
  | [d] => { results := [.lit (.bool true)], args := [d] }
  | _ => none }
def floatRootsRow : OpenClaim := { program := "ytbeamaaclplabaa", sum := "c4e09b4fe006061493334e9d99115793ad02f1c51c78c9f69ab8231a28a79da5", func := "lathe/lathelaw02.FloatRoots", spec := "floatRoots", inPlace := ["math.Float32frombits", "math.sqrt", "math.Float32bits"], apart := false }
def FloatRootsSaid : Prop := floatRootsRow.holds Try.pinned (OpenSpec.ofChange floatRootsSpec)

/-- ITS FALSE NEIGHBOUR: 'it returns false'. Refute it at one input. -/
def floatRootsWrong : ChangeSpec := { name := "floatRoots", fn := fun _ => fun
  | [d] => { results := [.lit (.bool false)], args := [d] }
  | _ => none }
def FloatRootsWrongFalsely : Prop := floatRootsRow.holds Try.pinned (OpenSpec.ofChange floatRootsWrong)

/-- 'lathelaw02.FloatOrders': WHATEVER THE INPUT: true; the input reads as it did. -/
def floatOrdersSpec : ChangeSpec := { name := "floatOrders", fn := fun _ => fun
  | [d1, d2, d3] => { results := [.lit (.bool true)], args := [d1, d2, d3] }
  | _ => none }
def floatOrdersRow : OpenClaim := { program := "ytbeamaaclplabaa", sum := "c4e09b4fe006061493334e9d99115793ad02f1c51c78c9f69ab8231a28a79da5", func := "lathe/lathelaw02.FloatOrders", spec := "floatOrders", inPlace := ["math.Float32frombits", "math.Float32bits", "math.sqrt"], apart := false }
def FloatOrdersSaid : Prop := floatOrdersRow.holds Try.pinned (OpenSpec.ofChange floatOrdersSpec)

/-- ITS FALSE NEIGHBOUR: 'it returns false'. Refute it at one input. -/
def floatOrdersWrong : ChangeSpec := { name := "floatOrders", fn := fun _ => fun
  | [d1, d2, d3] => { results := [.lit (.bool false)], args := [d1, d2, d3] }
  | _ => none }
def FloatOrdersWrongFalsely : Prop := floatOrdersRow.holds Try.pinned (OpenSpec.ofChange floatOrdersWrong)

/-- 'lathelaw02.FloatWholes': WHATEVER THE INPUT: true; the input reads as it did. -/
def floatWholesSpec : ChangeSpec := { name := "floatWholes", fn := fun _ => fun
  | [d1, d2] => { results := [.lit (.bool true)], args := [d1, d2] }
  | _ => none }
def floatWholesRow : OpenClaim := { program := "ytbeamaaclplabaa", sum := "c4e09b4fe006061493334e9d99115793ad02f1c51c78c9f69ab8231a28a79da5", func := "lathe/lathelaw02.FloatWholes", spec := "floatWholes", inPlace := ["math.Float32bits", "math.Float32frombits", "math.sqrt"], apart := false }
def FloatWholesSaid : Prop := floatWholesRow.holds Try.pinned (OpenSpec.ofChange floatWholesSpec)

/-- ITS FALSE NEIGHBOUR: 'it returns false'. Refute it at one input. -/
def floatWholesWrong : ChangeSpec := { name := "floatWholes", fn := fun _ => fun
  | [d1, d2] => { results := [.lit (.bool false)], args := [d1, d2] }
  | _ => none }
def FloatWholesWrongFalsely : Prop := floatWholesRow.holds Try.pinned (OpenSpec.ofChange floatWholesWrong)

/- THE SECOND FORM. 'bulk': how many values and letters a reading holds, each counted each time it is reached (what is shared counts as often as it is met; a slice's spare places count too). A statement '..UptoSaid' is the law's where the arguments, and the package variables that the reading takes, are together of bulk at most 1048576: NARROWER than '..Said'. Prove '..Said' where nothing that the law and all that it calls make is longer than what came in: it says more and counts as full. Else prove '..UptoSaid'. A law counts once. -/
mutual
def uptoBulk {H : Type} : DataW H → Nat
  | .lit (.string bytes) => bytes.length + 1
  | .lit _ => 1
  | .nil => 1
  | .ptr d => uptoBulk d + 1
  | .slice elems spare => uptoBulkAll elems + uptoBulkAll spare + 1
  | .agg parts => uptoBulkAll parts + 1
  | .iface _ d => uptoBulk d + 1
  | .map entries => uptoBulkEntries entries + 1
  | .held _ => 1
def uptoBulkAll {H : Type} : List (DataW H) → Nat
  | [] => 0
  | d :: r => uptoBulk d + uptoBulkAll r
def uptoBulkEntries {H : Type} : List (Lit × DataW H) → Nat
  | [] => 0
  | x :: r => uptoBulkEntry x + uptoBulkEntries r
def uptoBulkEntry {H : Type} : Lit × DataW H → Nat
  | (.string bytes, d) => bytes.length + uptoBulk d + 1
  | (_, d) => uptoBulk d + 1
 end
def uptoSmall : (H : Type) → List (DataW H) → Bool := fun _ ds => decide (uptoBulkAll ds ≤ 1048576)
def OpenSpec.upto (s : _root_.Go.ChangeSpec) : _root_.Go.OpenSpec := { _root_.Go.OpenSpec.ofChange s with cond := some uptoSmall }

/-- 'lathelaw02.FloatAdds', WHERE WHAT IT READS IS OF BULK AT MOST 1048576: true; the input reads as it did. -/
def floatAddsUptoRow : OpenClaim := { program := "ytbeamaaclplabaa", sum := "c4e09b4fe006061493334e9d99115793ad02f1c51c78c9f69ab8231a28a79da5", func := "lathe/lathelaw02.FloatAdds", spec := "floatAdds", inPlace := ["math.Float32frombits", "math.Float32bits", "math.sqrt"], apart := false, narrowed := true }
def FloatAddsUptoSaid : Prop := floatAddsUptoRow.holds Try.pinned (OpenSpec.upto floatAddsSpec)

/-- 'lathelaw02.FloatMuls', WHERE WHAT IT READS IS OF BULK AT MOST 1048576: true; the input reads as it did. -/
def floatMulsUptoRow : OpenClaim := { program := "ytbeamaaclplabaa", sum := "c4e09b4fe006061493334e9d99115793ad02f1c51c78c9f69ab8231a28a79da5", func := "lathe/lathelaw02.FloatMuls", spec := "floatMuls", inPlace := ["math.Float32frombits", "math.Float32bits", "math.sqrt"], apart := false, narrowed := true }
def FloatMulsUptoSaid : Prop := floatMulsUptoRow.holds Try.pinned (OpenSpec.upto floatMulsSpec)

/-- 'lathelaw02.FloatDivs', WHERE WHAT IT READS IS OF BULK AT MOST 1048576: true; the input reads as it did. -/
def floatDivsUptoRow : OpenClaim := { program := "ytbeamaaclplabaa", sum := "c4e09b4fe006061493334e9d99115793ad02f1c51c78c9f69ab8231a28a79da5", func := "lathe/lathelaw02.FloatDivs", spec := "floatDivs", inPlace := ["math.Float32frombits", "math.Float32bits", "math.sqrt"], apart := false, narrowed := true }
def FloatDivsUptoSaid : Prop := floatDivsUptoRow.holds Try.pinned (OpenSpec.upto floatDivsSpec)

/-- 'lathelaw02.FloatRoots', WHERE WHAT IT READS IS OF BULK AT MOST 1048576: true; the input reads as it did. -/
def floatRootsUptoRow : OpenClaim := { program := "ytbeamaaclplabaa", sum := "c4e09b4fe006061493334e9d99115793ad02f1c51c78c9f69ab8231a28a79da5", func := "lathe/lathelaw02.FloatRoots", spec := "floatRoots", inPlace := ["math.Float32frombits", "math.sqrt", "math.Float32bits"], apart := false, narrowed := true }
def FloatRootsUptoSaid : Prop := floatRootsUptoRow.holds Try.pinned (OpenSpec.upto floatRootsSpec)

/-- 'lathelaw02.FloatOrders', WHERE WHAT IT READS IS OF BULK AT MOST 1048576: true; the input reads as it did. -/
def floatOrdersUptoRow : OpenClaim := { program := "ytbeamaaclplabaa", sum := "c4e09b4fe006061493334e9d99115793ad02f1c51c78c9f69ab8231a28a79da5", func := "lathe/lathelaw02.FloatOrders", spec := "floatOrders", inPlace := ["math.Float32frombits", "math.Float32bits", "math.sqrt"], apart := false, narrowed := true }
def FloatOrdersUptoSaid : Prop := floatOrdersUptoRow.holds Try.pinned (OpenSpec.upto floatOrdersSpec)

/-- 'lathelaw02.FloatWholes', WHERE WHAT IT READS IS OF BULK AT MOST 1048576: true; the input reads as it did. -/
def floatWholesUptoRow : OpenClaim := { program := "ytbeamaaclplabaa", sum := "c4e09b4fe006061493334e9d99115793ad02f1c51c78c9f69ab8231a28a79da5", func := "lathe/lathelaw02.FloatWholes", spec := "floatWholes", inPlace := ["math.Float32bits", "math.Float32frombits", "math.sqrt"], apart := false, narrowed := true }
def FloatWholesUptoSaid : Prop := floatWholesUptoRow.holds Try.pinned (OpenSpec.upto floatWholesSpec)

end Rows
end Go.Proofs.Ytbeamaaclplabaa
