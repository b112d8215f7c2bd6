/-
  No cell of these rows narrows 'for every input' (looked for: loops, veiled, ifaces, maps, wideKeys, modest, calm, conditions, laid).
  DERIVED. THE GIVEN ROWS OF THIS SEAT. 6 by the template 'for every input the law returns true; each argument reads behind the call as it read before'; 0 by the template 'total and deterministic' (their statements: YtbeamaaclplababTotals.lean).
  GIVEN WITH THE SEED: the statements are not yours to turn. If you find one false, say at which input.
  Laid BY PROGRAM, IN A SANDBOX (cutbox-rows.mjs): the forced cells as the released guide's own fill.sh prints them over the translation 1ab15b055b1be5d8… (all of the seat's roots in one cut). By AI agents, Wed Nov 11 2026. No macro, syntax, notation, axiom, sorry.
-/
import Derived.Test.YtbeamaaclplababChecked
import GoSem.Claim
import GoSem.ClaimJoined
import GoSem.ClaimMapViews
import Derived.JoinedTies
import Derived.KernelRfl
namespace Go.Proofs.Ytbeamaaclplabab
/- THE CELL 'sum', in the pinned program and in every row, IS THE sha256 OF THE DUMP (.gsa) THAT YtbeamaaclplababProg.lean LOADS. Nothing in Lean hashes anything: it is a label: what it is worth is what the hold of that sum in a sandbox is worth. -/
noncomputable def Try.pinned : Pinned := { name := "ytbeamaaclplabab", sum := "1ab15b055b1be5d8daee2c660521925c4fba9d23f3a96e1fd36a2af9cca212e0", checked := Try.checked }
namespace Rows
def none {H : Type} : Left H := { results := [], args := [] }

/-- 'lathelaw02.FloatTurns': WHATEVER THE INPUT: true; the input reads as it did. -/
def floatTurnsSpec : ChangeSpec := { name := "floatTurns", fn := fun _ => fun
  | [d1, d2] => { results := [.lit (.bool true)], args := [d1, d2] }
  | _ => none }
def floatTurnsRow : OpenClaim := { program := "ytbeamaaclplabab", sum := "1ab15b055b1be5d8daee2c660521925c4fba9d23f3a96e1fd36a2af9cca212e0", func := "lathe/lathelaw02.FloatTurns", spec := "floatTurns", inPlace := ["math.Float32frombits", "math.Float32bits", "math.sqrt"], apart := false }
def FloatTurnsSaid : Prop := floatTurnsRow.holds Try.pinned (OpenSpec.ofChange floatTurnsSpec)

/-- ITS FALSE NEIGHBOUR: 'it returns false'. Refute it at one input. -/
def floatTurnsWrong : ChangeSpec := { name := "floatTurns", fn := fun _ => fun
  | [d1, d2] => { results := [.lit (.bool false)], args := [d1, d2] }
  | _ => none }
def FloatTurnsWrongFalsely : Prop := floatTurnsRow.holds Try.pinned (OpenSpec.ofChange floatTurnsWrong)

/-- 'lathelaw02.FloatKeeps': WHATEVER THE INPUT: true; the input reads as it did. -/
def floatKeepsSpec : ChangeSpec := { name := "floatKeeps", fn := fun _ => fun
  | [d1, d2, d3] => { results := [.lit (.bool true)], args := [d1, d2, d3] }
  | _ => none }
def floatKeepsRow : OpenClaim := { program := "ytbeamaaclplabab", sum := "1ab15b055b1be5d8daee2c660521925c4fba9d23f3a96e1fd36a2af9cca212e0", func := "lathe/lathelaw02.FloatKeeps", spec := "floatKeeps", inPlace := ["math.Float32frombits", "math.Float32bits", "math.sqrt"], apart := false }
def FloatKeepsSaid : Prop := floatKeepsRow.holds Try.pinned (OpenSpec.ofChange floatKeepsSpec)

/-- ITS FALSE NEIGHBOUR: 'it returns false'. Refute it at one input. -/
def floatKeepsWrong : ChangeSpec := { name := "floatKeeps", fn := fun _ => fun
  | [d1, d2, d3] => { results := [.lit (.bool false)], args := [d1, d2, d3] }
  | _ => none }
def FloatKeepsWrongFalsely : Prop := floatKeepsRow.holds Try.pinned (OpenSpec.ofChange floatKeepsWrong)

/-- 'lathelaw02.FloatSterbenz': WHATEVER THE INPUT: true; the input reads as it did. -/
def floatSterbenzSpec : ChangeSpec := { name := "floatSterbenz", fn := fun _ => fun
  | [d1, d2] => { results := [.lit (.bool true)], args := [d1, d2] }
  | _ => none }
def floatSterbenzRow : OpenClaim := { program := "ytbeamaaclplabab", sum := "1ab15b055b1be5d8daee2c660521925c4fba9d23f3a96e1fd36a2af9cca212e0", func := "lathe/lathelaw02.FloatSterbenz", spec := "floatSterbenz", inPlace := ["math.Float32frombits", "math.Float32bits", "math.sqrt"], apart := false }
def FloatSterbenzSaid : Prop := floatSterbenzRow.holds Try.pinned (OpenSpec.ofChange floatSterbenzSpec)

/-- ITS FALSE NEIGHBOUR: 'it returns false'. Refute it at one input. -/
def floatSterbenzWrong : ChangeSpec := { name := "floatSterbenz", fn := fun _ => fun
  | [d1, d2] => { results := [.lit (.bool false)], args := [d1, d2] }
  | _ => none }
def FloatSterbenzWrongFalsely : Prop := floatSterbenzRow.holds Try.pinned (OpenSpec.ofChange floatSterbenzWrong)

/-- 'lathelaw02.FloatKnuth': WHATEVER THE INPUT: true; the input reads as it did. -/
def floatKnuthSpec : ChangeSpec := { name := "floatKnuth", fn := fun _ => fun
  | [d1, d2] => { results := [.lit (.bool true)], args := [d1, d2] }
  | _ => none }
def floatKnuthRow : OpenClaim := { program := "ytbeamaaclplabab", sum := "1ab15b055b1be5d8daee2c660521925c4fba9d23f3a96e1fd36a2af9cca212e0", func := "lathe/lathelaw02.FloatKnuth", spec := "floatKnuth", inPlace := ["math.Float32frombits", "math.Float32bits", "math.sqrt"], apart := false }
def FloatKnuthSaid : Prop := floatKnuthRow.holds Try.pinned (OpenSpec.ofChange floatKnuthSpec)

/-- ITS FALSE NEIGHBOUR: 'it returns false'. Refute it at one input. -/
def floatKnuthWrong : ChangeSpec := { name := "floatKnuth", fn := fun _ => fun
  | [d1, d2] => { results := [.lit (.bool false)], args := [d1, d2] }
  | _ => none }
def FloatKnuthWrongFalsely : Prop := floatKnuthRow.holds Try.pinned (OpenSpec.ofChange floatKnuthWrong)

/-- 'lathelaw02.FloatExact': WHATEVER THE INPUT: true; the input reads as it did. -/
def floatExactSpec : ChangeSpec := { name := "floatExact", fn := fun _ => fun
  | [d] => { results := [.lit (.bool true)], args := [d] }
  | _ => none }
def floatExactRow : OpenClaim := { program := "ytbeamaaclplabab", sum := "1ab15b055b1be5d8daee2c660521925c4fba9d23f3a96e1fd36a2af9cca212e0", func := "lathe/lathelaw02.FloatExact", spec := "floatExact", inPlace := ["math.Float32frombits", "math.Float32bits", "math.sqrt"], apart := false }
def FloatExactSaid : Prop := floatExactRow.holds Try.pinned (OpenSpec.ofChange floatExactSpec)

/-- ITS FALSE NEIGHBOUR: 'it returns false'. Refute it at one input. -/
def floatExactWrong : ChangeSpec := { name := "floatExact", fn := fun _ => fun
  | [d] => { results := [.lit (.bool false)], args := [d] }
  | _ => none }
def FloatExactWrongFalsely : Prop := floatExactRow.holds Try.pinned (OpenSpec.ofChange floatExactWrong)

/-- 'lathelaw02.FloatNear': WHATEVER THE INPUT: true; the input reads as it did. -/
def floatNearSpec : ChangeSpec := { name := "floatNear", fn := fun _ => fun
  | [d1, d2] => { results := [.lit (.bool true)], args := [d1, d2] }
  | _ => none }
def floatNearRow : OpenClaim := { program := "ytbeamaaclplabab", sum := "1ab15b055b1be5d8daee2c660521925c4fba9d23f3a96e1fd36a2af9cca212e0", func := "lathe/lathelaw02.FloatNear", spec := "floatNear", inPlace := ["math.Float32frombits", "math.Float32bits", "math.sqrt"], apart := false }
def FloatNearSaid : Prop := floatNearRow.holds Try.pinned (OpenSpec.ofChange floatNearSpec)

/-- ITS FALSE NEIGHBOUR: 'it returns false'. Refute it at one input. -/
def floatNearWrong : ChangeSpec := { name := "floatNear", fn := fun _ => fun
  | [d1, d2] => { results := [.lit (.bool false)], args := [d1, d2] }
  | _ => none }
def FloatNearWrongFalsely : Prop := floatNearRow.holds Try.pinned (OpenSpec.ofChange floatNearWrong)

/- THE SECOND FORM. 'bulk': how many values and letters a reading holds, each counted each time it is reached (what is shared counts as often as it is met; a slice's spare places count too). A statement '..UptoSaid' is the law's where the arguments, and the package variables that the reading takes, are together of bulk at most 1048576: NARROWER than '..Said'. Prove '..Said' where nothing that the law and all that it calls make is longer than what came in: it says more and counts as full. Else prove '..UptoSaid'. A law counts once. -/
mutual
def uptoBulk {H : Type} : DataW H → Nat
  | .lit (.string bytes) => bytes.length + 1
  | .lit _ => 1
  | .nil => 1
  | .ptr d => uptoBulk d + 1
  | .slice elems spare => uptoBulkAll elems + uptoBulkAll spare + 1
  | .agg parts => uptoBulkAll parts + 1
  | .iface _ d => uptoBulk d + 1
  | .map entries => uptoBulkEntries entries + 1
  | .held _ => 1
def uptoBulkAll {H : Type} : List (DataW H) → Nat
  | [] => 0
  | d :: r => uptoBulk d + uptoBulkAll r
def uptoBulkEntries {H : Type} : List (Lit × DataW H) → Nat
  | [] => 0
  | x :: r => uptoBulkEntry x + uptoBulkEntries r
def uptoBulkEntry {H : Type} : Lit × DataW H → Nat
  | (.string bytes, d) => bytes.length + uptoBulk d + 1
  | (_, d) => uptoBulk d + 1
 end
def uptoSmall : (H : Type) → List (DataW H) → Bool := fun _ ds => decide (uptoBulkAll ds ≤ 1048576)
def OpenSpec.upto (s : _root_.Go.ChangeSpec) : _root_.Go.OpenSpec := { _root_.Go.OpenSpec.ofChange s with cond := some uptoSmall }

/-- 'lathelaw02.FloatTurns', WHERE WHAT IT READS IS OF BULK AT MOST 1048576: true; the input reads as it did. -/
def floatTurnsUptoRow : OpenClaim := { program := "ytbeamaaclplabab", sum := "1ab15b055b1be5d8daee2c660521925c4fba9d23f3a96e1fd36a2af9cca212e0", func := "lathe/lathelaw02.FloatTurns", spec := "floatTurns", inPlace := ["math.Float32frombits", "math.Float32bits", "math.sqrt"], apart := false, narrowed := true }
def FloatTurnsUptoSaid : Prop := floatTurnsUptoRow.holds Try.pinned (OpenSpec.upto floatTurnsSpec)

/-- 'lathelaw02.FloatKeeps', WHERE WHAT IT READS IS OF BULK AT MOST 1048576: true; the input reads as it did. -/
def floatKeepsUptoRow : OpenClaim := { program := "ytbeamaaclplabab", sum := "1ab15b055b1be5d8daee2c660521925c4fba9d23f3a96e1fd36a2af9cca212e0", func := "lathe/lathelaw02.FloatKeeps", spec := "floatKeeps", inPlace := ["math.Float32frombits", "math.Float32bits", "math.sqrt"], apart := false, narrowed := true }
def FloatKeepsUptoSaid : Prop := floatKeepsUptoRow.holds Try.pinned (OpenSpec.upto floatKeepsSpec)

/-- 'lathelaw02.FloatSterbenz', WHERE WHAT IT READS IS OF BULK AT MOST 1048576: true; the input reads as it did. -/
def floatSterbenzUptoRow : OpenClaim := { program := "ytbeamaaclplabab", sum := "1ab15b055b1be5d8daee2c660521925c4fba9d23f3a96e1fd36a2af9cca212e0", func := "lathe/lathelaw02.FloatSterbenz", spec := "floatSterbenz", inPlace := ["math.Float32frombits", "math.Float32bits", "math.sqrt"], apart := false, narrowed := true }
def FloatSterbenzUptoSaid : Prop := floatSterbenzUptoRow.holds Try.pinned (OpenSpec.upto floatSterbenzSpec)

/-- 'lathelaw02.FloatKnuth', WHERE WHAT IT READS IS OF BULK AT MOST 1048576: true; the input reads as it did. -/
def floatKnuthUptoRow : OpenClaim := { program := "ytbeamaaclplabab", sum := "1ab15b055b1be5d8daee2c660521925c4fba9d23f3a96e1fd36a2af9cca212e0", func := "lathe/lathelaw02.FloatKnuth", spec := "floatKnuth", inPlace := ["math.Float32frombits", "math.Float32bits", "math.sqrt"], apart := false, narrowed := true }
def FloatKnuthUptoSaid : Prop := floatKnuthUptoRow.holds Try.pinned (OpenSpec.upto floatKnuthSpec)

/-- 'lathelaw02.FloatExact', WHERE WHAT IT READS IS OF BULK AT MOST 1048576: true; the input reads as it did. -/
def floatExactUptoRow : OpenClaim := { program := "ytbeamaaclplabab", sum := "1ab15b055b1be5d8daee2c660521925c4fba9d23f3a96e1fd36a2af9cca212e0", func := "lathe/lathelaw02.FloatExact", spec := "floatExact", inPlace := ["math.Float32frombits", "math.Float32bits", "math.sqrt"], apart := false, narrowed := true }
def FloatExactUptoSaid : Prop := floatExactUptoRow.holds Try.pinned (OpenSpec.upto floatExactSpec)

/-- 'lathelaw02.FloatNear', WHERE WHAT IT READS IS OF BULK AT MOST 1048576: true; the input reads as it did. -/
def floatNearUptoRow : OpenClaim := { program := "ytbeamaaclplabab", sum := "1ab15b055b1be5d8daee2c660521925c4fba9d23f3a96e1fd36a2af9cca212e0", func := "lathe/lathelaw02.FloatNear", spec := "floatNear", inPlace := ["math.Float32frombits", "math.Float32bits", "math.sqrt"], apart := false, narrowed := true }
def FloatNearUptoSaid : Prop := floatNearUptoRow.holds Try.pinned (OpenSpec.upto floatNearSpec)

end Rows
end Go.Proofs.Ytbeamaaclplabab
