/-
  NARROWER THAN 'FOR EVERY INPUT', by the rows' own cells (each row's printed sentence says how): SchedValues: loops · SchedJoins: loops · SchedPairs: loops.
  DERIVED. THE GIVEN ROWS OF THIS SEAT. 6 by the template 'for every input the law returns true; each argument reads behind the call as it read before'; 0 by the template 'total and deterministic' (their statements: YtnogokikiekcbaaTotals.lean).
  GIVEN WITH THE SEED: the statements are not yours to turn. If you find one false, say at which input.
  Laid BY PROGRAM, IN A SANDBOX (cutbox-rows.mjs): the forced cells as the released guide's own fill.sh prints them over the translation 071373b47024b16e… (all of the seat's roots in one cut). By AI agents, Wed Nov 11 2026. No macro, syntax, notation, axiom, sorry.
-/
import Derived.Test.YtnogokikiekcbaaChecked
import GoSem.Claim
import GoSem.ClaimJoined
import GoSem.ClaimMapViews
import Derived.JoinedTies
import Derived.KernelRfl
namespace Go.Proofs.Ytnogokikiekcbaa
/- THE CELL 'sum', in the pinned program and in every row, IS THE sha256 OF THE DUMP (.gsa) THAT YtnogokikiekcbaaProg.lean LOADS. Nothing in Lean hashes anything: it is a label: what it is worth is what the hold of that sum in a sandbox is worth. -/
noncomputable def Try.pinned : Pinned := { name := "ytnogokikiekcbaa", sum := "071373b47024b16e48902b450e7b4cb6029eb81b0f250a52191ee6045d970a0a", checked := Try.checked }
namespace Rows
def none {H : Type} : Left H := { results := [], args := [] }

/-- 'lathelaw14.SchedValues': WHATEVER THE INPUT: true; the input reads as it did. -/
def schedValuesSpec : ChangeSpec := { name := "schedValues", fn := fun _ => fun
  | [d1, d2] => { results := [.lit (.bool true)], args := [d1, d2] }
  | _ => none }
def schedValuesRow : OpenClaim := { program := "ytnogokikiekcbaa", sum := "071373b47024b16e48902b450e7b4cb6029eb81b0f250a52191ee6045d970a0a", func := "lathe/lathelaw14.SchedValues", spec := "schedValues", inPlace := ["math.Float32frombits", "math.Float32bits", "math.sqrt"], unfollowed := true, recurses := true, loops := true, apart := false }
def SchedValuesSaid : Prop := schedValuesRow.holds Try.pinned (OpenSpec.ofChange schedValuesSpec)

/-- ITS FALSE NEIGHBOUR: 'it returns false'. Refute it at one input. -/
def schedValuesWrong : ChangeSpec := { name := "schedValues", fn := fun _ => fun
  | [d1, d2] => { results := [.lit (.bool false)], args := [d1, d2] }
  | _ => none }
def SchedValuesWrongFalsely : Prop := schedValuesRow.holds Try.pinned (OpenSpec.ofChange schedValuesWrong)

/-- 'lathelaw14.SchedWaves': WHATEVER THE INPUT: true; the input reads as it did. -/
def schedWavesSpec : ChangeSpec := { name := "schedWaves", fn := fun _ => fun
  | [d] => { results := [.lit (.bool true)], args := [d] }
  | _ => none }
def schedWavesRow : OpenClaim := { program := "ytnogokikiekcbaa", sum := "071373b47024b16e48902b450e7b4cb6029eb81b0f250a52191ee6045d970a0a", func := "lathe/lathelaw14.SchedWaves", spec := "schedWaves", inPlace := ["math.Float32frombits", "math.Float32bits", "math.sqrt"], unfollowed := true, recurses := true, apart := false }
def SchedWavesSaid : Prop := schedWavesRow.holds Try.pinned (OpenSpec.ofChange schedWavesSpec)

/-- ITS FALSE NEIGHBOUR: 'it returns false'. Refute it at one input. -/
def schedWavesWrong : ChangeSpec := { name := "schedWaves", fn := fun _ => fun
  | [d] => { results := [.lit (.bool false)], args := [d] }
  | _ => none }
def SchedWavesWrongFalsely : Prop := schedWavesRow.holds Try.pinned (OpenSpec.ofChange schedWavesWrong)

/-- 'lathelaw14.SchedWave': WHATEVER THE INPUT: true; the input reads as it did. -/
def schedWaveSpec : ChangeSpec := { name := "schedWave", fn := fun _ => fun
  | [d] => { results := [.lit (.bool true)], args := [d] }
  | _ => none }
def schedWaveRow : OpenClaim := { program := "ytnogokikiekcbaa", sum := "071373b47024b16e48902b450e7b4cb6029eb81b0f250a52191ee6045d970a0a", func := "lathe/lathelaw14.SchedWave", spec := "schedWave", inPlace := ["math.Float32frombits", "math.Float32bits", "math.sqrt"], unfollowed := true, recurses := true, apart := false }
def SchedWaveSaid : Prop := schedWaveRow.holds Try.pinned (OpenSpec.ofChange schedWaveSpec)

/-- ITS FALSE NEIGHBOUR: 'it returns false'. Refute it at one input. -/
def schedWaveWrong : ChangeSpec := { name := "schedWave", fn := fun _ => fun
  | [d] => { results := [.lit (.bool false)], args := [d] }
  | _ => none }
def SchedWaveWrongFalsely : Prop := schedWaveRow.holds Try.pinned (OpenSpec.ofChange schedWaveWrong)

/-- 'lathelaw14.SchedDown': WHATEVER THE INPUT: true; the input reads as it did. -/
def schedDownSpec : ChangeSpec := { name := "schedDown", fn := fun _ => fun
  | [d] => { results := [.lit (.bool true)], args := [d] }
  | _ => none }
def schedDownRow : OpenClaim := { program := "ytnogokikiekcbaa", sum := "071373b47024b16e48902b450e7b4cb6029eb81b0f250a52191ee6045d970a0a", func := "lathe/lathelaw14.SchedDown", spec := "schedDown", inPlace := ["math.Float32frombits", "math.Float32bits", "math.sqrt"], unfollowed := true, recurses := true, apart := false }
def SchedDownSaid : Prop := schedDownRow.holds Try.pinned (OpenSpec.ofChange schedDownSpec)

/-- ITS FALSE NEIGHBOUR: 'it returns false'. Refute it at one input. -/
def schedDownWrong : ChangeSpec := { name := "schedDown", fn := fun _ => fun
  | [d] => { results := [.lit (.bool false)], args := [d] }
  | _ => none }
def SchedDownWrongFalsely : Prop := schedDownRow.holds Try.pinned (OpenSpec.ofChange schedDownWrong)

/-- 'lathelaw14.SchedJoins': WHATEVER THE INPUT: true; the input reads as it did. -/
def schedJoinsSpec : ChangeSpec := { name := "schedJoins", fn := fun _ => fun
  | [d1, d2] => { results := [.lit (.bool true)], args := [d1, d2] }
  | _ => none }
def schedJoinsRow : OpenClaim := { program := "ytnogokikiekcbaa", sum := "071373b47024b16e48902b450e7b4cb6029eb81b0f250a52191ee6045d970a0a", func := "lathe/lathelaw14.SchedJoins", spec := "schedJoins", inPlace := ["math.Float32frombits", "math.Float32bits", "math.sqrt"], unfollowed := true, recurses := true, loops := true, apart := false }
def SchedJoinsSaid : Prop := schedJoinsRow.holds Try.pinned (OpenSpec.ofChange schedJoinsSpec)

/-- ITS FALSE NEIGHBOUR: 'it returns false'. Refute it at one input. -/
def schedJoinsWrong : ChangeSpec := { name := "schedJoins", fn := fun _ => fun
  | [d1, d2] => { results := [.lit (.bool false)], args := [d1, d2] }
  | _ => none }
def SchedJoinsWrongFalsely : Prop := schedJoinsRow.holds Try.pinned (OpenSpec.ofChange schedJoinsWrong)

/-- 'lathelaw14.SchedPairs': WHATEVER THE INPUT: true; the input reads as it did. -/
def schedPairsSpec : ChangeSpec := { name := "schedPairs", fn := fun _ => fun
  | [d1, d2, d3] => { results := [.lit (.bool true)], args := [d1, d2, d3] }
  | _ => none }
def schedPairsRow : OpenClaim := { program := "ytnogokikiekcbaa", sum := "071373b47024b16e48902b450e7b4cb6029eb81b0f250a52191ee6045d970a0a", func := "lathe/lathelaw14.SchedPairs", spec := "schedPairs", inPlace := ["math.Float32frombits", "math.Float32bits", "math.sqrt"], unfollowed := true, recurses := true, loops := true, apart := false }
def SchedPairsSaid : Prop := schedPairsRow.holds Try.pinned (OpenSpec.ofChange schedPairsSpec)

/-- ITS FALSE NEIGHBOUR: 'it returns false'. Refute it at one input. -/
def schedPairsWrong : ChangeSpec := { name := "schedPairs", fn := fun _ => fun
  | [d1, d2, d3] => { results := [.lit (.bool false)], args := [d1, d2, d3] }
  | _ => none }
def SchedPairsWrongFalsely : Prop := schedPairsRow.holds Try.pinned (OpenSpec.ofChange schedPairsWrong)

/- THE SECOND FORM. 'bulk': how many values and letters a reading holds, each counted each time it is reached (what is shared counts as often as it is met; a slice's spare places count too). A statement '..UptoSaid' is the law's where the arguments, and the package variables that the reading takes, are together of bulk at most 1048576: NARROWER than '..Said'. Prove '..Said' where nothing that the law and all that it calls make is longer than what came in: it says more and counts as full. Else prove '..UptoSaid'. A law counts once. -/
mutual
def uptoBulk {H : Type} : DataW H → Nat
  | .lit (.string bytes) => bytes.length + 1
  | .lit _ => 1
  | .nil => 1
  | .ptr d => uptoBulk d + 1
  | .slice elems spare => uptoBulkAll elems + uptoBulkAll spare + 1
  | .agg parts => uptoBulkAll parts + 1
  | .iface _ d => uptoBulk d + 1
  | .map entries => uptoBulkEntries entries + 1
  | .held _ => 1
def uptoBulkAll {H : Type} : List (DataW H) → Nat
  | [] => 0
  | d :: r => uptoBulk d + uptoBulkAll r
def uptoBulkEntries {H : Type} : List (Lit × DataW H) → Nat
  | [] => 0
  | x :: r => uptoBulkEntry x + uptoBulkEntries r
def uptoBulkEntry {H : Type} : Lit × DataW H → Nat
  | (.string bytes, d) => bytes.length + uptoBulk d + 1
  | (_, d) => uptoBulk d + 1
 end
def uptoSmall : (H : Type) → List (DataW H) → Bool := fun _ ds => decide (uptoBulkAll ds ≤ 1048576)
def OpenSpec.upto (s : _root_.Go.ChangeSpec) : _root_.Go.OpenSpec := { _root_.Go.OpenSpec.ofChange s with cond := some uptoSmall }

/-- 'lathelaw14.SchedValues', WHERE WHAT IT READS IS OF BULK AT MOST 1048576: true; the input reads as it did. -/
def schedValuesUptoRow : OpenClaim := { program := "ytnogokikiekcbaa", sum := "071373b47024b16e48902b450e7b4cb6029eb81b0f250a52191ee6045d970a0a", func := "lathe/lathelaw14.SchedValues", spec := "schedValues", inPlace := ["math.Float32frombits", "math.Float32bits", "math.sqrt"], unfollowed := true, recurses := true, loops := true, apart := false, narrowed := true }
def SchedValuesUptoSaid : Prop := schedValuesUptoRow.holds Try.pinned (OpenSpec.upto schedValuesSpec)

/-- 'lathelaw14.SchedWaves', WHERE WHAT IT READS IS OF BULK AT MOST 1048576: true; the input reads as it did. -/
def schedWavesUptoRow : OpenClaim := { program := "ytnogokikiekcbaa", sum := "071373b47024b16e48902b450e7b4cb6029eb81b0f250a52191ee6045d970a0a", func := "lathe/lathelaw14.SchedWaves", spec := "schedWaves", inPlace := ["math.Float32frombits", "math.Float32bits", "math.sqrt"], unfollowed := true, recurses := true, apart := false, narrowed := true }
def SchedWavesUptoSaid : Prop := schedWavesUptoRow.holds Try.pinned (OpenSpec.upto schedWavesSpec)

/-- 'lathelaw14.SchedWave', WHERE WHAT IT READS IS OF BULK AT MOST 1048576: true; the input reads as it did. -/
def schedWaveUptoRow : OpenClaim := { program := "ytnogokikiekcbaa", sum := "071373b47024b16e48902b450e7b4cb6029eb81b0f250a52191ee6045d970a0a", func := "lathe/lathelaw14.SchedWave", spec := "schedWave", inPlace := ["math.Float32frombits", "math.Float32bits", "math.sqrt"], unfollowed := true, recurses := true, apart := false, narrowed := true }
def SchedWaveUptoSaid : Prop := schedWaveUptoRow.holds Try.pinned (OpenSpec.upto schedWaveSpec)

/-- 'lathelaw14.SchedDown', WHERE WHAT IT READS IS OF BULK AT MOST 1048576: true; the input reads as it did. -/
def schedDownUptoRow : OpenClaim := { program := "ytnogokikiekcbaa", sum := "071373b47024b16e48902b450e7b4cb6029eb81b0f250a52191ee6045d970a0a", func := "lathe/lathelaw14.SchedDown", spec := "schedDown", inPlace := ["math.Float32frombits", "math.Float32bits", "math.sqrt"], unfollowed := true, recurses := true, apart := false, narrowed := true }
def SchedDownUptoSaid : Prop := schedDownUptoRow.holds Try.pinned (OpenSpec.upto schedDownSpec)

/-- 'lathelaw14.SchedJoins', WHERE WHAT IT READS IS OF BULK AT MOST 1048576: true; the input reads as it did. -/
def schedJoinsUptoRow : OpenClaim := { program := "ytnogokikiekcbaa", sum := "071373b47024b16e48902b450e7b4cb6029eb81b0f250a52191ee6045d970a0a", func := "lathe/lathelaw14.SchedJoins", spec := "schedJoins", inPlace := ["math.Float32frombits", "math.Float32bits", "math.sqrt"], unfollowed := true, recurses := true, loops := true, apart := false, narrowed := true }
def SchedJoinsUptoSaid : Prop := schedJoinsUptoRow.holds Try.pinned (OpenSpec.upto schedJoinsSpec)

/-- 'lathelaw14.SchedPairs', WHERE WHAT IT READS IS OF BULK AT MOST 1048576: true; the input reads as it did. -/
def schedPairsUptoRow : OpenClaim := { program := "ytnogokikiekcbaa", sum := "071373b47024b16e48902b450e7b4cb6029eb81b0f250a52191ee6045d970a0a", func := "lathe/lathelaw14.SchedPairs", spec := "schedPairs", inPlace := ["math.Float32frombits", "math.Float32bits", "math.sqrt"], unfollowed := true, recurses := true, loops := true, apart := false, narrowed := true }
def SchedPairsUptoSaid : Prop := schedPairsUptoRow.holds Try.pinned (OpenSpec.upto schedPairsSpec)

end Rows
end Go.Proofs.Ytnogokikiekcbaa
