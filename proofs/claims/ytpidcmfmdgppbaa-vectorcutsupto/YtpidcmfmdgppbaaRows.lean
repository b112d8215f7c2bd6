/-
  No cell of these rows narrows 'for every input' (looked for: loops, veiled, ifaces, maps, wideKeys, modest, calm, conditions, laid).
  DERIVED. THE GIVEN ROWS OF THIS SEAT. 6 by the template 'for every input the law returns true; each argument reads behind the call as it read before'; 0 by the template 'total and deterministic' (their statements: YtpidcmfmdgppbaaTotals.lean).
  GIVEN WITH THE SEED: the statements are not yours to turn. If you find one false, say at which input.
  Laid BY PROGRAM, IN A SANDBOX (cutbox-rows.mjs): the forced cells as the released guide's own fill.sh prints them over the translation 5af6339f871be0e0… (all of the seat's roots in one cut). By AI agents, Wed Nov 11 2026. No macro, syntax, notation, axiom, sorry.
-/
import Derived.Test.YtpidcmfmdgppbaaChecked
import GoSem.Claim
import GoSem.ClaimJoined
import GoSem.ClaimMapViews
import Derived.JoinedTies
import Derived.KernelRfl
namespace Go.Proofs.Ytpidcmfmdgppbaa
/- THE CELL 'sum', in the pinned program and in every row, IS THE sha256 OF THE DUMP (.gsa) THAT YtpidcmfmdgppbaaProg.lean LOADS. Nothing in Lean hashes anything: it is a label: what it is worth is what the hold of that sum in a sandbox is worth. -/
noncomputable def Try.pinned : Pinned := { name := "ytpidcmfmdgppbaa", sum := "5af6339f871be0e03f26845e012d9bfbf6fabbffa4f664db6cacd17252677b66", checked := Try.checked }
namespace Rows
def none {H : Type} : Left H := { results := [], args := [] }

/-- 'lathelaw05.VectorApplies': WHATEVER THE INPUT: true; the input reads as it did. -/
def vectorAppliesSpec : ChangeSpec := { name := "vectorApplies", fn := fun _ => fun
  | [d1, d2] => { results := [.lit (.bool true)], args := [d1, d2] }
  | _ => none }
def vectorAppliesRow : OpenClaim := { program := "ytpidcmfmdgppbaa", sum := "5af6339f871be0e03f26845e012d9bfbf6fabbffa4f664db6cacd17252677b66", func := "lathe/lathelaw05.VectorApplies", spec := "vectorApplies", inPlace := ["math.Float32frombits", "math.sqrt", "math.Float32bits"], unfollowed := true, recurses := true, apart := false }
def VectorAppliesSaid : Prop := vectorAppliesRow.holds Try.pinned (OpenSpec.ofChange vectorAppliesSpec)

/-- ITS FALSE NEIGHBOUR: 'it returns false'. Refute it at one input. -/
def vectorAppliesWrong : ChangeSpec := { name := "vectorApplies", fn := fun _ => fun
  | [d1, d2] => { results := [.lit (.bool false)], args := [d1, d2] }
  | _ => none }
def VectorAppliesWrongFalsely : Prop := vectorAppliesRow.holds Try.pinned (OpenSpec.ofChange vectorAppliesWrong)

/-- 'lathelaw05.VectorSums': WHATEVER THE INPUT: true; the input reads as it did. -/
def vectorSumsSpec : ChangeSpec := { name := "vectorSums", fn := fun _ => fun
  | [d1, d2] => { results := [.lit (.bool true)], args := [d1, d2] }
  | _ => none }
def vectorSumsRow : OpenClaim := { program := "ytpidcmfmdgppbaa", sum := "5af6339f871be0e03f26845e012d9bfbf6fabbffa4f664db6cacd17252677b66", func := "lathe/lathelaw05.VectorSums", spec := "vectorSums", inPlace := ["math.Float32frombits", "math.Float32bits", "math.sqrt"], unfollowed := true, recurses := true, apart := false }
def VectorSumsSaid : Prop := vectorSumsRow.holds Try.pinned (OpenSpec.ofChange vectorSumsSpec)

/-- ITS FALSE NEIGHBOUR: 'it returns false'. Refute it at one input. -/
def vectorSumsWrong : ChangeSpec := { name := "vectorSums", fn := fun _ => fun
  | [d1, d2] => { results := [.lit (.bool false)], args := [d1, d2] }
  | _ => none }
def VectorSumsWrongFalsely : Prop := vectorSumsRow.holds Try.pinned (OpenSpec.ofChange vectorSumsWrong)

/-- 'lathelaw05.VectorNorms': WHATEVER THE INPUT: true; the input reads as it did. -/
def vectorNormsSpec : ChangeSpec := { name := "vectorNorms", fn := fun _ => fun
  | [d] => { results := [.lit (.bool true)], args := [d] }
  | _ => none }
def vectorNormsRow : OpenClaim := { program := "ytpidcmfmdgppbaa", sum := "5af6339f871be0e03f26845e012d9bfbf6fabbffa4f664db6cacd17252677b66", func := "lathe/lathelaw05.VectorNorms", spec := "vectorNorms", inPlace := ["math.Float32frombits", "math.Float32bits", "math.sqrt"], unfollowed := true, recurses := true, apart := false }
def VectorNormsSaid : Prop := vectorNormsRow.holds Try.pinned (OpenSpec.ofChange vectorNormsSpec)

/-- ITS FALSE NEIGHBOUR: 'it returns false'. Refute it at one input. -/
def vectorNormsWrong : ChangeSpec := { name := "vectorNorms", fn := fun _ => fun
  | [d] => { results := [.lit (.bool false)], args := [d] }
  | _ => none }
def VectorNormsWrongFalsely : Prop := vectorNormsRow.holds Try.pinned (OpenSpec.ofChange vectorNormsWrong)

/-- 'lathelaw05.VectorEnds': WHATEVER THE INPUT: true; the input reads as it did. -/
def vectorEndsSpec : ChangeSpec := { name := "vectorEnds", fn := fun _ => fun
  | [d1, d2, d3] => { results := [.lit (.bool true)], args := [d1, d2, d3] }
  | _ => none }
def vectorEndsRow : OpenClaim := { program := "ytpidcmfmdgppbaa", sum := "5af6339f871be0e03f26845e012d9bfbf6fabbffa4f664db6cacd17252677b66", func := "lathe/lathelaw05.VectorEnds", spec := "vectorEnds", inPlace := ["math.Float32frombits", "math.Float32bits", "math.sqrt"], unfollowed := true, recurses := true, apart := false }
def VectorEndsSaid : Prop := vectorEndsRow.holds Try.pinned (OpenSpec.ofChange vectorEndsSpec)

/-- ITS FALSE NEIGHBOUR: 'it returns false'. Refute it at one input. -/
def vectorEndsWrong : ChangeSpec := { name := "vectorEnds", fn := fun _ => fun
  | [d1, d2, d3] => { results := [.lit (.bool false)], args := [d1, d2, d3] }
  | _ => none }
def VectorEndsWrongFalsely : Prop := vectorEndsRow.holds Try.pinned (OpenSpec.ofChange vectorEndsWrong)

/-- 'lathelaw05.VectorCuts': WHATEVER THE INPUT: true; the input reads as it did. -/
def vectorCutsSpec : ChangeSpec := { name := "vectorCuts", fn := fun _ => fun
  | [d] => { results := [.lit (.bool true)], args := [d] }
  | _ => none }
def vectorCutsRow : OpenClaim := { program := "ytpidcmfmdgppbaa", sum := "5af6339f871be0e03f26845e012d9bfbf6fabbffa4f664db6cacd17252677b66", func := "lathe/lathelaw05.VectorCuts", spec := "vectorCuts", inPlace := ["math.Float32frombits", "math.Float32bits", "math.sqrt"], unfollowed := true, recurses := true, apart := false }
def VectorCutsSaid : Prop := vectorCutsRow.holds Try.pinned (OpenSpec.ofChange vectorCutsSpec)

/-- ITS FALSE NEIGHBOUR: 'it returns false'. Refute it at one input. -/
def vectorCutsWrong : ChangeSpec := { name := "vectorCuts", fn := fun _ => fun
  | [d] => { results := [.lit (.bool false)], args := [d] }
  | _ => none }
def VectorCutsWrongFalsely : Prop := vectorCutsRow.holds Try.pinned (OpenSpec.ofChange vectorCutsWrong)

/-- 'lathelaw05.VectorOwn': WHATEVER THE INPUT: true; the input reads as it did. -/
def vectorOwnSpec : ChangeSpec := { name := "vectorOwn", fn := fun _ => fun
  | [d] => { results := [.lit (.bool true)], args := [d] }
  | _ => none }
def vectorOwnRow : OpenClaim := { program := "ytpidcmfmdgppbaa", sum := "5af6339f871be0e03f26845e012d9bfbf6fabbffa4f664db6cacd17252677b66", func := "lathe/lathelaw05.VectorOwn", spec := "vectorOwn", inPlace := ["math.Float32frombits", "math.sqrt", "math.Float32bits"], unfollowed := true, recurses := true, apart := false }
def VectorOwnSaid : Prop := vectorOwnRow.holds Try.pinned (OpenSpec.ofChange vectorOwnSpec)

/-- ITS FALSE NEIGHBOUR: 'it returns false'. Refute it at one input. -/
def vectorOwnWrong : ChangeSpec := { name := "vectorOwn", fn := fun _ => fun
  | [d] => { results := [.lit (.bool false)], args := [d] }
  | _ => none }
def VectorOwnWrongFalsely : Prop := vectorOwnRow.holds Try.pinned (OpenSpec.ofChange vectorOwnWrong)

/- THE SECOND FORM. 'bulk': how many values and letters a reading holds, each counted each time it is reached (what is shared counts as often as it is met; a slice's spare places count too). A statement '..UptoSaid' is the law's where the arguments, and the package variables that the reading takes, are together of bulk at most 1048576: NARROWER than '..Said'. Prove '..Said' where nothing that the law and all that it calls make is longer than what came in: it says more and counts as full. Else prove '..UptoSaid'. A law counts once. -/
mutual
def uptoBulk {H : Type} : DataW H → Nat
  | .lit (.string bytes) => bytes.length + 1
  | .lit _ => 1
  | .nil => 1
  | .ptr d => uptoBulk d + 1
  | .slice elems spare => uptoBulkAll elems + uptoBulkAll spare + 1
  | .agg parts => uptoBulkAll parts + 1
  | .iface _ d => uptoBulk d + 1
  | .map entries => uptoBulkEntries entries + 1
  | .held _ => 1
def uptoBulkAll {H : Type} : List (DataW H) → Nat
  | [] => 0
  | d :: r => uptoBulk d + uptoBulkAll r
def uptoBulkEntries {H : Type} : List (Lit × DataW H) → Nat
  | [] => 0
  | x :: r => uptoBulkEntry x + uptoBulkEntries r
def uptoBulkEntry {H : Type} : Lit × DataW H → Nat
  | (.string bytes, d) => bytes.length + uptoBulk d + 1
  | (_, d) => uptoBulk d + 1
 end
def uptoSmall : (H : Type) → List (DataW H) → Bool := fun _ ds => decide (uptoBulkAll ds ≤ 1048576)
def OpenSpec.upto (s : _root_.Go.ChangeSpec) : _root_.Go.OpenSpec := { _root_.Go.OpenSpec.ofChange s with cond := some uptoSmall }

/-- 'lathelaw05.VectorApplies', WHERE WHAT IT READS IS OF BULK AT MOST 1048576: true; the input reads as it did. -/
def vectorAppliesUptoRow : OpenClaim := { program := "ytpidcmfmdgppbaa", sum := "5af6339f871be0e03f26845e012d9bfbf6fabbffa4f664db6cacd17252677b66", func := "lathe/lathelaw05.VectorApplies", spec := "vectorApplies", inPlace := ["math.Float32frombits", "math.sqrt", "math.Float32bits"], unfollowed := true, recurses := true, apart := false, narrowed := true }
def VectorAppliesUptoSaid : Prop := vectorAppliesUptoRow.holds Try.pinned (OpenSpec.upto vectorAppliesSpec)

/-- 'lathelaw05.VectorSums', WHERE WHAT IT READS IS OF BULK AT MOST 1048576: true; the input reads as it did. -/
def vectorSumsUptoRow : OpenClaim := { program := "ytpidcmfmdgppbaa", sum := "5af6339f871be0e03f26845e012d9bfbf6fabbffa4f664db6cacd17252677b66", func := "lathe/lathelaw05.VectorSums", spec := "vectorSums", inPlace := ["math.Float32frombits", "math.Float32bits", "math.sqrt"], unfollowed := true, recurses := true, apart := false, narrowed := true }
def VectorSumsUptoSaid : Prop := vectorSumsUptoRow.holds Try.pinned (OpenSpec.upto vectorSumsSpec)

/-- 'lathelaw05.VectorNorms', WHERE WHAT IT READS IS OF BULK AT MOST 1048576: true; the input reads as it did. -/
def vectorNormsUptoRow : OpenClaim := { program := "ytpidcmfmdgppbaa", sum := "5af6339f871be0e03f26845e012d9bfbf6fabbffa4f664db6cacd17252677b66", func := "lathe/lathelaw05.VectorNorms", spec := "vectorNorms", inPlace := ["math.Float32frombits", "math.Float32bits", "math.sqrt"], unfollowed := true, recurses := true, apart := false, narrowed := true }
def VectorNormsUptoSaid : Prop := vectorNormsUptoRow.holds Try.pinned (OpenSpec.upto vectorNormsSpec)

/-- 'lathelaw05.VectorEnds', WHERE WHAT IT READS IS OF BULK AT MOST 1048576: true; the input reads as it did. -/
def vectorEndsUptoRow : OpenClaim := { program := "ytpidcmfmdgppbaa", sum := "5af6339f871be0e03f26845e012d9bfbf6fabbffa4f664db6cacd17252677b66", func := "lathe/lathelaw05.VectorEnds", spec := "vectorEnds", inPlace := ["math.Float32frombits", "math.Float32bits", "math.sqrt"], unfollowed := true, recurses := true, apart := false, narrowed := true }
def VectorEndsUptoSaid : Prop := vectorEndsUptoRow.holds Try.pinned (OpenSpec.upto vectorEndsSpec)

/-- 'lathelaw05.VectorCuts', WHERE WHAT IT READS IS OF BULK AT MOST 1048576: true; the input reads as it did. -/
def vectorCutsUptoRow : OpenClaim := { program := "ytpidcmfmdgppbaa", sum := "5af6339f871be0e03f26845e012d9bfbf6fabbffa4f664db6cacd17252677b66", func := "lathe/lathelaw05.VectorCuts", spec := "vectorCuts", inPlace := ["math.Float32frombits", "math.Float32bits", "math.sqrt"], unfollowed := true, recurses := true, apart := false, narrowed := true }
def VectorCutsUptoSaid : Prop := vectorCutsUptoRow.holds Try.pinned (OpenSpec.upto vectorCutsSpec)

/-- 'lathelaw05.VectorOwn', WHERE WHAT IT READS IS OF BULK AT MOST 1048576: true; the input reads as it did. -/
def vectorOwnUptoRow : OpenClaim := { program := "ytpidcmfmdgppbaa", sum := "5af6339f871be0e03f26845e012d9bfbf6fabbffa4f664db6cacd17252677b66", func := "lathe/lathelaw05.VectorOwn", spec := "vectorOwn", inPlace := ["math.Float32frombits", "math.sqrt", "math.Float32bits"], unfollowed := true, recurses := true, apart := false, narrowed := true }
def VectorOwnUptoSaid : Prop := vectorOwnUptoRow.holds Try.pinned (OpenSpec.upto vectorOwnSpec)

end Rows
end Go.Proofs.Ytpidcmfmdgppbaa
