/-
  No cell of these rows narrows 'for every input' (looked for: loops, veiled, ifaces, maps, wideKeys, modest, calm, conditions, laid).
  DERIVED. THE GIVEN ROWS OF THIS SEAT. 2 by the template 'for every input the law returns true; each argument reads behind the call as it read before'; 0 by the template 'total and deterministic' (their statements: YtnbccaicijcklaaTotals.lean).
  GIVEN WITH THE SEED: the statements are not yours to turn. If you find one false, say at which input.
  Laid BY PROGRAM, IN A SANDBOX (cutbox-rows.mjs): the forced cells as the released guide's own fill.sh prints them over the translation 6520c572ef12b6a3… (all of the seat's roots in one cut). By AI agents, Wed Nov 11 2026. No macro, syntax, notation, axiom, sorry.
-/
import Derived.Test.YtnbccaicijcklaaChecked
import GoSem.Claim
import GoSem.ClaimJoined
import GoSem.ClaimMapViews
import Derived.JoinedTies
import Derived.KernelRfl
namespace Go.Proofs.Ytnbccaicijcklaa
/- THE CELL 'sum', in the pinned program and in every row, IS THE sha256 OF THE DUMP (.gsa) THAT YtnbccaicijcklaaProg.lean LOADS. Nothing in Lean hashes anything: it is a label: what it is worth is what the hold of that sum in a sandbox is worth. -/
noncomputable def Try.pinned : Pinned := { name := "ytnbccaicijcklaa", sum := "6520c572ef12b6a3fa054bc393f438f79a0fa4b3b96c5df6983e0b7660b99050", checked := Try.checked }
namespace Rows
def none {H : Type} : Left H := { results := [], args := [] }

/-- 'lathelaw21.PruneTakes': WHATEVER THE INPUT: true; the input reads as it did. -/
def pruneTakesSpec : ChangeSpec := { name := "pruneTakes", fn := fun _ => fun
  | [d] => { results := [.lit (.bool true)], args := [d] }
  | _ => none }
def pruneTakesRow : OpenClaim := { program := "ytnbccaicijcklaa", sum := "6520c572ef12b6a3fa054bc393f438f79a0fa4b3b96c5df6983e0b7660b99050", func := "lathe/lathelaw21.PruneTakes", spec := "pruneTakes", inPlace := ["internal/bytealg.IndexByteString"], unfollowed := true, recurses := true, apart := false }
def PruneTakesSaid : Prop := pruneTakesRow.holds Try.pinned (OpenSpec.ofChange pruneTakesSpec)

/-- ITS FALSE NEIGHBOUR: 'it returns false'. Refute it at one input. -/
def pruneTakesWrong : ChangeSpec := { name := "pruneTakes", fn := fun _ => fun
  | [d] => { results := [.lit (.bool false)], args := [d] }
  | _ => none }
def PruneTakesWrongFalsely : Prop := pruneTakesRow.holds Try.pinned (OpenSpec.ofChange pruneTakesWrong)

/-- 'lathelaw21.PruneAgain': WHATEVER THE INPUT: true; the input reads as it did. -/
def pruneAgainSpec : ChangeSpec := { name := "pruneAgain", fn := fun _ => fun
  | [d] => { results := [.lit (.bool true)], args := [d] }
  | _ => none }
def pruneAgainRow : OpenClaim := { program := "ytnbccaicijcklaa", sum := "6520c572ef12b6a3fa054bc393f438f79a0fa4b3b96c5df6983e0b7660b99050", func := "lathe/lathelaw21.PruneAgain", spec := "pruneAgain", inPlace := ["internal/bytealg.IndexByteString"], unfollowed := true, recurses := true, apart := false }
def PruneAgainSaid : Prop := pruneAgainRow.holds Try.pinned (OpenSpec.ofChange pruneAgainSpec)

/-- ITS FALSE NEIGHBOUR: 'it returns false'. Refute it at one input. -/
def pruneAgainWrong : ChangeSpec := { name := "pruneAgain", fn := fun _ => fun
  | [d] => { results := [.lit (.bool false)], args := [d] }
  | _ => none }
def PruneAgainWrongFalsely : Prop := pruneAgainRow.holds Try.pinned (OpenSpec.ofChange pruneAgainWrong)

/- THE SECOND FORM. 'bulk': how many values and letters a reading holds, each counted each time it is reached (what is shared counts as often as it is met; a slice's spare places count too). A statement '..UptoSaid' is the law's where the arguments, and the package variables that the reading takes, are together of bulk at most 1048576: NARROWER than '..Said'. Prove '..Said' where nothing that the law and all that it calls make is longer than what came in: it says more and counts as full. Else prove '..UptoSaid'. A law counts once. -/
mutual
def uptoBulk {H : Type} : DataW H → Nat
  | .lit (.string bytes) => bytes.length + 1
  | .lit _ => 1
  | .nil => 1
  | .ptr d => uptoBulk d + 1
  | .slice elems spare => uptoBulkAll elems + uptoBulkAll spare + 1
  | .agg parts => uptoBulkAll parts + 1
  | .iface _ d => uptoBulk d + 1
  | .map entries => uptoBulkEntries entries + 1
  | .held _ => 1
def uptoBulkAll {H : Type} : List (DataW H) → Nat
  | [] => 0
  | d :: r => uptoBulk d + uptoBulkAll r
def uptoBulkEntries {H : Type} : List (Lit × DataW H) → Nat
  | [] => 0
  | x :: r => uptoBulkEntry x + uptoBulkEntries r
def uptoBulkEntry {H : Type} : Lit × DataW H → Nat
  | (.string bytes, d) => bytes.length + uptoBulk d + 1
  | (_, d) => uptoBulk d + 1
 end
def uptoSmall : (H : Type) → List (DataW H) → Bool := fun _ ds => decide (uptoBulkAll ds ≤ 1048576)
def OpenSpec.upto (s : _root_.Go.ChangeSpec) : _root_.Go.OpenSpec := { _root_.Go.OpenSpec.ofChange s with cond := some uptoSmall }

/-- 'lathelaw21.PruneTakes', WHERE WHAT IT READS IS OF BULK AT MOST 1048576: true; the input reads as it did. -/
def pruneTakesUptoRow : OpenClaim := { program := "ytnbccaicijcklaa", sum := "6520c572ef12b6a3fa054bc393f438f79a0fa4b3b96c5df6983e0b7660b99050", func := "lathe/lathelaw21.PruneTakes", spec := "pruneTakes", inPlace := ["internal/bytealg.IndexByteString"], unfollowed := true, recurses := true, apart := false, narrowed := true }
def PruneTakesUptoSaid : Prop := pruneTakesUptoRow.holds Try.pinned (OpenSpec.upto pruneTakesSpec)

/-- 'lathelaw21.PruneAgain', WHERE WHAT IT READS IS OF BULK AT MOST 1048576: true; the input reads as it did. -/
def pruneAgainUptoRow : OpenClaim := { program := "ytnbccaicijcklaa", sum := "6520c572ef12b6a3fa054bc393f438f79a0fa4b3b96c5df6983e0b7660b99050", func := "lathe/lathelaw21.PruneAgain", spec := "pruneAgain", inPlace := ["internal/bytealg.IndexByteString"], unfollowed := true, recurses := true, apart := false, narrowed := true }
def PruneAgainUptoSaid : Prop := pruneAgainUptoRow.holds Try.pinned (OpenSpec.upto pruneAgainSpec)

end Rows
end Go.Proofs.Ytnbccaicijcklaa
