import Derived.Test.YtnhpnmilgcjeaaaDoorRows
import Derived.Test.YtnhpnmilgcjeaaaDoorBitsPlain
import Derived.WalkKit
import Derived.WalkSpells
import Derived.WalkLawsBesides
/- The walks of package bits and of its reference: integers alone. -/
namespace Go.Proofs.YtnhpnmilgcjeaaaDoor
open Go.RowKit
set_option linter.unusedVariables false

theorem ret_int {k : IntKind} {a b : Int} (h : a = b) : Ending.returned (.int k a) = .returned (.int k b) := by rw [h]

def mkV (m : Bool) (e f : Int) : Int := if okParts e f then mk m e f else 0
def mkE (e f : Int) : Int := if okParts e f then 0 else 1

theorem mkV_lo (m : Bool) (e f : Int) : 0 ≤ mkV m e f ∧ mkV m e f < 4294967296 := by
  unfold mkV
  cases hn : okParts e f
  · simp
  · have h : 0 ≤ e ∧ e ≤ 255 ∧ 0 ≤ f ∧ f ≤ 8388607 := by unfold okParts at hn; simpa using hn
    simp only [if_true]; exact mk_lo m e f h.1 h.2.1 h.2.2.1 h.2.2.2

end Go.Proofs.YtnhpnmilgcjeaaaDoor
