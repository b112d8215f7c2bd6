import Derived.Test.YtnogokikiekcbabRefOps
/- up, of the reference of layer 2. -/
namespace Go.Proofs.Ytnogokikiekcbab
open Go.RowKit
set_option linter.unusedVariables false

def cellM (w : World) (b : Nat) : Nat := match w.cell? ⟨b, 1, none⟩ with
  | some (.int _ x) => x.toNat
  | _ => 0

theorem cellM_alloc (w : World) (v0 v2 v3 v4 : Value) (X : Int) (t : TypeId) (p : Obj) : cellM ((w.alloc (.cells #[v0, .int .u64 X, v2, v3, v4] t)).alloc p) w.heap.size = X.toNat := by
  have : ((w.alloc (.cells #[v0, .int .u64 X, v2, v3, v4] t)).alloc p).cell? ⟨w.heap.size, 1, none⟩ = some (.int .u64 X) := by
    simp
  unfold cellM; rw [this]

end Go.Proofs.Ytnogokikiekcbab
