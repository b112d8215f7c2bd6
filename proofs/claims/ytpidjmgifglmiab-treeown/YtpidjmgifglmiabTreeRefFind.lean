import Derived.Test.YtpidjmgifglmiabTreeFind
import Derived.Test.YtpidjmgifglmiabTreeRef
/- The reference's Find. -/
namespace Go.Proofs.Ytpidjmgifglmiab
open Go.RowKit
set_option linter.unusedVariables false
set_option linter.unusedSimpArgs false

theorem Off.heap {R : Nat} {v v' : World} (h : Off R v v') {b : Nat} (hb : b ≠ R) : v'.heap[b]? = v.heap[b]? := h.2.2.2.2 b hb
theorem put_all {v : World} {G : Nat} {a0 a1 a2 a3 a4 a5 a6 : Value} {t : TypeId} (h : v.heap[G]? = some (.cells #[a0, a1, a2, a3, a4, a5, a6] t)) (b0 b1 b2 b3 b4 b5 b6 : Value) :
    (((((((v.setCell ⟨G, 0, none⟩ b0).setCell ⟨G, 1, none⟩ b1).setCell ⟨G, 2, none⟩ b2).setCell ⟨G, 3, none⟩ b3).setCell ⟨G, 4, none⟩ b4).setCell ⟨G, 5, none⟩ b5).setCell ⟨G, 6, none⟩ b6).heap[G]? = some (.cells #[b0, b1, b2, b3, b4, b5, b6] t) := by
  have h0 : (v.setCell ⟨G, 0, none⟩ b0).heap[G]? = some (.cells #[b0, a1, a2, a3, a4, a5, a6] t) := heap_setAt h 0 b0
  have h1 : ((v.setCell ⟨G, 0, none⟩ b0).setCell ⟨G, 1, none⟩ b1).heap[G]? = some (.cells #[b0, b1, a2, a3, a4, a5, a6] t) := heap_setAt h0 1 b1
  have h2 : (((v.setCell ⟨G, 0, none⟩ b0).setCell ⟨G, 1, none⟩ b1).setCell ⟨G, 2, none⟩ b2).heap[G]? = some (.cells #[b0, b1, b2, a3, a4, a5, a6] t) := heap_setAt h1 2 b2
  have h3 : ((((v.setCell ⟨G, 0, none⟩ b0).setCell ⟨G, 1, none⟩ b1).setCell ⟨G, 2, none⟩ b2).setCell ⟨G, 3, none⟩ b3).heap[G]? = some (.cells #[b0, b1, b2, b3, a4, a5, a6] t) := heap_setAt h2 3 b3
  have h4 : (((((v.setCell ⟨G, 0, none⟩ b0).setCell ⟨G, 1, none⟩ b1).setCell ⟨G, 2, none⟩ b2).setCell ⟨G, 3, none⟩ b3).setCell ⟨G, 4, none⟩ b4).heap[G]? = some (.cells #[b0, b1, b2, b3, b4, a5, a6] t) := heap_setAt h3 4 b4
  have h5 : ((((((v.setCell ⟨G, 0, none⟩ b0).setCell ⟨G, 1, none⟩ b1).setCell ⟨G, 2, none⟩ b2).setCell ⟨G, 3, none⟩ b3).setCell ⟨G, 4, none⟩ b4).setCell ⟨G, 5, none⟩ b5).heap[G]? = some (.cells #[b0, b1, b2, b3, b4, b5, a6] t) := heap_setAt h4 5 b5
  have h6 : (((((((v.setCell ⟨G, 0, none⟩ b0).setCell ⟨G, 1, none⟩ b1).setCell ⟨G, 2, none⟩ b2).setCell ⟨G, 3, none⟩ b3).setCell ⟨G, 4, none⟩ b4).setCell ⟨G, 5, none⟩ b5).setCell ⟨G, 6, none⟩ b6).heap[G]? = some (.cells #[b0, b1, b2, b3, b4, b5, b6] t) := heap_setAt h5 6 b6
  exact h6

end Go.Proofs.Ytpidjmgifglmiab
