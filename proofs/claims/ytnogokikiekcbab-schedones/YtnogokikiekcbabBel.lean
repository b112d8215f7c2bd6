import Derived.Below
/- Worlds that keep what lay there, one behind the other. -/
namespace Go.Proofs.Ytnogokikiekcbab
open Go.RowKit

theorem bel {a b c : World} (h : Below a.heap.size a b) (k : Below b.heap.size b c) : Below a.heap.size a c := h.trans (k.mono h.size)
theorem bel0 (w : World) : Below w.heap.size w w := Below.refl _ _

end Go.Proofs.Ytnogokikiekcbab
