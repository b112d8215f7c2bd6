import Derived.Test.YtpidcmfmdgppbaaLists4
import Derived.Deep.AppendLies
/- Lists of the reference of layer 4: the walks. -/
namespace Go.Proofs.Ytpidcmfmdgppbaa
open Go.RowKit
set_option linter.unusedVariables false

def nums (X : Nat → Int) (n : Nat) : List Value := (List.range n).map fun i => .int .u32 (X i)
theorem nums_len (X : Nat → Int) (n : Nat) : (nums X n).length = n := by simp [nums]
theorem nums_at (X : Nat → Int) (n i : Nat) (h : i < n) : (nums X n)[i]? = some (.int .u32 (X i)) := by simp [nums, h]
theorem nums_two (X : Nat → Int) (k : Nat) : nums X (2 * (k + 1)) = nums X (2 * k) ++ [.int .u32 (X (2 * k)), .int .u32 (X (2 * k + 1))] := by
  unfold nums
  rw [show 2 * (k + 1) = 2 * k + 1 + 1 by omega, List.range_succ, List.range_succ]
  simp

/-- A slice that the call owns: its shape, and what it reads. -/
theorem own_form {w : World} {base : Nat} {e : TypeId} {size : Nat} {v : Value} {n : Nat} {xs : List Value} (hs : 0 < size) (h : w.ownsRow base e size v n xs) (X : Nat → Value) (hX : ∀ i, i < xs.length → xs[i]? = some (X i)) :
    ∃ q cap, v = .slice q n cap ∧ Reads w q xs.length X := by
  rcases h.2 with ⟨rfl, hx⟩ | ⟨g, cap, cur, rfl, hb, hg, rest⟩
  · have h1 := h.1
    subst hx
    exact ⟨none, 0, rfl, .inl (by simpa using h1)⟩
  · refine ⟨some ⟨g, 0, none⟩, cap, rfl, .inr ⟨g, 0, rfl, fun i hi => ?_⟩⟩
    have := h.cells (g := g) rfl i (X i) (hX i hi)
    rw [Nat.zero_add]
    by_cases c : i = 0
    · subst c; simpa [Addr.add] using this
    · simpa [Addr.add, c] using this

end Go.Proofs.Ytpidcmfmdgppbaa
