import Derived.Test.YtpidcmfmdgppbaaVecSure
/- Rows of one's own: written over, made longer. -/
namespace Go.Proofs.Ytpidcmfmdgppbaa
open Go.RowKit
set_option linter.unusedVariables false

/-- A row that lies below block N. -/
def RB (N : Nat) (w : World) (p : Option Addr) (n : Nat) (X : Nat → Int) : Prop := n = 0 ∨ ∃ b o, p = some ⟨b, o, none⟩ ∧ b < N ∧ ∀ i, i < n → w.cell? ⟨b, o + i, none⟩ = some (.int .u32 (X i))
theorem RB.out {N : Nat} {w : World} {p : Option Addr} {n : Nat} {X : Nat → Int} (h : RB N w p n X) : Reads w p n (fun i => .int .u32 (X i)) := by
  rcases h with h | ⟨b, o, e, -, h⟩
  · exact .inl h
  · exact .inr ⟨b, o, e, h⟩
theorem RB.of {w : World} {p : Option Addr} {n : Nat} {X : Nat → Int} (h : Reads w p n (fun i => .int .u32 (X i))) : RB w.heap.size w p n X := by
  rcases Nat.eq_zero_or_pos n with c | c
  · exact .inl c
  rcases h with h | ⟨b, o, e, h⟩
  · exact .inl h
  · exact .inr ⟨b, o, e, mcell_lt (h 0 c), h⟩
theorem RB.below {N : Nat} {w w' : World} {p : Option Addr} {n : Nat} {X : Nat → Int} (h : RB N w p n X) (k : Below w.heap.size w w') : RB N w' p n X := by
  rcases h with h | ⟨b, o, e, hb, h⟩
  · exact .inl h
  · exact .inr ⟨b, o, e, hb, fun i hi => (k.cell (mcell_lt (h i hi))).trans (h i hi)⟩
theorem RB.mono {N M : Nat} {w : World} {p : Option Addr} {n : Nat} {X : Nat → Int} (h : RB N w p n X) (k : N ≤ M) : RB M w p n X := by
  rcases h with h | ⟨b, o, e, hb, h⟩
  · exact .inl h
  · exact .inr ⟨b, o, e, by omega, h⟩
theorem RB.set {N : Nat} {w : World} {p : Option Addr} {n : Nat} {X : Nat → Int} (h : RB N w p n X) {g : Nat} (hg : N ≤ g) (i : Nat) (x : Value) : RB N (w.setCell ⟨g, i, none⟩ x) p n X := by
  rcases h with h | ⟨b, o, e, hb, h⟩
  · exact .inl h
  · exact .inr ⟨b, o, e, hb, fun j hj => by rw [World.cell?_setCell_far _ _ _ _ (by simp; omega)]; exact h j hj⟩
theorem RB.grown {N : Nat} {w w' : World} {p : Option Addr} {n : Nat} {X : Nat → Int} (h : RB N w p n X) {g : Nat} (hg : w.grownBy w' (some g)) (hn : N ≤ g) : RB N w' p n X := by
  rcases h with h | ⟨b, o, e, hb, h⟩
  · exact .inl h
  · exact .inr ⟨b, o, e, hb, fun i hi => by rw [hg.cell_far _ (mcell_lt (h i hi)) (by simp; omega)]; exact h i hi⟩

/-- A whole row, as one's own. -/
theorem owns_of_row {w : World} {g base n : Nat} {t : TypeId} {f : Nat → Value} (h : w.rowIs g t n f) (hb : base ≤ g) (hn : n ≤ 1048576) : w.ownsRow base t 1 (.slice (some ⟨g, 0, none⟩) n n) n (vals f n) := by
  obtain ⟨cur, h1, h2, h3⟩ := h
  refine ⟨by rw [vals_len, Nat.mul_one], .inr ⟨g, n, cur, rfl, hb, h1, Nat.le_refl _, by unfold maxLen; omega, by rw [h2, Nat.mul_one], ?_⟩⟩
  rw [Nat.mul_one]
  apply List.ext_getElem?
  intro i
  by_cases hi : i < n
  · rw [vals_at f n i hi, List.getElem?_take_of_lt hi]
    have := h3 i hi
    simpa using this
  · rw [List.getElem?_eq_none (by simp; omega), List.getElem?_eq_none (by rw [vals_len]; omega)]

theorem row_grown {w w' : World} {g k n : Nat} {t : TypeId} {f : Nat → Value} (h : w.rowIs g t n f) (hg : w.grownBy w' (some k)) (hne : g ≠ k) : w'.rowIs g t n f := h.of_block (hg.block g h.lt (by simp; exact hne))

theorem vals_app (f : Nat → Value) (n : Nat) (xs : List Value) (g : Nat → Value) (h : ∀ i, i < xs.length → xs[i]? = some (g i)) : vals f n ++ xs = vals (fun i => if i < n then f i else g (i - n)) (n + xs.length) := by
  apply List.ext_getElem?
  intro i
  by_cases h1 : i < n
  · rw [List.getElem?_append_left (by rw [vals_len]; exact h1), vals_at f n i h1, vals_at _ _ i (by omega), if_pos h1]
  · rw [List.getElem?_append_right (by rw [vals_len]; omega), vals_len]
    by_cases h2 : i - n < xs.length
    · rw [h _ h2, vals_at _ _ i (by omega), if_neg h1]
    · rw [List.getElem?_eq_none (by omega), List.getElem?_eq_none (by rw [vals_len]; omega)]

/-- The last of a list that was made longer. -/
def LastIs (w : World) (q : Option Addr) (k : Nat) (x : Value) (bad : Nat → Prop) : Prop := ∃ b o, q = some ⟨b, o, none⟩ ∧ ¬ bad b ∧ w.cell? ⟨b, o + (k - 1), none⟩ = some x

end Go.Proofs.Ytpidcmfmdgppbaa
