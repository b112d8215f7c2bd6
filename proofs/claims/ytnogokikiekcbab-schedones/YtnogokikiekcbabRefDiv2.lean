import Derived.Test.YtnogokikiekcbabRefDiv
import Derived.Test.YtnogokikiekcbabRefAdd2
/- The walk of Div of the reference of layer 2. -/
namespace Go.Proofs.Ytnogokikiekcbab
open Go.RowKit
set_option linter.unusedVariables false

theorem fdiv_nan (a b : Int) (h0 : 0 ≤ a) (h1 : a < 4294967296) (g0 : 0 ≤ b) (g1 : b < 4294967296) (h : nNan a = true ∨ nNan b = true) : fdiv a b = 2143289344 := by
  rcases h with h | h
  · obtain ⟨s, t, e⟩ := ref_nan a h0 h1 h
    rw [fdiv_eq a b e rfl]; cases Ieee.single.read b.toNat <;> rfl
  · obtain ⟨s, t, e⟩ := ref_nan b g0 g1 h
    rw [fdiv_eq a b rfl e]; cases Ieee.single.read a.toNat <;> rfl
theorem write_zero (s : Bool) : ((Ieee.single.write (.number s 0 0) : Nat) : Int) = sgn s := by cases s <;> decide
theorem quot_lo (A B : Int) (h1 : 8388608 ≤ A) (h2 : A < 16777216) (h3 : 8388608 ≤ B) (h4 : B < 16777216) : 0 ≤ A * 274877906944 / B ∧ A * 274877906944 / B < 1099511627776 ∧ 0 ≤ A * 274877906944 % B ∧ A * 274877906944 % B < 16777216 := by
  have e := Int.mul_ediv_add_emod (A * 274877906944) B
  have r0 := Int.emod_nonneg (A * 274877906944) (show B ≠ 0 by omega)
  have r1 := Int.emod_lt_of_pos (A * 274877906944) (show 0 < B by omega)
  have q0 : 0 ≤ A * 274877906944 / B := Int.ediv_nonneg (by omega) (by omega)
  refine ⟨q0, ?_, r0, by omega⟩
  apply Int.ediv_lt_of_lt_mul (by omega)
  omega

end Go.Proofs.Ytnogokikiekcbab
