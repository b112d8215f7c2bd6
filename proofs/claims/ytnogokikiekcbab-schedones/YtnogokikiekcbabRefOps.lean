import Derived.Test.YtnogokikiekcbabRefRound
/- The operations of the reference of layer 2. -/
namespace Go.Proofs.Ytnogokikiekcbab
open Go.RowKit
set_option linter.unusedVariables false

theorem nMin_ng (a : Int) (h0 : 0 ≤ a) (h1 : a < 4294967296) : nMin a = ng a.toNat := by
  unfold nMin ng
  by_cases c : 2147483648 ≤ a
  · have e1 : a / 2147483648 = 1 := by omega
    have e2 : a.toNat / 2147483648 % 2 = 1 := by omega
    rw [e1, e2]; rfl
  · have e1 : a / 2147483648 = 0 := by omega
    have e2 : a.toNat / 2147483648 % 2 = 0 := by omega
    rw [e1, e2]; rfl
theorem nNan_iff (a : Int) (h0 : 0 ≤ a) (h1 : a < 4294967296) : nNan a = nan a := by
  unfold nNan nan
  by_cases c : a / 8388608 % 256 = 255
  · rw [if_pos c]
    by_cases d : a % 8388608 = 0
    · have : ¬ (2139095040 < a % 2147483648) := by omega
      simp [d, this]
    · have : 2139095040 < a % 2147483648 := by omega
      simp [d, this]
  · rw [if_neg c]; have : ¬ (2139095040 < a % 2147483648) := by omega
    simp [this]
theorem ref_nan (a : Int) (h0 : 0 ≤ a) (h1 : a < 4294967296) (h : nNan a = true) : ∃ s t, Ieee.single.read a.toNat = .nan s t := by
  rw [nNan_iff a h0 h1, nan_rg a h0] at h
  exact ⟨_, _, read_nan _ (by simpa using h)⟩
theorem ref_inf (a : Int) (h0 : 0 ≤ a) (h1 : a < 4294967296) (h : nInf a = true) : Ieee.single.read a.toNat = .infinity (nMin a) ∧ nNan a = false ∧ nM a = 0 := by
  have c : a / 8388608 % 256 = 255 ∧ a % 8388608 = 0 := by
    unfold nInf at h; split at h
    · rename_i c; exact ⟨c, by simpa using h⟩
    · cases h
  refine ⟨?_, ?_, ?_⟩
  · rw [nMin_ng a h0 h1]; exact read_inf _ (by have := rg_toNat a h0; omega)
  · unfold nNan; simp [c]
  · unfold nM; rw [if_pos c.1]
theorem ref_fin (a : Int) (h0 : 0 ≤ a) (h1 : a < 4294967296) (hi : nInf a = false) (hn : nNan a = false) :
    Ieee.single.read a.toNat = .number (nMin a) (nM a).toNat (nE a) ∧ 0 ≤ nM a ∧ nM a < 16777216 ∧ -149 ≤ nE a ∧ nE a ≤ 104 ∧ (nE a = -149 ∨ 8388608 ≤ nM a) := by
  have c : ¬ (a / 8388608 % 256 = 255) := by
    intro c; unfold nInf at hi; unfold nNan at hn; rw [if_pos c] at hi hn; simp at hi hn; exact hi hn
  have hf : rg a.toNat < 2139095040 := by have := rg_toNat a h0; omega
  have hr := rg_toNat a h0
  rw [read_fin _ hf, nMin_ng a h0 h1]
  unfold nM nE mg te
  rw [if_neg c, if_neg c]
  by_cases d : a / 8388608 % 256 = 0
  · rw [if_pos d, if_pos d, if_pos (by omega), show rg a.toNat / 8388608 - 1 = 0 by omega, show (a % 8388608).toNat = rg a.toNat by omega]
    exact ⟨rfl, by omega, by omega, by omega, by omega, by omega⟩
  · rw [if_neg d, if_neg d, if_neg (by omega), show (8388608 + a % 8388608).toNat = 8388608 + rg a.toNat % 8388608 by omega, show -149 + ((rg a.toNat / 8388608 - 1 : Nat) : Int) = a / 8388608 % 256 - 150 by omega]
    exact ⟨rfl, by omega, by omega, by omega, by omega, by omega⟩

theorem op2_write (d : Ieee.Datum) : op2 ((some d).map Ieee.single.write) = (Ieee.single.write d : Nat) := rfl
theorem write_inf (s : Bool) : ((Ieee.single.write (.infinity s) : Nat) : Int) = sgn s + 2139095040 := by cases s <;> decide
theorem fmul_eq (a b : Int) {d e : Ieee.Datum} (h : Ieee.single.read a.toNat = d) (k : Ieee.single.read b.toNat = e) : fmul a b = op2 ((d.product e).map Ieee.single.write) := by
  unfold fmul Ieee.Format.mul; rw [h, k]
theorem xor_bne (s t : Bool) : (s ^^ t) = (s != t) := by cases s <;> cases t <;> rfl


theorem fmul_nan (a b : Int) (h0 : 0 ≤ a) (h1 : a < 4294967296) (g0 : 0 ≤ b) (g1 : b < 4294967296) (h : nNan a = true ∨ nNan b = true) : fmul a b = 2143289344 := by
  rcases h with h | h
  · obtain ⟨s, t, e⟩ := ref_nan a h0 h1 h
    rw [fmul_eq a b e rfl]; cases Ieee.single.read b.toNat <;> rfl
  · obtain ⟨s, t, e⟩ := ref_nan b g0 g1 h
    rw [fmul_eq a b rfl e]; cases Ieee.single.read a.toNat <;> rfl

theorem i64_xor_nat (a b : Nat) (ha : a < 9223372036854775808) (hb : b < 9223372036854775808) : bits .xor .i64 (a : Int) (b : Int) = ((a ^^^ b : Nat) : Int) := by
  have hx : a ^^^ b < 2 ^ 63 := Nat.xor_lt_two_pow (by omega) (by omega)
  show IntKind.i64.wrap ((BitVec.ofInt 64 (a : Int) ^^^ BitVec.ofInt 64 (b : Int)).toNat : Int) = _
  rw [BitVec.toNat_xor, ofInt_u64 a (by omega), ofInt_u64 b (by omega), IntKind.wrap_i64]
  omega
theorem i64_andNot_nat (a b : Nat) (ha : a < 9223372036854775808) (hb : b < 9223372036854775808) : bits .andNot .i64 (a : Int) (b : Int) = ((a &&& (18446744073709551615 - b) : Nat) : Int) := by
  have hx : a &&& (18446744073709551615 - b) ≤ a := Nat.and_le_left
  show IntKind.i64.wrap ((BitVec.ofInt 64 (a : Int) &&& ~~~BitVec.ofInt 64 (b : Int)).toNat : Int) = _
  rw [BitVec.toNat_and, BitVec.toNat_not, ofInt_u64 a (by omega), ofInt_u64 b (by omega), IntKind.wrap_i64]
  have e : 2 ^ 64 - 1 - b = 18446744073709551615 - b := by omega
  rw [e]
  omega
theorem xor64_sign (a : Int) (h0 : 0 ≤ a) (h1 : a < 4294967296) : bits .xor .i64 a 2147483648 = if 2147483648 ≤ a then a - 2147483648 else a + 2147483648 := by
  rw [← xor_sign a h0 h1, u32_xor a _ h0 h1 (by decide) (by decide)]
  obtain ⟨A, rfl⟩ := Int.eq_ofNat_of_zero_le h0
  exact i64_xor_nat A 2147483648 (by omega) (by decide)
theorem andNot64_sign (a : Int) (h0 : 0 ≤ a) (h1 : a < 4294967296) : bits .andNot .i64 a 2147483648 = a % 2147483648 := by
  rw [← less_sign a h0 h1, u32_andNot a _ h0 h1 (by decide) (by decide)]
  obtain ⟨A, rfl⟩ := Int.eq_ofNat_of_zero_le h0
  rw [show (2147483648 : Int) = ((2147483648 : Nat) : Int) from rfl, i64_andNot_nat A 2147483648 (by omega) (by decide), Int.toNat_natCast, Int.toNat_natCast]
  congr 1
  apply Nat.eq_of_testBit_eq; intro i
  rw [Nat.testBit_and, Nat.testBit_and]
  rcases Nat.lt_or_ge i 32 with c | c
  · have : ∀ j : Fin 32, (18446744073709551615 - 2147483648 : Nat).testBit j.val = (4294967295 - 2147483648 : Nat).testBit j.val := by decide
    rw [this ⟨i, c⟩]
  · have : A.testBit i = false := Nat.testBit_lt_two_pow (Nat.lt_of_lt_of_le (show A < 2 ^ 32 by omega) (Nat.pow_le_pow_right (by decide) c))
    rw [this, Bool.false_and, Bool.false_and]

end Go.Proofs.Ytnogokikiekcbab
