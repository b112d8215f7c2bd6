import Derived.Test.YtnogokikiekcbabFloatWorks
import Derived.Handy
/- The walks of the reference of layer 2: numbers, rounding. -/
namespace Go.Proofs.Ytnogokikiekcbab
open Go.RowKit
set_option linter.unusedVariables false

theorem and_mask64 (a : Int) (k : Nat) (hk : k < 64) (h0 : 0 ≤ a) (h1 : a < 18446744073709551616) : bits .and .u64 a ((2 ^ k - 1 : Nat) : Int) = a % ((2 ^ k : Nat) : Int) := by
  have hp : 2 ^ k < 2 ^ 64 := Nat.pow_lt_pow_right (by omega) hk
  have hq : 0 < 2 ^ k := Nat.two_pow_pos k
  obtain ⟨n, rfl⟩ := Int.eq_ofNat_of_zero_le h0
  rw [u64_and _ _ h0 h1 (by omega) (by omega), Int.toNat_natCast, Int.toNat_natCast, Nat.and_two_pow_sub_one_eq_mod]
  rfl
theorem and64_8 (a : Int) (h0 : 0 ≤ a) (h1 : a < 18446744073709551616) : bits .and .u64 a 255 = a % 256 := and_mask64 a 8 (by decide) h0 h1
theorem and64_23 (a : Int) (h0 : 0 ≤ a) (h1 : a < 18446744073709551616) : bits .and .u64 a 8388607 = a % 8388608 := and_mask64 a 23 (by decide) h0 h1

def nMin (a : Int) : Bool := a / 2147483648 == 1
def nM (a : Int) : Int := if a / 8388608 % 256 = 255 then 0 else if a / 8388608 % 256 = 0 then a % 8388608 else 8388608 + a % 8388608
def nE (a : Int) : Int := if a / 8388608 % 256 = 255 then 0 else if a / 8388608 % 256 = 0 then -149 else a / 8388608 % 256 - 150
def nInf (a : Int) : Bool := if a / 8388608 % 256 = 255 then a % 8388608 == 0 else false
def nNan (a : Int) : Bool := if a / 8388608 % 256 = 255 then a % 8388608 != 0 else false

def sgn (s : Bool) : Int := if s then 2147483648 else 0
theorem sgn_lo (s : Bool) : 0 ≤ sgn s ∧ sgn s ≤ 2147483648 := by unfold sgn; split <;> decide

def blen (n : Nat) : Nat := if n = 0 then 0 else n.log2 + 1
theorem blen_step (n : Nat) (h : n ≠ 0) : blen n = blen (n / 2) + 1 := by
  unfold blen
  rw [if_neg h]
  by_cases c : n / 2 = 0
  · rw [if_pos c]
    have : n = 1 := by omega
    subst this; decide
  · rw [if_neg c, Nat.log2_def n, if_pos (by omega)]

theorem cut_val (neg : Bool) (n drop : Nat) : Ieee.Toward.even.cut neg n drop = n / 2 ^ drop + (if 2 ^ drop < 2 * (n % 2 ^ drop) ∨ (2 ^ drop = 2 * (n % 2 ^ drop) ∧ n / 2 ^ drop % 2 = 1) then 1 else 0) := by
  have key : ∀ g l r : Nat, l + (decide (g < 2 * r) || g == 2 * r && l % 2 == 1).toNat = l + (if g < 2 * r ∨ (g = 2 * r ∧ l % 2 = 1) then 1 else 0) := by
    intro g l r
    by_cases c1 : g < 2 * r
    · simp [c1]
    · by_cases c2 : g = 2 * r
      · by_cases c3 : l % 2 = 1 <;> simp [c2, c3]
      · simp [c1, c2]
  unfold Ieee.Toward.cut
  simp only [Nat.one_shiftLeft]
  rcases Nat.lt_or_ge (n.log2 + 2) drop with c | c
  · rw [Nat.min_eq_right (by omega)]
    have h1 : n < 2 ^ (n.log2 + 1) := Nat.lt_log2_self
    have h2 : 2 ^ (n.log2 + 2) = 2 * 2 ^ (n.log2 + 1) := by rw [Nat.pow_succ]; omega
    have h3 : 2 ^ (n.log2 + 2) ≤ 2 ^ drop := Nat.pow_le_pow_right (by omega) (by omega)
    rw [key, Nat.div_eq_of_lt (by omega), Nat.mod_eq_of_lt (by omega), Nat.div_eq_of_lt (by omega), Nat.mod_eq_of_lt (show n < 2 ^ drop by omega)]
    rw [if_neg (by omega), if_neg (by omega)]
  · rw [Nat.min_eq_left (by omega), key]

theorem cut_int (m : Int) (h0 : 0 ≤ m) (d : Nat) (hd : 1 ≤ d) : ((Ieee.Toward.even.cut false m.toNat d : Nat) : Int) = if (2 : Int) ^ (d - 1) < m % 2 ^ d ∨ (m % 2 ^ d = 2 ^ (d - 1) ∧ m / 2 ^ d % 2 = 1) then m / 2 ^ d + 1 else m / 2 ^ d := by
  obtain ⟨n, rfl⟩ := Int.eq_ofNat_of_zero_le h0
  rw [cut_val, Int.toNat_natCast]
  have hG : 2 ^ d = 2 * 2 ^ (d - 1) := by
    obtain ⟨e, rfl⟩ : ∃ e, d = e + 1 := ⟨d - 1, by omega⟩
    rw [Nat.add_sub_cancel, Nat.pow_succ, Nat.mul_comm]
  have e1 : ((n : Int) / 2 ^ d) = ((n / 2 ^ d : Nat) : Int) := by push_cast; rfl
  have e2 : ((n : Int) % 2 ^ d) = ((n % 2 ^ d : Nat) : Int) := by push_cast; rfl
  have e3 : (2 : Int) ^ (d - 1) = ((2 ^ (d - 1) : Nat) : Int) := by push_cast; rfl
  rw [e1, e2, e3]
  generalize n / 2 ^ d = q
  generalize n % 2 ^ d = r
  rw [hG]
  generalize 2 ^ (d - 1) = H
  by_cases c : 2 * H < 2 * r ∨ (2 * H = 2 * r ∧ q % 2 = 1)
  · rw [if_pos c, if_pos (by omega)]; omega
  · rw [if_neg c, if_neg (by omega)]; omega

end Go.Proofs.Ytnogokikiekcbab
