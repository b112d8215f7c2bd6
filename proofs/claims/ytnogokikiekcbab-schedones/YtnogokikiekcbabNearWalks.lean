import Derived.Test.YtnogokikiekcbabFloatWorks
import Derived.Test.YtnogokikiekcbabNearPlain
import Derived.Handy
/- The walks of the statements' own parts. -/
namespace Go.Proofs.Ytnogokikiekcbab
open Go.RowKit
set_option linter.unusedVariables false

theorem and_i64 (a : Int) (k : Nat) (hk : k < 32) (h0 : 0 ≤ a) (h1 : a < 4294967296) : bits .and .i64 a ((2 ^ k - 1 : Nat) : Int) = a % ((2 ^ k : Nat) : Int) := by
  have hp : 2 ^ k < 2 ^ 32 := Nat.pow_lt_pow_right (by omega) hk
  have hq : 0 < 2 ^ k := Nat.two_pow_pos k
  obtain ⟨n, rfl⟩ := Int.eq_ofNat_of_zero_le h0
  have hx : n &&& (2 ^ k - 1) ≤ n := Nat.and_le_left
  show IntKind.i64.wrap ((BitVec.ofInt 64 (n : Int) &&& BitVec.ofInt 64 ((2 ^ k - 1 : Nat) : Int)).toNat : Int) = _
  rw [BitVec.toNat_and, ofInt_u64 n (by omega), ofInt_u64 _ (by omega), IntKind.wrap_i64]
  rw [Nat.and_two_pow_sub_one_eq_mod] at hx ⊢
  omega
theorem and_i64_8 (a : Int) (h0 : 0 ≤ a) (h1 : a < 4294967296) : bits .and .i64 a 255 = a % 256 := and_i64 a 8 (by decide) h0 h1
theorem and_i64_23 (a : Int) (h0 : 0 ≤ a) (h1 : a < 4294967296) : bits .and .i64 a 8388607 = a % 8388608 := and_i64 a 23 (by decide) h0 h1

theorem pow36 (d : Nat) (hd : d ≤ 36) : (2 : Int) ^ d ≤ 68719476736 := by
  have h : 2 ^ d ≤ 68719476736 := Nat.le_trans (Nat.pow_le_pow_right (by decide) hd) (by decide)
  have h' : ((2 ^ d : Nat) : Int) ≤ ((68719476736 : Nat) : Int) := Int.ofNat_le.2 h
  rw [Int.natCast_pow] at h'; exact h'
theorem shl_lo (m : Int) (d : Nat) (B : Int) (h1 : -16777216 ≤ m) (h2 : m ≤ 16777216) (hd : d ≤ 36) : -1152921504606846976 ≤ m * 2 ^ d ∧ m * 2 ^ d ≤ 1152921504606846976 := by
  have p1 : (1 : Int) ≤ 2 ^ d := Int.pow_pos (by decide)
  have p2 : (2 : Int) ^ d ≤ 68719476736 := pow36 d hd
  have a1 : m * 2 ^ d ≤ 16777216 * 2 ^ d := Int.mul_le_mul_of_nonneg_right h2 (by omega)
  have a2 : -16777216 * 2 ^ d ≤ m * 2 ^ d := Int.mul_le_mul_of_nonneg_right h1 (by omega)
  constructor <;> omega

end Go.Proofs.Ytnogokikiekcbab
