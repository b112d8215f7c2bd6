import Derived.Test.YtbeamaaclplababFloatWorks
import Derived.Test.YtbeamaaclplababNearPlain
import Derived.Handy
/- The walks of the statements' own parts. -/
namespace Go.Proofs.Ytbeamaaclplabab
open Go.RowKit
set_option linter.unusedVariables false

set_option maxHeartbeats 400000 in
theorem n_any (a : Int) (h0 : 0 ≤ a) (h1 : a < 4294967296) (w : World) :
    Calls Try.prog 24 #[.int .u32 a] w fun e w' => e = .returned (.int .i64 a) ∧ w' = w := by
  go_enter Try.func24, Try.ntmps24
  go_wp2
  go_ret
  exact ⟨rfl, rfl⟩

theorem and_i64 (a : Int) (k : Nat) (hk : k < 32) (h0 : 0 ≤ a) (h1 : a < 4294967296) : bits .and .i64 a ((2 ^ k - 1 : Nat) : Int) = a % ((2 ^ k : Nat) : Int) := by
  have hp : 2 ^ k < 2 ^ 32 := Nat.pow_lt_pow_right (by omega) hk
  have hq : 0 < 2 ^ k := Nat.two_pow_pos k
  obtain ⟨n, rfl⟩ := Int.eq_ofNat_of_zero_le h0
  have hx : n &&& (2 ^ k - 1) ≤ n := Nat.and_le_left
  show IntKind.i64.wrap ((BitVec.ofInt 64 (n : Int) &&& BitVec.ofInt 64 ((2 ^ k - 1 : Nat) : Int)).toNat : Int) = _
  rw [BitVec.toNat_and, ofInt_u64 n (by omega), ofInt_u64 _ (by omega), IntKind.wrap_i64]
  rw [Nat.and_two_pow_sub_one_eq_mod] at hx ⊢
  omega
theorem and_i64_8 (a : Int) (h0 : 0 ≤ a) (h1 : a < 4294967296) : bits .and .i64 a 255 = a % 256 := and_i64 a 8 (by decide) h0 h1
theorem and_i64_23 (a : Int) (h0 : 0 ≤ a) (h1 : a < 4294967296) : bits .and .i64 a 8388607 = a % 8388608 := and_i64 a 23 (by decide) h0 h1

set_option maxHeartbeats 400000 in
theorem prt_any (a : Int) (h0 : 0 ≤ a) (h1 : a < 4294967296) (w : World) :
    Calls Try.prog 26 #[.int .u32 a] w fun e w' => e = .returned (.tuple #[.int .i64 (pM a), .int .i64 (pE a)]) ∧ w' = w := by
  have e1 := and_i64_8 (a / 8388608) (by omega) (by omega)
  have e2 := and_i64_23 a h0 h1
  unfold pM pE pS
  by_cases c : 0 < a / 8388608 % 256
  · have c2 : ¬ (a / 8388608 % 256 < 1) := by omega
    rw [if_pos c, show max (a / 8388608 % 256) 1 = a / 8388608 % 256 by omega]
    by_cases d : 2147483648 ≤ a
    · have d2 : a / 2147483648 = 1 := by omega
      rw [if_pos d]
      go_enter Try.func26, Try.ntmps26
      go_wp2_with (go_at_call 24; refine (n_any _ (by omega) (by omega) _).mono ?_; rintro e w' ⟨rfl, rfl⟩)
      go_ret2
      exact ⟨rfl, rfl⟩
    · have d2 : a / 2147483648 = 0 := by omega
      rw [if_neg d]
      go_enter Try.func26, Try.ntmps26
      go_wp2_with (go_at_call 24; refine (n_any _ (by omega) (by omega) _).mono ?_; rintro e w' ⟨rfl, rfl⟩)
      go_ret2
      exact ⟨rfl, rfl⟩
  · have c2 : a / 8388608 % 256 = 0 := by omega
    rw [if_neg c, show max (a / 8388608 % 256) 1 - 150 = -149 by omega]
    by_cases d : 2147483648 ≤ a
    · have d2 : a / 2147483648 = 1 := by omega
      rw [if_pos d]
      go_enter Try.func26, Try.ntmps26
      go_wp2_with (go_at_call 24; refine (n_any _ (by omega) (by omega) _).mono ?_; rintro e w' ⟨rfl, rfl⟩)
      go_ret2
      exact ⟨rfl, rfl⟩
    · have d2 : a / 2147483648 = 0 := by omega
      rw [if_neg d]
      go_enter Try.func26, Try.ntmps26
      go_wp2_with (go_at_call 24; refine (n_any _ (by omega) (by omega) _).mono ?_; rintro e w' ⟨rfl, rfl⟩)
      go_ret2
      exact ⟨rfl, rfl⟩

theorem pow36 (d : Nat) (hd : d ≤ 36) : (2 : Int) ^ d ≤ 68719476736 := by
  have h : 2 ^ d ≤ 68719476736 := Nat.le_trans (Nat.pow_le_pow_right (by decide) hd) (by decide)
  have h' : ((2 ^ d : Nat) : Int) ≤ ((68719476736 : Nat) : Int) := Int.ofNat_le.2 h
  rw [Int.natCast_pow] at h'; exact h'
theorem shl_lo (m : Int) (d : Nat) (B : Int) (h1 : -16777216 ≤ m) (h2 : m ≤ 16777216) (hd : d ≤ 36) : -1152921504606846976 ≤ m * 2 ^ d ∧ m * 2 ^ d ≤ 1152921504606846976 := by
  have p1 : (1 : Int) ≤ 2 ^ d := Int.pow_pos (by decide)
  have p2 : (2 : Int) ^ d ≤ 68719476736 := pow36 d hd
  have a1 : m * 2 ^ d ≤ 16777216 * 2 ^ d := Int.mul_le_mul_of_nonneg_right h2 (by omega)
  have a2 : -16777216 * 2 ^ d ≤ m * 2 ^ d := Int.mul_le_mul_of_nonneg_right h1 (by omega)
  constructor <;> omega

end Go.Proofs.Ytbeamaaclplabab
