import Derived.WalkKit
import Derived.WalkSpells
import Derived.Test.YtnogokikiekcbaaRows
import Derived.WalkLawsBesides
/- Plain facts on patterns of 32 bits: no program is in sight. -/
namespace Go.Proofs.Ytnogokikiekcbaa
open Go.RowKit
set_option linter.unusedVariables false

theorem and_mask (a : Int) (k : Nat) (hk : k < 32) (h0 : 0 ≤ a) (h1 : a < 4294967296) : bits .and .u32 a ((2 ^ k - 1 : Nat) : Int) = a % ((2 ^ k : Nat) : Int) := by
  have hp : 2 ^ k < 2 ^ 32 := Nat.pow_lt_pow_right (by omega) hk
  have hq : 0 < 2 ^ k := Nat.two_pow_pos k
  obtain ⟨n, rfl⟩ := Int.eq_ofNat_of_zero_le h0
  rw [u32_and _ _ h0 h1 (by omega) (by omega), Int.toNat_natCast, Int.toNat_natCast, Nat.and_two_pow_sub_one_eq_mod]
  rfl
theorem and_23 (a : Int) (h0 : 0 ≤ a) (h1 : a < 4294967296) : bits .and .u32 a 8388607 = a % 8388608 := and_mask a 23 (by omega) h0 h1
theorem and_8 (a : Int) (h0 : 0 ≤ a) (h1 : a < 4294967296) : bits .and .u32 a 255 = a % 256 := and_mask a 8 (by omega) h0 h1
theorem and_sign (a : Int) (h0 : 0 ≤ a) (h1 : a < 4294967296) : bits .and .u32 a 2147483648 = if 2147483648 ≤ a then 2147483648 else 0 := by
  rw [u32_and a _ h0 h1 (by omega) (by omega), show (2147483648 : Int).toNat = 2 ^ 31 from rfl, nat_bit]
  split <;> omega
theorem and_sign_ne (a : Int) (h0 : 0 ≤ a) (h1 : a < 4294967296) : (bits .and .u32 a 2147483648 != 0) = decide (2147483648 ≤ a) := by
  rw [and_sign a h0 h1]
  split <;> simp [*]
theorem less_sign (a : Int) (h0 : 0 ≤ a) (h1 : a < 4294967296) : bits .andNot .u32 a 2147483648 = a % 2147483648 := by
  rw [u32_andNot a _ h0 h1 (by omega) (by omega), show 4294967295 - (2147483648 : Int).toNat = 2 ^ 31 - 1 from rfl, Nat.and_two_pow_sub_one_eq_mod]
  omega
/-- the class of a pattern -/
def cls (a : Int) : Int :=
  if a / 8388608 % 256 = 255 then (if a % 8388608 = 0 then 4 else 5) else if a / 8388608 % 256 = 0 then (if a % 8388608 = 0 then 1 else 2) else 3
/-- is the pattern a NaN? (not reducible: the walk shall not open it) -/
def nan (a : Int) : Bool := decide (2139095040 < a % 2147483648)
theorem nan_iff (a : Int) : nan a = true ↔ 2139095040 < a % 2147483648 := by unfold nan; simp
theorem nan_not (a : Int) : nan a = false ↔ a % 2147483648 ≤ 2139095040 := by unfold nan; simp
theorem cls_nan (a : Int) (h : nan a = true) (h0 : 0 ≤ a) (h1 : a < 4294967296) : cls a = 5 := by
  rw [nan_iff] at h; unfold cls; rw [if_pos (by omega), if_neg (by omega)]
theorem cls_num (a : Int) (h : nan a = false) (h0 : 0 ≤ a) (h1 : a < 4294967296) : cls a ≠ 5 := by
  rw [nan_not] at h; unfold cls; repeat' split
  all_goals omega
def key (a : Int) : Int := if 2147483648 ≤ a then -1 - (a - 2147483648) else a
theorem canon_lo (a : Int) (h0 : 0 ≤ a) (h1 : a < 4294967296) : 0 ≤ (if nan a then 2143289344 else a) ∧ (if nan a then 2143289344 else a) < 4294967296 := by split <;> omega
def canon (a : Int) : Int := if nan a then 2143289344 else a
def mk (m : Bool) (e f : Int) : Int := if m then e * 8388608 + f + 2147483648 else e * 8388608 + f
end Go.Proofs.Ytnogokikiekcbaa
/- The walks of package bits and of its reference: integers alone. -/
namespace Go.Proofs.Ytnogokikiekcbaa
open Go.RowKit
set_option linter.unusedVariables false

set_option maxHeartbeats 400000 in
theorem parts_any (a : Int) (h0 : 0 ≤ a) (h1 : a < 4294967296) (w : World) :
    Calls Try.prog 91 #[.int .u32 a] w fun e w' => e = .returned (.tuple #[.bool (decide (2147483648 ≤ a)), .int .i64 (a / 8388608 % 256), .int .i64 (a % 8388608)]) ∧ w' = w := by
  have e1 := and_sign_ne a h0 h1
  have e2 := and_8 (a / 8388608) (by omega) (by omega)
  have e3 := and_23 a h0 h1
  go_enter Try.func91, Try.ntmps91
  go_wp2
  go_ret3
  exact ⟨rfl, rfl⟩

theorem ret_int {k : IntKind} {a b : Int} (h : a = b) : Ending.returned (.int k a) = .returned (.int k b) := by rw [h]

set_option maxHeartbeats 400000 in
theorem class_any (a : Int) (h0 : 0 ≤ a) (h1 : a < 4294967296) (w : World) :
    Calls Try.prog 84 #[.int .u32 a] w fun e w' => e = .returned (.int .i64 (cls a)) ∧ w' = w := by
  by_cases c1 : a / 8388608 % 256 = 255
  · by_cases c2 : a % 8388608 = 0
    · have hc : cls a = 4 := by unfold cls; rw [if_pos c1, if_pos c2]
      rw [hc]; clear hc
      go_enter Try.func84, Try.ntmps84
      go_wp2_with (go_at_call 91; refine (parts_any _ h0 h1 _).mono ?_; rintro e w' ⟨rfl, rfl⟩)
      go_ret
      exact ⟨rfl, rfl⟩
    · have hc : cls a = 5 := by unfold cls; rw [if_pos c1, if_neg c2]
      rw [hc]; clear hc
      go_enter Try.func84, Try.ntmps84
      go_wp2_with (go_at_call 91; refine (parts_any _ h0 h1 _).mono ?_; rintro e w' ⟨rfl, rfl⟩)
      go_ret
      exact ⟨rfl, rfl⟩
  · by_cases c2 : a / 8388608 % 256 = 0
    · by_cases c3 : a % 8388608 = 0
      · have hc : cls a = 1 := by unfold cls; rw [if_neg c1, if_pos c2, if_pos c3]
        rw [hc]; clear hc
        go_enter Try.func84, Try.ntmps84
        go_wp2_with (go_at_call 91; refine (parts_any _ h0 h1 _).mono ?_; rintro e w' ⟨rfl, rfl⟩)
        go_ret
        exact ⟨rfl, rfl⟩
      · have hc : cls a = 2 := by unfold cls; rw [if_neg c1, if_pos c2, if_neg c3]
        rw [hc]; clear hc
        go_enter Try.func84, Try.ntmps84
        go_wp2_with (go_at_call 91; refine (parts_any _ h0 h1 _).mono ?_; rintro e w' ⟨rfl, rfl⟩)
        go_ret
        exact ⟨rfl, rfl⟩
    · have hc : cls a = 3 := by unfold cls; rw [if_neg c1, if_neg c2]
      rw [hc]; clear hc
      go_enter Try.func84, Try.ntmps84
      go_wp2_with (go_at_call 91; refine (parts_any _ h0 h1 _).mono ?_; rintro e w' ⟨rfl, rfl⟩)
      go_ret
      exact ⟨rfl, rfl⟩

theorem class_nan (a : Int) (h0 : 0 ≤ a) (h1 : a < 4294967296) (hn : nan a = true) (w : World) :
    Calls Try.prog 84 #[.int .u32 a] w fun e w' => e = .returned (.int .i64 5) ∧ w' = w := by
  have := class_any a h0 h1 w
  rwa [cls_nan a hn h0 h1] at this

set_option maxHeartbeats 400000 in
theorem canon_any (a : Int) (h0 : 0 ≤ a) (h1 : a < 4294967296) (w : World) :
    Calls Try.prog 68 #[.int .u32 a] w fun e w' => e = .returned (.int .u32 (canon a)) ∧ w' = w := by
  cases hn : nan a
  · have hc : canon a = a := by unfold canon; simp [hn]
    have h5 : (cls a == 5) = false := by have := cls_num a hn h0 h1; simpa using this
    rw [hc]; clear hc hn
    go_enter Try.func68, Try.ntmps68
    go_wp2_with (go_at_call 84; refine (class_any _ h0 h1 _).mono ?_; rintro e w' ⟨rfl, rfl⟩)
    go_ret
    exact ⟨rfl, rfl⟩
  · have hc : canon a = 2143289344 := by unfold canon; simp [hn]
    rw [hc]; clear hc
    go_enter Try.func68, Try.ntmps68
    go_wp2_with (go_at_call 84; refine (class_nan _ h0 h1 hn _).mono ?_; rintro e w' ⟨rfl, rfl⟩)
    go_ret
    exact ⟨rfl, rfl⟩

end Go.Proofs.Ytnogokikiekcbaa
