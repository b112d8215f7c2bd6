import Derived.Test.YtnogokikiekcbaaFloatWorks
import Derived.Handy
/- The walks of the reference of layer 2: numbers, rounding. -/
namespace Go.Proofs.Ytnogokikiekcbaa
open Go.RowKit
set_option linter.unusedVariables false

theorem and_mask64 (a : Int) (k : Nat) (hk : k < 64) (h0 : 0 ≤ a) (h1 : a < 18446744073709551616) : bits .and .u64 a ((2 ^ k - 1 : Nat) : Int) = a % ((2 ^ k : Nat) : Int) := by
  have hp : 2 ^ k < 2 ^ 64 := Nat.pow_lt_pow_right (by omega) hk
  have hq : 0 < 2 ^ k := Nat.two_pow_pos k
  obtain ⟨n, rfl⟩ := Int.eq_ofNat_of_zero_le h0
  rw [u64_and _ _ h0 h1 (by omega) (by omega), Int.toNat_natCast, Int.toNat_natCast, Nat.and_two_pow_sub_one_eq_mod]
  rfl
theorem and64_8 (a : Int) (h0 : 0 ≤ a) (h1 : a < 18446744073709551616) : bits .and .u64 a 255 = a % 256 := and_mask64 a 8 (by decide) h0 h1
theorem and64_23 (a : Int) (h0 : 0 ≤ a) (h1 : a < 18446744073709551616) : bits .and .u64 a 8388607 = a % 8388608 := and_mask64 a 23 (by decide) h0 h1

def nMin (a : Int) : Bool := a / 2147483648 == 1
def nM (a : Int) : Int := if a / 8388608 % 256 = 255 then 0 else if a / 8388608 % 256 = 0 then a % 8388608 else 8388608 + a % 8388608
def nE (a : Int) : Int := if a / 8388608 % 256 = 255 then 0 else if a / 8388608 % 256 = 0 then -149 else a / 8388608 % 256 - 150
def nInf (a : Int) : Bool := if a / 8388608 % 256 = 255 then a % 8388608 == 0 else false
def nNan (a : Int) : Bool := if a / 8388608 % 256 = 255 then a % 8388608 != 0 else false

set_option maxHeartbeats 400000 in
theorem rof_any (a : Int) (h0 : 0 ≤ a) (h1 : a < 4294967296) (w : World) :
    Calls Try.prog 44 #[.int .i64 a] w fun e w' => e = .returned (.agg #[.bool (nMin a), .int .u64 (nM a), .int .i64 (nE a), .bool (nInf a), .bool (nNan a)]) ∧ ∃ o, w' = (w.alloc o).alloc o := by
  have e1 := and64_8 (a / 8388608) (by omega) (by omega)
  have e2 := and64_23 a h0 (by omega)
  by_cases c : a / 8388608 % 256 = 255
  · have f1 : nM a = 0 := by unfold nM; rw [if_pos c]
    have f2 : nE a = 0 := by unfold nE; rw [if_pos c]
    have f3 : nInf a = (a % 8388608 == 0) := by unfold nInf; rw [if_pos c]
    have f4 : nNan a = (a % 8388608 != 0) := by unfold nNan; rw [if_pos c]
    rw [f1, f2, f3, f4]; unfold nMin; clear f1 f2 f3 f4
    go_enter Try.func44, Try.ntmps44
    go_wp2
    go_returns
    exact ⟨rfl, _, rfl⟩
  · by_cases c2 : a / 8388608 % 256 = 0
    · have f1 : nM a = a % 8388608 := by unfold nM; rw [if_neg c, if_pos c2]
      have f2 : nE a = -149 := by unfold nE; rw [if_neg c, if_pos c2]
      have f3 : nInf a = false := by unfold nInf; rw [if_neg c]
      have f4 : nNan a = false := by unfold nNan; rw [if_neg c]
      rw [f1, f2, f3, f4]; unfold nMin; clear f1 f2 f3 f4
      go_enter Try.func44, Try.ntmps44
      go_wp2
      go_returns
      exact ⟨rfl, _, rfl⟩
    · have f1 : nM a = 8388608 + a % 8388608 := by unfold nM; rw [if_neg c, if_neg c2]
      have f2 : nE a = a / 8388608 % 256 - 150 := by unfold nE; rw [if_neg c, if_neg c2]
      have f3 : nInf a = false := by unfold nInf; rw [if_neg c]
      have f4 : nNan a = false := by unfold nNan; rw [if_neg c]
      rw [f1, f2, f3, f4]; unfold nMin; clear f1 f2 f3 f4
      go_enter Try.func44, Try.ntmps44
      go_wp2
      go_returns
      exact ⟨rfl, _, rfl⟩

def sgn (s : Bool) : Int := if s then 2147483648 else 0
theorem sgn_lo (s : Bool) : 0 ≤ sgn s ∧ sgn s ≤ 2147483648 := by unfold sgn; split <;> decide

set_option maxHeartbeats 400000 in
theorem rsign_any (s : Bool) (w : World) :
    Calls Try.prog 69 #[.bool s] w fun e w' => e = .returned (.int .u64 (sgn s)) ∧ w' = w := by
  cases s
  all_goals (
    go_enter Try.func69, Try.ntmps69
    go_wp2
    go_ret
    exact ⟨rfl, rfl⟩)

set_option maxHeartbeats 400000 in
theorem rzero_any (s : Bool) (w : World) :
    Calls Try.prog 48 #[.bool s] w fun e w' => e = .returned (.int .i64 (sgn s)) ∧ w' = w := by
  have hl := sgn_lo s
  go_enter Try.func48, Try.ntmps48
  go_wp2_with (go_at_call 69; refine (rsign_any _ _).mono ?_; rintro e w' ⟨rfl, rfl⟩)
  go_ret
  exact ⟨rfl, rfl⟩

set_option maxHeartbeats 400000 in
theorem rinf_any (s : Bool) (w : World) :
    Calls Try.prog 47 #[.bool s] w fun e w' => e = .returned (.int .i64 (sgn s + 2139095040)) ∧ w' = w := by
  have hl := sgn_lo s
  go_enter Try.func47, Try.ntmps47
  go_wp2_with (go_at_call 69; refine (rsign_any _ _).mono ?_; rintro e w' ⟨rfl, rfl⟩)
  go_ret
  exact ⟨rfl, rfl⟩

def blen (n : Nat) : Nat := if n = 0 then 0 else n.log2 + 1
theorem blen_step (n : Nat) (h : n ≠ 0) : blen n = blen (n / 2) + 1 := by
  unfold blen
  rw [if_neg h]
  by_cases c : n / 2 = 0
  · rw [if_pos c]
    have : n = 1 := by omega
    subst this; decide
  · rw [if_neg c, Nat.log2_def n, if_pos (by omega)]

set_option maxHeartbeats 400000 in
theorem rlength_any (m : Int) (h0 : 0 ≤ m) (h1 : m < 18446744073709551616) (w : World) :
    Calls Try.prog 70 #[.int .u64 m] w fun e w' => e = .returned (.int .i64 (blen m.toNat)) ∧ w' = w := by
  have hb : blen m.toNat ≤ 64 := by
    unfold blen; split
    · omega
    · rename_i c
      have : m.toNat.log2 < 64 := (Nat.log2_lt c).2 (by omega)
      omega
  generalize hB : blen m.toNat = B at *
  have HB : Hid (blen m.toNat = B) := hB
  clear hB
  go_enter Try.func70, Try.ntmps70
  go_wp2
  go_loop [0, 3] (fun mv nv => ∃ (x : Int) (k : Nat), 0 ≤ x ∧ x ≤ m ∧ mv = .int .u64 x ∧ nv = .int .i64 k ∧ k + blen x.toNat = B) (fun mv _ => (intOf mv).toNat)
  case atStart => exact ⟨m, 0, h0, Int.le_refl _, rfl, rfl, by rw [HB.out]; omega⟩
  case round =>
    obtain ⟨x, k, hx0, hx1, rfl, rfl, hk⟩ := hrel
    have HK : Hid (k + blen x.toNat = B) := hk
    by_cases hz : x = 0
    · have : k = B := by rw [← hk, hz]; rfl
      subst this
      clear hk HK HB
      subst hz
      go_wp2
      go_ret
      exact ⟨rfl, rfl⟩
    · have hs := blen_step x.toNat (by omega)
      have HS : Hid (blen x.toNat = blen (x.toNat / 2) + 1) := hs
      have hkB : k ≤ 63 := by omega
      clear hs hk
      go_wp2
      go_round
      case rel => exact ⟨x / 2, k + 1, by omega, by omega, rfl, by go_num, by rw [show (x / 2).toNat = x.toNat / 2 by omega]; have := HK.out; have := HS.out; omega⟩
      case measure => simp [intOf]; omega

theorem cut_val (neg : Bool) (n drop : Nat) : Ieee.Toward.even.cut neg n drop = n / 2 ^ drop + (if 2 ^ drop < 2 * (n % 2 ^ drop) ∨ (2 ^ drop = 2 * (n % 2 ^ drop) ∧ n / 2 ^ drop % 2 = 1) then 1 else 0) := by
  have key : ∀ g l r : Nat, l + (decide (g < 2 * r) || g == 2 * r && l % 2 == 1).toNat = l + (if g < 2 * r ∨ (g = 2 * r ∧ l % 2 = 1) then 1 else 0) := by
    intro g l r
    by_cases c1 : g < 2 * r
    · simp [c1]
    · by_cases c2 : g = 2 * r
      · by_cases c3 : l % 2 = 1 <;> simp [c2, c3]
      · simp [c1, c2]
  unfold Ieee.Toward.cut
  simp only [Nat.one_shiftLeft]
  rcases Nat.lt_or_ge (n.log2 + 2) drop with c | c
  · rw [Nat.min_eq_right (by omega)]
    have h1 : n < 2 ^ (n.log2 + 1) := Nat.lt_log2_self
    have h2 : 2 ^ (n.log2 + 2) = 2 * 2 ^ (n.log2 + 1) := by rw [Nat.pow_succ]; omega
    have h3 : 2 ^ (n.log2 + 2) ≤ 2 ^ drop := Nat.pow_le_pow_right (by omega) (by omega)
    rw [key, Nat.div_eq_of_lt (by omega), Nat.mod_eq_of_lt (by omega), Nat.div_eq_of_lt (by omega), Nat.mod_eq_of_lt (show n < 2 ^ drop by omega)]
    rw [if_neg (by omega), if_neg (by omega)]
  · rw [Nat.min_eq_left (by omega), key]

theorem cut_int (m : Int) (h0 : 0 ≤ m) (d : Nat) (hd : 1 ≤ d) : ((Ieee.Toward.even.cut false m.toNat d : Nat) : Int) = if (2 : Int) ^ (d - 1) < m % 2 ^ d ∨ (m % 2 ^ d = 2 ^ (d - 1) ∧ m / 2 ^ d % 2 = 1) then m / 2 ^ d + 1 else m / 2 ^ d := by
  obtain ⟨n, rfl⟩ := Int.eq_ofNat_of_zero_le h0
  rw [cut_val, Int.toNat_natCast]
  have hG : 2 ^ d = 2 * 2 ^ (d - 1) := by
    obtain ⟨e, rfl⟩ : ∃ e, d = e + 1 := ⟨d - 1, by omega⟩
    rw [Nat.add_sub_cancel, Nat.pow_succ, Nat.mul_comm]
  have e1 : ((n : Int) / 2 ^ d) = ((n / 2 ^ d : Nat) : Int) := by push_cast; rfl
  have e2 : ((n : Int) % 2 ^ d) = ((n % 2 ^ d : Nat) : Int) := by push_cast; rfl
  have e3 : (2 : Int) ^ (d - 1) = ((2 ^ (d - 1) : Nat) : Int) := by push_cast; rfl
  rw [e1, e2, e3]
  generalize n / 2 ^ d = q
  generalize n % 2 ^ d = r
  rw [hG]
  generalize 2 ^ (d - 1) = H
  by_cases c : 2 * H < 2 * r ∨ (2 * H = 2 * r ∧ q % 2 = 1)
  · rw [if_pos c, if_pos (by omega)]; omega
  · rw [if_neg c, if_neg (by omega)]; omega

set_option maxHeartbeats 800000 in
theorem rhalved_low (m : Int) (h0 : 0 ≤ m) (h1 : m < 18446744073709551616) (d : Nat) (g0 : 1 ≤ d) (g1 : d < 64) (w : World) :
    Calls Try.prog 71 #[.int .u64 m, .int .i64 d] w fun e w' => e = .returned (.int .u64 (Ieee.Toward.even.cut false m.toNat d : Nat)) ∧ w' = w := by
  rw [cut_int m h0 d g0]
  have hG : (2 : Int) ^ d = 2 * 2 ^ (d - 1) := by
    obtain ⟨e, rfl⟩ : ∃ e, d = e + 1 := ⟨d - 1, by omega⟩
    rw [Nat.add_sub_cancel, Int.pow_succ, Int.mul_comm]
  have hle : (2 : Int) ^ d ≤ 9223372036854775808 := by
    have h : 2 ^ d ≤ 9223372036854775808 := Nat.le_trans (Nat.pow_le_pow_right (by decide) (show d ≤ 63 by omega)) (by decide)
    have h' : ((2 ^ d : Nat) : Int) ≤ ((9223372036854775808 : Nat) : Int) := Int.ofNat_le.2 h
    rw [Int.natCast_pow] at h'; exact h'
  have hH : (1 : Int) ≤ 2 ^ (d - 1) := Int.pow_pos (by decide)
  have f1 : IntKind.u64.wrap ((2 : Int) ^ d) = 2 ^ d := by rw [IntKind.wrap_u64]; omega
  have f4 : IntKind.u64.wrap ((2 : Int) ^ (d - 1)) = 2 ^ (d - 1) := by rw [IntKind.wrap_u64]; omega
  have f3 : bits .and .u64 m ((2 : Int) ^ d - 1) = m % 2 ^ d := by
    have := and_mask64 m d g1 h0 h1
    have e : ((2 ^ d - 1 : Nat) : Int) = (2 : Int) ^ d - 1 := by
      rw [Int.ofNat_sub (Nat.two_pow_pos d)]; push_cast; rfl
    rw [e] at this; rw [this]; push_cast; rfl
  have hr0 : 0 ≤ m % 2 ^ d := Int.emod_nonneg _ (by omega)
  have hr1 : m % 2 ^ d < 2 ^ d := Int.emod_lt_of_pos _ (by omega)
  have hq0 : 0 ≤ m / 2 ^ d := Int.ediv_nonneg h0 (by omega)
  have hq1 : m / 2 ^ d ≤ 9223372036854775807 := by
    have h2 : m / 2 ^ d ≤ m / 2 := by
      have : (2 : Int) ∣ 2 ^ d := ⟨2 ^ (d - 1), hG⟩
      rw [hG, ← Int.ediv_ediv_of_nonneg (by decide)]
      exact Int.ediv_le_self _ (by omega)
    omega
  have f5 : IntKind.u64.wrap ((2 : Int) ^ d - 1) = 2 ^ d - 1 := by rw [IntKind.wrap_u64]; omega
  generalize hr : m % 2 ^ d = r at *
  generalize hq : m / 2 ^ d = q at *
  generalize hHH : (2 : Int) ^ (d - 1) = H at *
  generalize hGG : (2 : Int) ^ d = G at *
  have hG1 : 1 ≤ G := by omega
  clear hr hG
  by_cases c1 : H < r
  · rw [if_pos (Or.inl c1)]
    go_enter Try.func71, Try.ntmps71
    go_wp2
    go_ret
    exact ⟨rfl, rfl⟩
  · by_cases c2 : r = H
    · by_cases c3 : q % 2 = 1
      · rw [if_pos (Or.inr ⟨c2, c3⟩)]
        go_enter Try.func71, Try.ntmps71
        go_wp2
        go_ret
        exact ⟨rfl, rfl⟩
      · rw [if_neg (by omega)]
        go_enter Try.func71, Try.ntmps71
        go_wp2
        go_ret
        exact ⟨rfl, rfl⟩
    · rw [if_neg (by omega)]
      go_enter Try.func71, Try.ntmps71
      go_wp2
      go_ret
      exact ⟨rfl, rfl⟩

set_option maxHeartbeats 400000 in
theorem rhalved_any (m : Int) (h0 : 0 ≤ m) (h1 : m < 18446744073709551616) (d : Int) (g0 : 1 ≤ d) (g1 : d < 100000) (w : World) :
    Calls Try.prog 71 #[.int .u64 m, .int .i64 d] w fun e w' => e = .returned (.int .u64 (Ieee.Toward.even.cut false m.toNat d.toNat : Nat)) ∧ w' = w := by
  rcases Int.lt_trichotomy d 64 with c | c | c
  · have := rhalved_low m h0 h1 d.toNat (by omega) (by omega) w
    rwa [Int.toNat_of_nonneg (by omega)] at this
  · subst c
    have hv : ((Ieee.Toward.even.cut false m.toNat (64 : Int).toNat : Nat) : Int) = if 9223372036854775808 < m then 1 else 0 := by
      rw [cut_val, show (64 : Int).toNat = 64 from rfl, show (2 : Nat) ^ 64 = 18446744073709551616 from rfl, Nat.div_eq_of_lt (by omega), Nat.mod_eq_of_lt (by omega)]
      by_cases c : 9223372036854775808 < m
      · rw [if_pos c, if_pos (by omega)]; rfl
      · rw [if_neg c, if_neg (by omega)]; rfl
    rw [hv]; clear hv
    by_cases c : 9223372036854775808 < m
    · rw [if_pos c]
      go_enter Try.func71, Try.ntmps71
      go_wp2
      go_ret
      exact ⟨rfl, rfl⟩
    · rw [if_neg c]
      by_cases c2 : m = 9223372036854775808
      · subst c2
        go_enter Try.func71, Try.ntmps71
        go_wp2
        go_ret
        exact ⟨rfl, rfl⟩
      · go_enter Try.func71, Try.ntmps71
        go_wp2
        go_ret
        exact ⟨rfl, rfl⟩
  · have hv : ((Ieee.Toward.even.cut false m.toNat d.toNat : Nat) : Int) = 0 := by
      have hp : 2 ^ 65 ≤ 2 ^ d.toNat := Nat.pow_le_pow_right (by decide) (by omega)
      have h65 : (2 : Nat) ^ 65 = 36893488147419103232 := rfl
      rw [cut_val, Nat.div_eq_of_lt (by omega), Nat.mod_eq_of_lt (by omega), if_neg (by omega)]; rfl
    rw [hv]; clear hv
    go_enter Try.func71, Try.ntmps71
    go_wp2
    go_ret
    exact ⟨rfl, rfl⟩

end Go.Proofs.Ytnogokikiekcbaa
