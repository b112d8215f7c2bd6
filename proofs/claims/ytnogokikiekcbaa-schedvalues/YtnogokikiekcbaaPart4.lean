import Derived.Test.YtnogokikiekcbaaPart3
import Derived.Handy
/- The walks of the reference of layer 2: numbers, rounding. -/
namespace Go.Proofs.Ytnogokikiekcbaa
open Go.RowKit
set_option linter.unusedVariables false

theorem and_mask64 (a : Int) (k : Nat) (hk : k < 64) (h0 : 0 ≤ a) (h1 : a < 18446744073709551616) : bits .and .u64 a ((2 ^ k - 1 : Nat) : Int) = a % ((2 ^ k : Nat) : Int) := by
  have hp : 2 ^ k < 2 ^ 64 := Nat.pow_lt_pow_right (by omega) hk
  have hq : 0 < 2 ^ k := Nat.two_pow_pos k
  obtain ⟨n, rfl⟩ := Int.eq_ofNat_of_zero_le h0
  rw [u64_and _ _ h0 h1 (by omega) (by omega), Int.toNat_natCast, Int.toNat_natCast, Nat.and_two_pow_sub_one_eq_mod]
  rfl
theorem and64_8 (a : Int) (h0 : 0 ≤ a) (h1 : a < 18446744073709551616) : bits .and .u64 a 255 = a % 256 := and_mask64 a 8 (by decide) h0 h1
theorem and64_23 (a : Int) (h0 : 0 ≤ a) (h1 : a < 18446744073709551616) : bits .and .u64 a 8388607 = a % 8388608 := and_mask64 a 23 (by decide) h0 h1

def nMin (a : Int) : Bool := a / 2147483648 == 1
def nM (a : Int) : Int := if a / 8388608 % 256 = 255 then 0 else if a / 8388608 % 256 = 0 then a % 8388608 else 8388608 + a % 8388608
def nE (a : Int) : Int := if a / 8388608 % 256 = 255 then 0 else if a / 8388608 % 256 = 0 then -149 else a / 8388608 % 256 - 150
def nInf (a : Int) : Bool := if a / 8388608 % 256 = 255 then a % 8388608 == 0 else false
def nNan (a : Int) : Bool := if a / 8388608 % 256 = 255 then a % 8388608 != 0 else false

set_option maxHeartbeats 400000 in
theorem rof_any (a : Int) (h0 : 0 ≤ a) (h1 : a < 4294967296) (w : World) :
    Calls Try.prog 44 #[.int .i64 a] w fun e w' => e = .returned (.agg #[.bool (nMin a), .int .u64 (nM a), .int .i64 (nE a), .bool (nInf a), .bool (nNan a)]) ∧ ∃ o, w' = (w.alloc o).alloc o := by
  have e1 := and64_8 (a / 8388608) (by omega) (by omega)
  have e2 := and64_23 a h0 (by omega)
  by_cases c : a / 8388608 % 256 = 255
  · have f1 : nM a = 0 := by unfold nM; rw [if_pos c]
    have f2 : nE a = 0 := by unfold nE; rw [if_pos c]
    have f3 : nInf a = (a % 8388608 == 0) := by unfold nInf; rw [if_pos c]
    have f4 : nNan a = (a % 8388608 != 0) := by unfold nNan; rw [if_pos c]
    rw [f1, f2, f3, f4]; unfold nMin; clear f1 f2 f3 f4
    go_enter Try.func44, Try.ntmps44
    go_wp2
    go_returns
    exact ⟨rfl, _, rfl⟩
  · by_cases c2 : a / 8388608 % 256 = 0
    · have f1 : nM a = a % 8388608 := by unfold nM; rw [if_neg c, if_pos c2]
      have f2 : nE a = -149 := by unfold nE; rw [if_neg c, if_pos c2]
      have f3 : nInf a = false := by unfold nInf; rw [if_neg c]
      have f4 : nNan a = false := by unfold nNan; rw [if_neg c]
      rw [f1, f2, f3, f4]; unfold nMin; clear f1 f2 f3 f4
      go_enter Try.func44, Try.ntmps44
      go_wp2
      go_returns
      exact ⟨rfl, _, rfl⟩
    · have f1 : nM a = 8388608 + a % 8388608 := by unfold nM; rw [if_neg c, if_neg c2]
      have f2 : nE a = a / 8388608 % 256 - 150 := by unfold nE; rw [if_neg c, if_neg c2]
      have f3 : nInf a = false := by unfold nInf; rw [if_neg c]
      have f4 : nNan a = false := by unfold nNan; rw [if_neg c]
      rw [f1, f2, f3, f4]; unfold nMin; clear f1 f2 f3 f4
      go_enter Try.func44, Try.ntmps44
      go_wp2
      go_returns
      exact ⟨rfl, _, rfl⟩

def sgn (s : Bool) : Int := if s then 2147483648 else 0
theorem sgn_lo (s : Bool) : 0 ≤ sgn s ∧ sgn s ≤ 2147483648 := by unfold sgn; split <;> decide

set_option maxHeartbeats 400000 in
theorem rsign_any (s : Bool) (w : World) :
    Calls Try.prog 69 #[.bool s] w fun e w' => e = .returned (.int .u64 (sgn s)) ∧ w' = w := by
  cases s
  all_goals (
    go_enter Try.func69, Try.ntmps69
    go_wp2
    go_ret
    exact ⟨rfl, rfl⟩)

set_option maxHeartbeats 400000 in
theorem rzero_any (s : Bool) (w : World) :
    Calls Try.prog 48 #[.bool s] w fun e w' => e = .returned (.int .i64 (sgn s)) ∧ w' = w := by
  have hl := sgn_lo s
  go_enter Try.func48, Try.ntmps48
  go_wp2_with (go_at_call 69; refine (rsign_any _ _).mono ?_; rintro e w' ⟨rfl, rfl⟩)
  go_ret
  exact ⟨rfl, rfl⟩

set_option maxHeartbeats 400000 in
theorem rinf_any (s : Bool) (w : World) :
    Calls Try.prog 47 #[.bool s] w fun e w' => e = .returned (.int .i64 (sgn s + 2139095040)) ∧ w' = w := by
  have hl := sgn_lo s
  go_enter Try.func47, Try.ntmps47
  go_wp2_with (go_at_call 69; refine (rsign_any _ _).mono ?_; rintro e w' ⟨rfl, rfl⟩)
  go_ret
  exact ⟨rfl, rfl⟩

def blen (n : Nat) : Nat := if n = 0 then 0 else n.log2 + 1
theorem blen_step (n : Nat) (h : n ≠ 0) : blen n = blen (n / 2) + 1 := by
  unfold blen
  rw [if_neg h]
  by_cases c : n / 2 = 0
  · rw [if_pos c]
    have : n = 1 := by omega
    subst this; decide
  · rw [if_neg c, Nat.log2_def n, if_pos (by omega)]

set_option maxHeartbeats 400000 in
theorem rlength_any (m : Int) (h0 : 0 ≤ m) (h1 : m < 18446744073709551616) (w : World) :
    Calls Try.prog 70 #[.int .u64 m] w fun e w' => e = .returned (.int .i64 (blen m.toNat)) ∧ w' = w := by
  have hb : blen m.toNat ≤ 64 := by
    unfold blen; split
    · omega
    · rename_i c
      have : m.toNat.log2 < 64 := (Nat.log2_lt c).2 (by omega)
      omega
  generalize hB : blen m.toNat = B at *
  have HB : Hid (blen m.toNat = B) := hB
  clear hB
  go_enter Try.func70, Try.ntmps70
  go_wp2
  go_loop [0, 3] (fun mv nv => ∃ (x : Int) (k : Nat), 0 ≤ x ∧ x ≤ m ∧ mv = .int .u64 x ∧ nv = .int .i64 k ∧ k + blen x.toNat = B) (fun mv _ => (intOf mv).toNat)
  case atStart => exact ⟨m, 0, h0, Int.le_refl _, rfl, rfl, by rw [HB.out]; omega⟩
  case round =>
    obtain ⟨x, k, hx0, hx1, rfl, rfl, hk⟩ := hrel
    have HK : Hid (k + blen x.toNat = B) := hk
    by_cases hz : x = 0
    · have : k = B := by rw [← hk, hz]; rfl
      subst this
      clear hk HK HB
      subst hz
      go_wp2
      go_ret
      exact ⟨rfl, rfl⟩
    · have hs := blen_step x.toNat (by omega)
      have HS : Hid (blen x.toNat = blen (x.toNat / 2) + 1) := hs
      have hkB : k ≤ 63 := by omega
      clear hs hk
      go_wp2
      go_round
      case rel => exact ⟨x / 2, k + 1, by omega, by omega, rfl, by go_num, by rw [show (x / 2).toNat = x.toNat / 2 by omega]; have := HK.out; have := HS.out; omega⟩
      case measure => simp [intOf]; omega

theorem cut_val (neg : Bool) (n drop : Nat) : Ieee.Toward.even.cut neg n drop = n / 2 ^ drop + (if 2 ^ drop < 2 * (n % 2 ^ drop) ∨ (2 ^ drop = 2 * (n % 2 ^ drop) ∧ n / 2 ^ drop % 2 = 1) then 1 else 0) := by
  have key : ∀ g l r : Nat, l + (decide (g < 2 * r) || g == 2 * r && l % 2 == 1).toNat = l + (if g < 2 * r ∨ (g = 2 * r ∧ l % 2 = 1) then 1 else 0) := by
    intro g l r
    by_cases c1 : g < 2 * r
    · simp [c1]
    · by_cases c2 : g = 2 * r
      · by_cases c3 : l % 2 = 1 <;> simp [c2, c3]
      · simp [c1, c2]
  unfold Ieee.Toward.cut
  simp only [Nat.one_shiftLeft]
  rcases Nat.lt_or_ge (n.log2 + 2) drop with c | c
  · rw [Nat.min_eq_right (by omega)]
    have h1 : n < 2 ^ (n.log2 + 1) := Nat.lt_log2_self
    have h2 : 2 ^ (n.log2 + 2) = 2 * 2 ^ (n.log2 + 1) := by rw [Nat.pow_succ]; omega
    have h3 : 2 ^ (n.log2 + 2) ≤ 2 ^ drop := Nat.pow_le_pow_right (by omega) (by omega)
    rw [key, Nat.div_eq_of_lt (by omega), Nat.mod_eq_of_lt (by omega), Nat.div_eq_of_lt (by omega), Nat.mod_eq_of_lt (show n < 2 ^ drop by omega)]
    rw [if_neg (by omega), if_neg (by omega)]
  · rw [Nat.min_eq_left (by omega), key]

theorem cut_int (m : Int) (h0 : 0 ≤ m) (d : Nat) (hd : 1 ≤ d) : ((Ieee.Toward.even.cut false m.toNat d : Nat) : Int) = if (2 : Int) ^ (d - 1) < m % 2 ^ d ∨ (m % 2 ^ d = 2 ^ (d - 1) ∧ m / 2 ^ d % 2 = 1) then m / 2 ^ d + 1 else m / 2 ^ d := by
  obtain ⟨n, rfl⟩ := Int.eq_ofNat_of_zero_le h0
  rw [cut_val, Int.toNat_natCast]
  have hG : 2 ^ d = 2 * 2 ^ (d - 1) := by
    obtain ⟨e, rfl⟩ : ∃ e, d = e + 1 := ⟨d - 1, by omega⟩
    rw [Nat.add_sub_cancel, Nat.pow_succ, Nat.mul_comm]
  have e1 : ((n : Int) / 2 ^ d) = ((n / 2 ^ d : Nat) : Int) := by push_cast; rfl
  have e2 : ((n : Int) % 2 ^ d) = ((n % 2 ^ d : Nat) : Int) := by push_cast; rfl
  have e3 : (2 : Int) ^ (d - 1) = ((2 ^ (d - 1) : Nat) : Int) := by push_cast; rfl
  rw [e1, e2, e3]
  generalize n / 2 ^ d = q
  generalize n % 2 ^ d = r
  rw [hG]
  generalize 2 ^ (d - 1) = H
  by_cases c : 2 * H < 2 * r ∨ (2 * H = 2 * r ∧ q % 2 = 1)
  · rw [if_pos c, if_pos (by omega)]; omega
  · rw [if_neg c, if_neg (by omega)]; omega

set_option maxHeartbeats 800000 in
theorem rhalved_low (m : Int) (h0 : 0 ≤ m) (h1 : m < 18446744073709551616) (d : Nat) (g0 : 1 ≤ d) (g1 : d < 64) (w : World) :
    Calls Try.prog 71 #[.int .u64 m, .int .i64 d] w fun e w' => e = .returned (.int .u64 (Ieee.Toward.even.cut false m.toNat d : Nat)) ∧ w' = w := by
  rw [cut_int m h0 d g0]
  have hG : (2 : Int) ^ d = 2 * 2 ^ (d - 1) := by
    obtain ⟨e, rfl⟩ : ∃ e, d = e + 1 := ⟨d - 1, by omega⟩
    rw [Nat.add_sub_cancel, Int.pow_succ, Int.mul_comm]
  have hle : (2 : Int) ^ d ≤ 9223372036854775808 := by
    have h : 2 ^ d ≤ 9223372036854775808 := Nat.le_trans (Nat.pow_le_pow_right (by decide) (show d ≤ 63 by omega)) (by decide)
    have h' : ((2 ^ d : Nat) : Int) ≤ ((9223372036854775808 : Nat) : Int) := Int.ofNat_le.2 h
    rw [Int.natCast_pow] at h'; exact h'
  have hH : (1 : Int) ≤ 2 ^ (d - 1) := Int.pow_pos (by decide)
  have f1 : IntKind.u64.wrap ((2 : Int) ^ d) = 2 ^ d := by rw [IntKind.wrap_u64]; omega
  have f4 : IntKind.u64.wrap ((2 : Int) ^ (d - 1)) = 2 ^ (d - 1) := by rw [IntKind.wrap_u64]; omega
  have f3 : bits .and .u64 m ((2 : Int) ^ d - 1) = m % 2 ^ d := by
    have := and_mask64 m d g1 h0 h1
    have e : ((2 ^ d - 1 : Nat) : Int) = (2 : Int) ^ d - 1 := by
      rw [Int.ofNat_sub (Nat.two_pow_pos d)]; push_cast; rfl
    rw [e] at this; rw [this]; push_cast; rfl
  have hr0 : 0 ≤ m % 2 ^ d := Int.emod_nonneg _ (by omega)
  have hr1 : m % 2 ^ d < 2 ^ d := Int.emod_lt_of_pos _ (by omega)
  have hq0 : 0 ≤ m / 2 ^ d := Int.ediv_nonneg h0 (by omega)
  have hq1 : m / 2 ^ d ≤ 9223372036854775807 := by
    have h2 : m / 2 ^ d ≤ m / 2 := by
      have : (2 : Int) ∣ 2 ^ d := ⟨2 ^ (d - 1), hG⟩
      rw [hG, ← Int.ediv_ediv_of_nonneg (by decide)]
      exact Int.ediv_le_self _ (by omega)
    omega
  have f5 : IntKind.u64.wrap ((2 : Int) ^ d - 1) = 2 ^ d - 1 := by rw [IntKind.wrap_u64]; omega
  generalize hr : m % 2 ^ d = r at *
  generalize hq : m / 2 ^ d = q at *
  generalize hHH : (2 : Int) ^ (d - 1) = H at *
  generalize hGG : (2 : Int) ^ d = G at *
  have hG1 : 1 ≤ G := by omega
  clear hr hG
  by_cases c1 : H < r
  · rw [if_pos (Or.inl c1)]
    go_enter Try.func71, Try.ntmps71
    go_wp2
    go_ret
    exact ⟨rfl, rfl⟩
  · by_cases c2 : r = H
    · by_cases c3 : q % 2 = 1
      · rw [if_pos (Or.inr ⟨c2, c3⟩)]
        go_enter Try.func71, Try.ntmps71
        go_wp2
        go_ret
        exact ⟨rfl, rfl⟩
      · rw [if_neg (by omega)]
        go_enter Try.func71, Try.ntmps71
        go_wp2
        go_ret
        exact ⟨rfl, rfl⟩
    · rw [if_neg (by omega)]
      go_enter Try.func71, Try.ntmps71
      go_wp2
      go_ret
      exact ⟨rfl, rfl⟩

set_option maxHeartbeats 400000 in
theorem rhalved_any (m : Int) (h0 : 0 ≤ m) (h1 : m < 18446744073709551616) (d : Int) (g0 : 1 ≤ d) (g1 : d < 100000) (w : World) :
    Calls Try.prog 71 #[.int .u64 m, .int .i64 d] w fun e w' => e = .returned (.int .u64 (Ieee.Toward.even.cut false m.toNat d.toNat : Nat)) ∧ w' = w := by
  rcases Int.lt_trichotomy d 64 with c | c | c
  · have := rhalved_low m h0 h1 d.toNat (by omega) (by omega) w
    rwa [Int.toNat_of_nonneg (by omega)] at this
  · subst c
    have hv : ((Ieee.Toward.even.cut false m.toNat (64 : Int).toNat : Nat) : Int) = if 9223372036854775808 < m then 1 else 0 := by
      rw [cut_val, show (64 : Int).toNat = 64 from rfl, show (2 : Nat) ^ 64 = 18446744073709551616 from rfl, Nat.div_eq_of_lt (by omega), Nat.mod_eq_of_lt (by omega)]
      by_cases c : 9223372036854775808 < m
      · rw [if_pos c, if_pos (by omega)]; rfl
      · rw [if_neg c, if_neg (by omega)]; rfl
    rw [hv]; clear hv
    by_cases c : 9223372036854775808 < m
    · rw [if_pos c]
      go_enter Try.func71, Try.ntmps71
      go_wp2
      go_ret
      exact ⟨rfl, rfl⟩
    · rw [if_neg c]
      by_cases c2 : m = 9223372036854775808
      · subst c2
        go_enter Try.func71, Try.ntmps71
        go_wp2
        go_ret
        exact ⟨rfl, rfl⟩
      · go_enter Try.func71, Try.ntmps71
        go_wp2
        go_ret
        exact ⟨rfl, rfl⟩
  · have hv : ((Ieee.Toward.even.cut false m.toNat d.toNat : Nat) : Int) = 0 := by
      have hp : 2 ^ 65 ≤ 2 ^ d.toNat := Nat.pow_le_pow_right (by decide) (by omega)
      have h65 : (2 : Nat) ^ 65 = 36893488147419103232 := rfl
      rw [cut_val, Nat.div_eq_of_lt (by omega), Nat.mod_eq_of_lt (by omega), if_neg (by omega)]; rfl
    rw [hv]; clear hv
    go_enter Try.func71, Try.ntmps71
    go_wp2
    go_ret
    exact ⟨rfl, rfl⟩

end Go.Proofs.Ytnogokikiekcbaa
/- Round, of the reference of layer 2. -/
namespace Go.Proofs.Ytnogokikiekcbaa
open Go.RowKit
set_option linter.unusedVariables false

theorem word_sgn (s : Bool) (r : Nat) : ((wd s r : Nat) : Int) = sgn s + min (r : Int) 2139095040 := by
  unfold wd sgn; cases s
  · simp only [if_false, Bool.false_eq_true]; omega
  · simp only [if_true]; omega

/-- Round's outcome, by the place U of the last digit and the digits k that are kept. -/
theorem nearest_parts (s : Bool) (m : Nat) (e : Int) (h0 : m ≠ 0) : ∃ (U : Int) (k : Nat), U = max (e + (blen m : Int) - 24) (-149) ∧
    ((Ieee.single.nearest s m e : Nat) : Int) = sgn s + min ((U + 149) * 8388608 + k) 2139095040 ∧ k ≤ 16777216 ∧ (U = -149 ∨ 8388608 ≤ k) ∧
    k = Ieee.Toward.even.cut false (m * 2 ^ (e - U).toNat) (U - e).toNat ∧ (U ≤ e → (k : Int) = (m : Int) * 2 ^ (e - U).toNat) := by
  have hb : (blen m : Int) - 24 = m.log2 - 23 := by unfold blen; rw [if_neg h0]; omega
  have hn := nearest_eq Ieee.single s m e
  rw [word_wd, single_fb, single_least] at hn
  refine ⟨max (e + (blen m : Int) - 24) (-149), Ieee.Toward.even.cut false (m * 2 ^ (e - max (e + (blen m : Int) - 24) (-149)).toNat) (max (e + (blen m : Int) - 24) (-149) - e).toNat, rfl, ?_⟩
  have hU : max (e + (blen m : Int) - 24) (-149) = max (e + m.log2 - ((23 : Nat) : Int)) (-149) := by omega
  rw [hU]
  generalize hUU : max (e + m.log2 - ((23 : Nat) : Int)) (-149) = U at *
  have hr : rungOf 23 (-149) m e = (U - (-149)).toNat * 2 ^ 23 + Ieee.Toward.even.cut false (m * 2 ^ (e - U).toNat) (U - e).toNat := by
    unfold rungOf; rw [if_neg h0, Nat.shiftLeft_eq, hUU]
  have hcut := cut_even false (m * 2 ^ (e - U).toNat) (U - e).toNat
  generalize hk : Ieee.Toward.even.cut false (m * 2 ^ (e - U).toNat) (U - e).toNat = k at *
  have hlo : 2 ^ m.log2 ≤ m := Nat.log2_self_le h0
  have hhi : m < 2 ^ (m.log2 + 1) := Nat.lt_log2_self
  -- the range of what is cut
  have hcs := hcut.scale 0 0 (U - e).toNat rfl
  rw [Nat.pow_zero, Nat.mul_one] at hcs
  have lo : U = -149 ∨ 2 ^ 23 * 2 ^ (U - e).toNat ≤ m * 2 ^ (e - U).toNat := by
    rcases (show U = -149 ∨ U = e + m.log2 - 23 by omega) with c | c
    · exact Or.inl c
    · right
      calc 2 ^ 23 * 2 ^ (U - e).toNat = 2 ^ m.log2 * 2 ^ (e - U).toNat := by rw [← Nat.pow_add, ← Nat.pow_add]; congr 1; omega
        _ ≤ m * 2 ^ (e - U).toNat := Nat.mul_le_mul_right _ hlo
  have hi : m * 2 ^ (e - U).toNat < 2 * 2 ^ 23 * 2 ^ (U - e).toNat := by
    calc m * 2 ^ (e - U).toNat < 2 ^ (m.log2 + 1) * 2 ^ (e - U).toNat := Nat.mul_lt_mul_of_pos_right hhi (Nat.two_pow_pos _)
      _ = 2 ^ (m.log2 + 1 + (e - U).toNat) := (Nat.pow_add ..).symm
      _ ≤ 2 ^ (24 + (U - e).toNat) := Nat.pow_le_pow_right (by decide) (by omega)
      _ = 2 * 2 ^ 23 * 2 ^ (U - e).toNat := by rw [Nat.pow_add]
  have up := hcut.up
  have dn := hcut.dn
  simp only [Nat.mul_one] at up dn
  have hT : 0 < 2 ^ (U - e).toNat := Nat.two_pow_pos _
  have hkle : k ≤ 16777216 := by
    rcases Nat.lt_or_ge 16777216 k with c | c
    · exfalso
      have : (2 * 16777217) * 2 ^ (U - e).toNat ≤ 2 * k * 2 ^ (U - e).toNat := Nat.mul_le_mul_right _ (by omega)
      generalize 2 ^ (U - e).toNat = T at *
      generalize m * 2 ^ (e - U).toNat = X at *
      omega
    · exact c
  have hkge : U = -149 ∨ 8388608 ≤ k := by
    rcases lo with c | c
    · exact Or.inl c
    · right
      rcases Nat.lt_or_ge k 8388608 with d | d
      · exfalso
        have : (2 * k + 1) * 2 ^ (U - e).toNat ≤ 16777215 * 2 ^ (U - e).toNat := Nat.mul_le_mul_right _ (by omega)
        generalize 2 ^ (U - e).toNat = T at *
        generalize m * 2 ^ (e - U).toNat = X at *
        omega
      · exact d
  refine ⟨?_, hkle, hkge, rfl, ?_⟩
  · rw [hn, hr, word_sgn]; rw [Int.natCast_add, Int.natCast_mul, Int.toNat_of_nonneg (by omega)]; omega
  · intro l
    rw [show (U - e).toNat = 0 by omega] at hcut
    have up := hcut.up
    have dn := hcut.dn
    have ue := hcut.ue
    have de := hcut.de
    have : k = m * 2 ^ (e - U).toNat := by
      generalize m * 2 ^ (e - U).toNat = X at *
      simp only [Nat.pow_zero, Nat.mul_one] at ue de up dn
      omega
    rw [this]; push_cast; rfl

set_option maxHeartbeats 1000000 in
theorem rround_any (s : Bool) (m : Int) (h0 : 0 ≤ m) (h1 : m < 18446744073709551616) (e : Int) (e0 : -10000 ≤ e) (e1 : e ≤ 10000) (w : World) :
    Calls Try.prog 49 #[.bool s, .int .u64 m, .int .i64 e] w fun x w' => x = .returned (.int .i64 (Ieee.single.nearest s m.toNat e : Nat)) ∧ w' = w := by
  have hs := sgn_lo s
  by_cases hz : m = 0
  · subst hz
    have hv : ((Ieee.single.nearest s (0 : Int).toNat e : Nat) : Int) = sgn s := by
      show ((Ieee.single.nearest s 0 e : Nat) : Int) = sgn s
      rw [show Ieee.single.nearest s 0 e = wd s 0 from by unfold Ieee.Format.nearest; rw [if_pos rfl]; rfl, word_sgn]; omega
    rw [hv]; clear hv
    go_enter Try.func49, Try.ntmps49
    go_wp2_with (go_at_call 48; refine (rzero_any _ _).mono ?_; rintro e w' ⟨rfl, rfl⟩)
    go_ret
    exact ⟨rfl, rfl⟩
  · obtain ⟨U, k, hU, hv, hk1, hk2, hk3, hk4⟩ := nearest_parts s m.toNat e (by omega)
    rw [hv]; clear hv
    have hB : 1 ≤ blen m.toNat ∧ blen m.toNat ≤ 64 := by
      unfold blen; rw [if_neg (by omega)]
      have : m.toNat.log2 < 64 := (Nat.log2_lt (by omega)).2 (by omega)
      omega
    generalize hBB : blen m.toNat = B at *
    have fh : e < U → ((Ieee.Toward.even.cut false m.toNat (U - e).toNat : Nat) : Int) = k := by
      intro l; rw [hk3, show (e - U).toNat = 0 by omega, Nat.pow_zero, Nat.mul_one]
    have fq : U ≤ e → IntKind.u64.wrap (m * 2 ^ (-(U - e)).toNat) = k := by
      intro l; have := hk4 l
      rw [show (-(U - e)).toNat = (e - U).toNat by omega, show m = (m.toNat : Int) by omega, ← this, IntKind.wrap_u64]; omega
    clear hk3 hk4
    have hUr : -149 ≤ U ∧ U ≤ 20000 := by omega
    have hK0 : 0 ≤ (k : Int) ∧ (k : Int) ≤ 16777216 ∧ (U = -149 ∨ 8388608 ≤ (k : Int)) := by omega
    clear hk1 hk2
    generalize hKK : (k : Int) = K at *
    clear hKK
    generalize hT : min ((U + 149) * 8388608 + K) 2139095040 = T
    have cases : (K = 16777216 ∧ U < 104 ∧ T = (U + 151) * 8388608) ∨ (K = 16777216 ∧ 104 ≤ U ∧ T = 2139095040) ∨ (U = -149 ∧ K < 8388608 ∧ T = K) ∨
        (8388608 ≤ K ∧ K < 16777216 ∧ U < 105 ∧ T = (U + 149) * 8388608 + K) ∨ (8388608 ≤ K ∧ K < 16777216 ∧ 105 ≤ U ∧ T = 2139095040) := by omega
    clear hT
    by_cases hu : -149 > e + (B : Int) - 24
    · have hU' : U = -149 := by omega
      clear hU
      subst hU'
      clear hUr
      by_cases hsh : -149 ≤ e
      · have fq' := fq hsh
        clear fq fh
        rcases cases with ⟨c1, c2, rfl⟩ | ⟨c1, c2, rfl⟩ | ⟨c1, c2, rfl⟩ | ⟨c1, c2, c3, rfl⟩ | ⟨c1, c2, c3, rfl⟩
        all_goals (
        go_enter Try.func49, Try.ntmps49
        go_wp2_with (first
          | (go_at_call 70; refine (rlength_any _ h0 h1 _).mono ?_; rintro e w' ⟨rfl, rfl⟩)
          | (go_at_call 71; refine (rhalved_any _ h0 h1 _ (by omega) (by omega) _).mono ?_; rintro e w' ⟨rfl, rfl⟩)
          | (go_at_call 69; refine (rsign_any _ _).mono ?_; rintro e w' ⟨rfl, rfl⟩)
          | (go_at_call 47; refine (rinf_any _ _).mono ?_; rintro e w' ⟨rfl, rfl⟩))
        all_goals (go_ret; exact ⟨ret_int (by omega), rfl⟩))
      · have fh' := fh (by omega)
        clear fq fh
        rcases cases with ⟨c1, c2, rfl⟩ | ⟨c1, c2, rfl⟩ | ⟨c1, c2, rfl⟩ | ⟨c1, c2, c3, rfl⟩ | ⟨c1, c2, c3, rfl⟩
        all_goals (
        go_enter Try.func49, Try.ntmps49
        go_wp2_with (first
          | (go_at_call 70; refine (rlength_any _ h0 h1 _).mono ?_; rintro e w' ⟨rfl, rfl⟩)
          | (go_at_call 71; refine (rhalved_any _ h0 h1 _ (by omega) (by omega) _).mono ?_; rintro e w' ⟨rfl, rfl⟩)
          | (go_at_call 69; refine (rsign_any _ _).mono ?_; rintro e w' ⟨rfl, rfl⟩)
          | (go_at_call 47; refine (rinf_any _ _).mono ?_; rintro e w' ⟨rfl, rfl⟩))
        all_goals (go_ret; exact ⟨ret_int (by omega), rfl⟩))
    · have hu2 : e + (B : Int) - 24 = U := by omega
      clear hU
      by_cases hsh : U ≤ e
      · have fq' := fq hsh
        clear fq fh
        rcases cases with ⟨c1, c2, rfl⟩ | ⟨c1, c2, rfl⟩ | ⟨rfl, c2, rfl⟩ | ⟨c1, c2, c3, rfl⟩ | ⟨c1, c2, c3, rfl⟩
        all_goals (
        go_enter Try.func49, Try.ntmps49
        go_wp2_with (first
          | (go_at_call 70; refine (rlength_any _ h0 h1 _).mono ?_; rintro e w' ⟨rfl, rfl⟩)
          | (go_at_call 71; refine (rhalved_any _ h0 h1 _ (by omega) (by omega) _).mono ?_; rintro e w' ⟨rfl, rfl⟩)
          | (go_at_call 69; refine (rsign_any _ _).mono ?_; rintro e w' ⟨rfl, rfl⟩)
          | (go_at_call 47; refine (rinf_any _ _).mono ?_; rintro e w' ⟨rfl, rfl⟩))
        all_goals (go_ret; exact ⟨ret_int (by omega), rfl⟩))
      · have fh' := fh (by omega)
        clear fq fh
        rcases cases with ⟨c1, c2, rfl⟩ | ⟨c1, c2, rfl⟩ | ⟨rfl, c2, rfl⟩ | ⟨c1, c2, c3, rfl⟩ | ⟨c1, c2, c3, rfl⟩
        all_goals (
        go_enter Try.func49, Try.ntmps49
        go_wp2_with (first
          | (go_at_call 70; refine (rlength_any _ h0 h1 _).mono ?_; rintro e w' ⟨rfl, rfl⟩)
          | (go_at_call 71; refine (rhalved_any _ h0 h1 _ (by omega) (by omega) _).mono ?_; rintro e w' ⟨rfl, rfl⟩)
          | (go_at_call 69; refine (rsign_any _ _).mono ?_; rintro e w' ⟨rfl, rfl⟩)
          | (go_at_call 47; refine (rinf_any _ _).mono ?_; rintro e w' ⟨rfl, rfl⟩))
        all_goals (go_ret; exact ⟨ret_int (by omega), rfl⟩))

end Go.Proofs.Ytnogokikiekcbaa
/- The operations of the reference of layer 2. -/
namespace Go.Proofs.Ytnogokikiekcbaa
open Go.RowKit
set_option linter.unusedVariables false

theorem nMin_ng (a : Int) (h0 : 0 ≤ a) (h1 : a < 4294967296) : nMin a = ng a.toNat := by
  unfold nMin ng
  by_cases c : 2147483648 ≤ a
  · have e1 : a / 2147483648 = 1 := by omega
    have e2 : a.toNat / 2147483648 % 2 = 1 := by omega
    rw [e1, e2]; rfl
  · have e1 : a / 2147483648 = 0 := by omega
    have e2 : a.toNat / 2147483648 % 2 = 0 := by omega
    rw [e1, e2]; rfl
theorem nNan_iff (a : Int) (h0 : 0 ≤ a) (h1 : a < 4294967296) : nNan a = nan a := by
  unfold nNan nan
  by_cases c : a / 8388608 % 256 = 255
  · rw [if_pos c]
    by_cases d : a % 8388608 = 0
    · have : ¬ (2139095040 < a % 2147483648) := by omega
      simp [d, this]
    · have : 2139095040 < a % 2147483648 := by omega
      simp [d, this]
  · rw [if_neg c]; have : ¬ (2139095040 < a % 2147483648) := by omega
    simp [this]
theorem ref_nan (a : Int) (h0 : 0 ≤ a) (h1 : a < 4294967296) (h : nNan a = true) : ∃ s t, Ieee.single.read a.toNat = .nan s t := by
  rw [nNan_iff a h0 h1, nan_rg a h0] at h
  exact ⟨_, _, read_nan _ (by simpa using h)⟩
theorem ref_inf (a : Int) (h0 : 0 ≤ a) (h1 : a < 4294967296) (h : nInf a = true) : Ieee.single.read a.toNat = .infinity (nMin a) ∧ nNan a = false ∧ nM a = 0 := by
  have c : a / 8388608 % 256 = 255 ∧ a % 8388608 = 0 := by
    unfold nInf at h; split at h
    · rename_i c; exact ⟨c, by simpa using h⟩
    · cases h
  refine ⟨?_, ?_, ?_⟩
  · rw [nMin_ng a h0 h1]; exact read_inf _ (by have := rg_toNat a h0; omega)
  · unfold nNan; simp [c]
  · unfold nM; rw [if_pos c.1]
theorem ref_fin (a : Int) (h0 : 0 ≤ a) (h1 : a < 4294967296) (hi : nInf a = false) (hn : nNan a = false) :
    Ieee.single.read a.toNat = .number (nMin a) (nM a).toNat (nE a) ∧ 0 ≤ nM a ∧ nM a < 16777216 ∧ -149 ≤ nE a ∧ nE a ≤ 104 ∧ (nE a = -149 ∨ 8388608 ≤ nM a) := by
  have c : ¬ (a / 8388608 % 256 = 255) := by
    intro c; unfold nInf at hi; unfold nNan at hn; rw [if_pos c] at hi hn; simp at hi hn; exact hi hn
  have hf : rg a.toNat < 2139095040 := by have := rg_toNat a h0; omega
  have hr := rg_toNat a h0
  rw [read_fin _ hf, nMin_ng a h0 h1]
  unfold nM nE mg te
  rw [if_neg c, if_neg c]
  by_cases d : a / 8388608 % 256 = 0
  · rw [if_pos d, if_pos d, if_pos (by omega), show rg a.toNat / 8388608 - 1 = 0 by omega, show (a % 8388608).toNat = rg a.toNat by omega]
    exact ⟨rfl, by omega, by omega, by omega, by omega, by omega⟩
  · rw [if_neg d, if_neg d, if_neg (by omega), show (8388608 + a % 8388608).toNat = 8388608 + rg a.toNat % 8388608 by omega, show -149 + ((rg a.toNat / 8388608 - 1 : Nat) : Int) = a / 8388608 % 256 - 150 by omega]
    exact ⟨rfl, by omega, by omega, by omega, by omega, by omega⟩

set_option maxHeartbeats 400000 in
theorem rnan_any (s1 : Bool) (m1 e1 : Int) (i1 n1 s2 : Bool) (m2 e2 : Int) (i2 n2 : Bool) (w : World) :
    Calls Try.prog 43 #[.agg #[.bool s1, .int .u64 m1, .int .i64 e1, .bool i1, .bool n1], .agg #[.bool s2, .int .u64 m2, .int .i64 e2, .bool i2, .bool n2]] w fun e w' => e = .returned (.bool (n1 || n2)) ∧ ∃ o p, w' = (w.alloc o).alloc p := by
  cases n1 <;> cases n2
  all_goals (
    go_enter Try.func43, Try.ntmps43
    go_wp2
    go_ret
    exact ⟨rfl, _, _, rfl⟩)

theorem write_inf (s : Bool) : ((Ieee.single.write (.infinity s) : Nat) : Int) = sgn s + 2139095040 := by cases s <;> decide
theorem fmul_eq (a b : Int) {d e : Ieee.Datum} (h : Ieee.single.read a.toNat = d) (k : Ieee.single.read b.toNat = e) : fmul a b = op2 ((d.product e).map Ieee.single.write) := by
  unfold fmul Ieee.Format.mul; rw [h, k]
theorem xor_bne (s t : Bool) : (s ^^ t) = (s != t) := by cases s <;> cases t <;> rfl


theorem fmul_nan (a b : Int) (h0 : 0 ≤ a) (h1 : a < 4294967296) (g0 : 0 ≤ b) (g1 : b < 4294967296) (h : nNan a = true ∨ nNan b = true) : fmul a b = 2143289344 := by
  rcases h with h | h
  · obtain ⟨s, t, e⟩ := ref_nan a h0 h1 h
    rw [fmul_eq a b e rfl]; cases Ieee.single.read b.toNat <;> rfl
  · obtain ⟨s, t, e⟩ := ref_nan b g0 g1 h
    rw [fmul_eq a b rfl e]; cases Ieee.single.read a.toNat <;> rfl

set_option maxHeartbeats 1000000 in
theorem rmul_any (a : Int) (h0 : 0 ≤ a) (h1 : a < 4294967296) (b : Int) (g0 : 0 ≤ b) (g1 : b < 4294967296) (w : World) :
    Calls Try.prog 26 #[.int .i64 a, .int .i64 b] w fun e w' => e = .returned (.int .i64 (fmul a b)) ∧ Below w.heap.size w w' := by
  cases hna : nNan a
  · cases hnb : nNan b
    · cases hia : nInf a
      · obtain ⟨ra, a1, a2, a3, a4, -⟩ := ref_fin a h0 h1 hia hna
        cases hib : nInf b
        · obtain ⟨rb, b1, b2, b3, b4, -⟩ := ref_fin b g0 g1 hib hnb
          have hv : fmul a b = (Ieee.single.nearest (nMin a != nMin b) (nM a * nM b).toNat (nE a + nE b) : Nat) := by
            rw [fmul_eq a b ra rb, show (nM a * nM b).toNat = (nM a).toNat * (nM b).toNat from Int.toNat_mul a1 b1, ← xor_bne]; rfl
          have hm : 0 ≤ nM a * nM b ∧ nM a * nM b < 281474976710656 := by
            refine ⟨Int.mul_nonneg a1 b1, ?_⟩
            have h1 : nM a * nM b ≤ 16777215 * 16777215 := Int.mul_le_mul (by omega) (by omega) b1 (by omega)
            omega
          have hw : IntKind.u64.wrap (nM a * nM b) = nM a * nM b := by rw [IntKind.wrap_u64]; omega
          rw [hv]
          clear hv ra rb
          go_enter Try.func26, Try.ntmps26
          go_wp2_with (first
            | (go_at_call 44; refine (rof_any _ (by omega) (by omega) _).mono ?_; rintro e w' ⟨rfl, o, rfl⟩)
            | (go_at_call 43; refine (rnan_any _ _ _ _ _ _ _ _ _ _ _).mono ?_; rintro e w' ⟨rfl, o, p, rfl⟩)
            | (go_at_call 47; refine (rinf_any _ _).mono ?_; rintro e w' ⟨rfl, rfl⟩)
            | (go_at_call 49; refine (rround_any _ _ (by omega) (by omega) _ (by omega) (by omega) _).mono ?_; rintro e w' ⟨rfl, rfl⟩))
          go_ret
          exact ⟨rfl, by go_grown⟩
        · obtain ⟨rb, -, b1⟩ := ref_inf b g0 g1 hib
          by_cases hz : nM a = 0
          · have hv : fmul a b = 2143289344 := by rw [fmul_eq a b ra rb, hz]; rfl
            rw [hv]; clear hv ra rb
            go_enter Try.func26, Try.ntmps26
            go_wp2_with (first
              | (go_at_call 44; refine (rof_any _ (by omega) (by omega) _).mono ?_; rintro e w' ⟨rfl, o, rfl⟩)
              | (go_at_call 43; refine (rnan_any _ _ _ _ _ _ _ _ _ _ _).mono ?_; rintro e w' ⟨rfl, o, p, rfl⟩)
              | (go_at_call 47; refine (rinf_any _ _).mono ?_; rintro e w' ⟨rfl, rfl⟩)
              | (go_at_call 49; refine (rround_any _ _ (by omega) (by omega) _ (by omega) (by omega) _).mono ?_; rintro e w' ⟨rfl, rfl⟩))
            go_ret
            exact ⟨rfl, by go_grown⟩
          · have hv : fmul a b = sgn (nMin a != nMin b) + 2139095040 := by
              rw [fmul_eq a b ra rb, ← write_inf, ← xor_bne, Bool.xor_comm]
              have : (nM a).toNat ≠ 0 := by omega
              simp only [Ieee.Datum.product, if_neg this]; rfl
            rw [hv]; clear hv ra rb
            go_enter Try.func26, Try.ntmps26
            go_wp2_with (first
              | (go_at_call 44; refine (rof_any _ (by omega) (by omega) _).mono ?_; rintro e w' ⟨rfl, o, rfl⟩)
              | (go_at_call 43; refine (rnan_any _ _ _ _ _ _ _ _ _ _ _).mono ?_; rintro e w' ⟨rfl, o, p, rfl⟩)
              | (go_at_call 47; refine (rinf_any _ _).mono ?_; rintro e w' ⟨rfl, rfl⟩)
              | (go_at_call 49; refine (rround_any _ _ (by omega) (by omega) _ (by omega) (by omega) _).mono ?_; rintro e w' ⟨rfl, rfl⟩))
            go_ret
            exact ⟨rfl, by go_grown⟩
      · obtain ⟨ra, -, a1⟩ := ref_inf a h0 h1 hia
        cases hib : nInf b
        · obtain ⟨rb, b1, b2, b3, b4, -⟩ := ref_fin b g0 g1 hib hnb
          by_cases hz : nM b = 0
          · have hv : fmul a b = 2143289344 := by rw [fmul_eq a b ra rb, hz]; rfl
            rw [hv]; clear hv ra rb
            go_enter Try.func26, Try.ntmps26
            go_wp2_with (first
              | (go_at_call 44; refine (rof_any _ (by omega) (by omega) _).mono ?_; rintro e w' ⟨rfl, o, rfl⟩)
              | (go_at_call 43; refine (rnan_any _ _ _ _ _ _ _ _ _ _ _).mono ?_; rintro e w' ⟨rfl, o, p, rfl⟩)
              | (go_at_call 47; refine (rinf_any _ _).mono ?_; rintro e w' ⟨rfl, rfl⟩)
              | (go_at_call 49; refine (rround_any _ _ (by omega) (by omega) _ (by omega) (by omega) _).mono ?_; rintro e w' ⟨rfl, rfl⟩))
            go_ret
            exact ⟨rfl, by go_grown⟩
          · have hv : fmul a b = sgn (nMin a != nMin b) + 2139095040 := by
              rw [fmul_eq a b ra rb, ← write_inf, ← xor_bne]
              have : (nM b).toNat ≠ 0 := by omega
              simp only [Ieee.Datum.product, if_neg this]; rfl
            rw [hv]; clear hv ra rb
            go_enter Try.func26, Try.ntmps26
            go_wp2_with (first
              | (go_at_call 44; refine (rof_any _ (by omega) (by omega) _).mono ?_; rintro e w' ⟨rfl, o, rfl⟩)
              | (go_at_call 43; refine (rnan_any _ _ _ _ _ _ _ _ _ _ _).mono ?_; rintro e w' ⟨rfl, o, p, rfl⟩)
              | (go_at_call 47; refine (rinf_any _ _).mono ?_; rintro e w' ⟨rfl, rfl⟩)
              | (go_at_call 49; refine (rround_any _ _ (by omega) (by omega) _ (by omega) (by omega) _).mono ?_; rintro e w' ⟨rfl, rfl⟩))
            go_ret
            exact ⟨rfl, by go_grown⟩
        · obtain ⟨rb, -, b1⟩ := ref_inf b g0 g1 hib
          have hv : fmul a b = sgn (nMin a != nMin b) + 2139095040 := by
            rw [fmul_eq a b ra rb, ← write_inf, ← xor_bne]; rfl
          rw [hv]; clear hv ra rb
          go_enter Try.func26, Try.ntmps26
          go_wp2_with (first
            | (go_at_call 44; refine (rof_any _ (by omega) (by omega) _).mono ?_; rintro e w' ⟨rfl, o, rfl⟩)
            | (go_at_call 43; refine (rnan_any _ _ _ _ _ _ _ _ _ _ _).mono ?_; rintro e w' ⟨rfl, o, p, rfl⟩)
            | (go_at_call 47; refine (rinf_any _ _).mono ?_; rintro e w' ⟨rfl, rfl⟩)
            | (go_at_call 49; refine (rround_any _ _ (by omega) (by omega) _ (by omega) (by omega) _).mono ?_; rintro e w' ⟨rfl, rfl⟩))
          go_ret
          exact ⟨rfl, by go_grown⟩
    · have hv := fmul_nan a b h0 h1 g0 g1 (Or.inr hnb)
      rw [hv]; clear hv
      go_enter Try.func26, Try.ntmps26
      go_wp2_with (first
        | (go_at_call 44; refine (rof_any _ (by omega) (by omega) _).mono ?_; rintro e w' ⟨rfl, o, rfl⟩)
        | (go_at_call 43; refine (rnan_any _ _ _ _ _ _ _ _ _ _ _).mono ?_; rintro e w' ⟨rfl, o, p, rfl⟩)
        | (go_at_call 47; refine (rinf_any _ _).mono ?_; rintro e w' ⟨rfl, rfl⟩)
        | (go_at_call 49; refine (rround_any _ _ (by omega) (by omega) _ (by omega) (by omega) _).mono ?_; rintro e w' ⟨rfl, rfl⟩))
      go_ret
      exact ⟨rfl, by go_grown⟩
  · have hv := fmul_nan a b h0 h1 g0 g1 (Or.inl hna)
    rw [hv]; clear hv
    go_enter Try.func26, Try.ntmps26
    go_wp2_with (first
      | (go_at_call 44; refine (rof_any _ (by omega) (by omega) _).mono ?_; rintro e w' ⟨rfl, o, rfl⟩)
      | (go_at_call 43; refine (rnan_any _ _ _ _ _ _ _ _ _ _ _).mono ?_; rintro e w' ⟨rfl, o, p, rfl⟩)
      | (go_at_call 47; refine (rinf_any _ _).mono ?_; rintro e w' ⟨rfl, rfl⟩)
      | (go_at_call 49; refine (rround_any _ _ (by omega) (by omega) _ (by omega) (by omega) _).mono ?_; rintro e w' ⟨rfl, rfl⟩))
    go_ret
    exact ⟨rfl, by go_grown⟩

set_option maxHeartbeats 400000 in
theorem rfrom_any (n : Int) (h0 : -9223372036854775808 ≤ n) (h1 : n ≤ 9223372036854775807) (w : World) :
    Calls Try.prog 61 #[.int .i64 n] w fun e w' => e = .returned (.int .i64 (ffrom n)) ∧ w' = w := by
  unfold ffrom
  by_cases c : n < 0
  · rw [decide_eq_true c, show n.natAbs = (-(n + 1) + 1).toNat by omega]
    go_enter Try.func61, Try.ntmps61
    go_wp2_with (go_at_call 49; refine (rround_any _ _ (by omega) (by omega) _ (by omega) (by omega) _).mono ?_; rintro e w' ⟨rfl, rfl⟩)
    go_ret
    exact ⟨rfl, rfl⟩
  · rw [decide_eq_false c, show n.natAbs = n.toNat by omega]
    go_enter Try.func61, Try.ntmps61
    go_wp2_with (go_at_call 49; refine (rround_any _ _ (by omega) (by omega) _ (by omega) (by omega) _).mono ?_; rintro e w' ⟨rfl, rfl⟩)
    go_ret
    exact ⟨rfl, rfl⟩

theorem field_nan (w : World) (v0 v1 v2 v3 v4 : Value) : (Instr.field 63 (.agg #[v0, v1, v2, v3, v4]) 4).run Try.prog w = .ok v4 w := by
  simp [Instr.field, run_underlying Try.underlying63, asAgg, part, go_sem]

theorem i64_xor_nat (a b : Nat) (ha : a < 9223372036854775808) (hb : b < 9223372036854775808) : bits .xor .i64 (a : Int) (b : Int) = ((a ^^^ b : Nat) : Int) := by
  have hx : a ^^^ b < 2 ^ 63 := Nat.xor_lt_two_pow (by omega) (by omega)
  show IntKind.i64.wrap ((BitVec.ofInt 64 (a : Int) ^^^ BitVec.ofInt 64 (b : Int)).toNat : Int) = _
  rw [BitVec.toNat_xor, ofInt_u64 a (by omega), ofInt_u64 b (by omega), IntKind.wrap_i64]
  omega
theorem i64_andNot_nat (a b : Nat) (ha : a < 9223372036854775808) (hb : b < 9223372036854775808) : bits .andNot .i64 (a : Int) (b : Int) = ((a &&& (18446744073709551615 - b) : Nat) : Int) := by
  have hx : a &&& (18446744073709551615 - b) ≤ a := Nat.and_le_left
  show IntKind.i64.wrap ((BitVec.ofInt 64 (a : Int) &&& ~~~BitVec.ofInt 64 (b : Int)).toNat : Int) = _
  rw [BitVec.toNat_and, BitVec.toNat_not, ofInt_u64 a (by omega), ofInt_u64 b (by omega), IntKind.wrap_i64]
  have e : 2 ^ 64 - 1 - b = 18446744073709551615 - b := by omega
  rw [e]
  omega
theorem xor64_sign (a : Int) (h0 : 0 ≤ a) (h1 : a < 4294967296) : bits .xor .i64 a 2147483648 = if 2147483648 ≤ a then a - 2147483648 else a + 2147483648 := by
  rw [← xor_sign a h0 h1, u32_xor a _ h0 h1 (by decide) (by decide)]
  obtain ⟨A, rfl⟩ := Int.eq_ofNat_of_zero_le h0
  exact i64_xor_nat A 2147483648 (by omega) (by decide)
theorem andNot64_sign (a : Int) (h0 : 0 ≤ a) (h1 : a < 4294967296) : bits .andNot .i64 a 2147483648 = a % 2147483648 := by
  rw [← less_sign a h0 h1, u32_andNot a _ h0 h1 (by decide) (by decide)]
  obtain ⟨A, rfl⟩ := Int.eq_ofNat_of_zero_le h0
  rw [show (2147483648 : Int) = ((2147483648 : Nat) : Int) from rfl, i64_andNot_nat A 2147483648 (by omega) (by decide), Int.toNat_natCast, Int.toNat_natCast]
  congr 1
  apply Nat.eq_of_testBit_eq; intro i
  rw [Nat.testBit_and, Nat.testBit_and]
  rcases Nat.lt_or_ge i 32 with c | c
  · have : ∀ j : Fin 32, (18446744073709551615 - 2147483648 : Nat).testBit j.val = (4294967295 - 2147483648 : Nat).testBit j.val := by decide
    rw [this ⟨i, c⟩]
  · have : A.testBit i = false := Nat.testBit_lt_two_pow (Nat.lt_of_lt_of_le (show A < 2 ^ 32 by omega) (Nat.pow_le_pow_right (by decide) c))
    rw [this, Bool.false_and, Bool.false_and]

set_option maxHeartbeats 400000 in
theorem rneg_any (a : Int) (h0 : 0 ≤ a) (h1 : a < 4294967296) (w : World) :
    Calls Try.prog 22 #[.int .i64 a] w fun e w' => e = .returned (.int .i64 (fneg a)) ∧ Below w.heap.size w w' := by
  have hf := field_nan
  cases hna : nNan a
  · have hv : fneg a = if 2147483648 ≤ a then a - 2147483648 else a + 2147483648 := by
      rw [fneg_num a h0 h1 (by rw [← nNan_iff a h0 h1]; exact hna)]; unfold flip
      by_cases c : 2147483648 ≤ a
      · rw [if_pos c, if_pos (by omega)]; omega
      · rw [if_neg c, if_neg (by omega)]; omega
    have hx := xor64_sign a h0 h1
    rw [hv]; clear hv
    generalize (if 2147483648 ≤ a then a - 2147483648 else a + 2147483648) = z at *
    go_enter Try.func22, Try.ntmps22
    go_wp2_with (go_at_call 44; refine (rof_any _ (by omega) (by omega) _).mono ?_; rintro e w' ⟨rfl, o, rfl⟩)
    go_ret
    exact ⟨rfl, by go_grown⟩
  · have hv := fneg_nan a h0 h1 (by rw [← nNan_iff a h0 h1]; exact hna)
    rw [hv]; clear hv
    go_enter Try.func22, Try.ntmps22
    go_wp2_with (go_at_call 44; refine (rof_any _ (by omega) (by omega) _).mono ?_; rintro e w' ⟨rfl, o, rfl⟩)
    go_ret
    exact ⟨rfl, by go_grown⟩

end Go.Proofs.Ytnogokikiekcbaa
/- Sums of the reference of layer 2. -/
namespace Go.Proofs.Ytnogokikiekcbaa
open Go.RowKit
set_option linter.unusedVariables false

def rnd (x e : Int) : Int := if x = 0 then 0 else (Ieee.single.nearest (decide (x < 0)) x.natAbs e : Nat)
def sgd (s : Bool) (x : Int) : Int := if s then -x else x
def sumv (s1 : Bool) (m1 e1 : Int) (s2 : Bool) (m2 e2 : Int) : Int :=
  if e1 - e2 ≤ 36 then rnd (sgd s1 (m1 * 2 ^ (e1 - e2).toNat) + sgd s2 m2) e2 else rnd (sgd s1 (m1 * 68719476736) + sgd s2 1) (e1 - 36)
theorem ret_near {s : Bool} {m m' : Nat} {e e' : Int} (h : m = m') (k : e = e') : Ending.returned (.int .i64 ((Ieee.single.nearest s m e : Nat) : Int)) = .returned (.int .i64 ((Ieee.single.nearest s m' e' : Nat) : Int)) := by rw [h, k]

set_option maxHeartbeats 2000000 in
theorem rsum_any (s1 : Bool) (m1 e1 : Int) (i1 n1 s2 : Bool) (m2 e2 : Int) (i2 n2 : Bool) (h1 : 0 < m1) (h2 : m1 < 16777216) (h3 : 0 < m2) (h4 : m2 < 16777216) (h5 : -149 ≤ e2) (h6 : e2 ≤ e1) (h7 : e1 ≤ 104) (w : World) :
    Calls Try.prog 50 #[.agg #[.bool s1, .int .u64 m1, .int .i64 e1, .bool i1, .bool n1], .agg #[.bool s2, .int .u64 m2, .int .i64 e2, .bool i2, .bool n2]] w fun e w' => e = .returned (.int .i64 (sumv s1 m1 e1 s2 m2 e2)) ∧ Below w.heap.size w w' := by
  unfold sumv
  by_cases c : e1 - e2 ≤ 36
  · rw [if_pos c]
    generalize hd : e1 - e2 = d at *
    have hd0 : 0 ≤ d := by omega
    obtain ⟨X, hXX⟩ : ∃ X, m1 * 2 ^ d.toNat = X := ⟨_, rfl⟩
    have hX : 0 < X ∧ X < 1152921504606846976 := by
      rw [← hXX]
      have p1 : (1 : Int) ≤ 2 ^ d.toNat := Int.pow_pos (by decide)
      have p2 : (2 : Int) ^ d.toNat ≤ 68719476736 := by
        have h : 2 ^ d.toNat ≤ 68719476736 := Nat.le_trans (Nat.pow_le_pow_right (by decide) (show d.toNat ≤ 36 by omega)) (by decide)
        have h' : ((2 ^ d.toNat : Nat) : Int) ≤ ((68719476736 : Nat) : Int) := Int.ofNat_le.2 h
        rw [Int.natCast_pow] at h'; exact h'
      refine ⟨Int.mul_pos h1 (by omega), ?_⟩
      have := Int.mul_le_mul (show m1 ≤ 16777215 by omega) p2 (by omega) (by omega)
      omega
    have hw : IntKind.u64.wrap (m1 * 2 ^ d.toNat) = X := by rw [hXX, IntKind.wrap_u64]; omega
    rw [hXX]
    clear hXX
    cases s1 <;> cases s2 <;> simp only [sgd, if_true, if_false, Bool.false_eq_true] <;> unfold rnd
    · rw [if_neg (by omega), decide_eq_false (by omega), show (X + m2).natAbs = (X + m2).toNat by omega]
      go_enter Try.func50, Try.ntmps50
      go_wp2_with (first
        | (go_at_call 48; refine (rzero_any _ _).mono ?_; rintro e w' ⟨rfl, rfl⟩)
        | (go_at_call 49; refine (rround_any _ _ (by omega) (by omega) _ (by omega) (by omega) _).mono ?_; rintro e w' ⟨rfl, rfl⟩))
      go_ret
      exact ⟨ret_near (by omega) rfl, by go_grown⟩
    · rcases Int.lt_trichotomy (X + -m2) 0 with c2 | c2 | c2
      · rw [if_neg (by omega), decide_eq_true (by omega), show (X + -m2).natAbs = (-(X + -m2)).toNat by omega]
        go_enter Try.func50, Try.ntmps50
        go_wp2_with (first
          | (go_at_call 48; refine (rzero_any _ _).mono ?_; rintro e w' ⟨rfl, rfl⟩)
          | (go_at_call 49; refine (rround_any _ _ (by omega) (by omega) _ (by omega) (by omega) _).mono ?_; rintro e w' ⟨rfl, rfl⟩))
        go_ret
        exact ⟨ret_near (by omega) rfl, by go_grown⟩
      · rw [if_pos c2]
        go_enter Try.func50, Try.ntmps50
        go_wp2_with (first
          | (go_at_call 48; refine (rzero_any _ _).mono ?_; rintro e w' ⟨rfl, rfl⟩)
          | (go_at_call 49; refine (rround_any _ _ (by omega) (by omega) _ (by omega) (by omega) _).mono ?_; rintro e w' ⟨rfl, rfl⟩))
        go_ret
        exact ⟨rfl, by go_grown⟩
      · rw [if_neg (by omega), decide_eq_false (by omega), show (X + -m2).natAbs = (X + -m2).toNat by omega]
        go_enter Try.func50, Try.ntmps50
        go_wp2_with (first
          | (go_at_call 48; refine (rzero_any _ _).mono ?_; rintro e w' ⟨rfl, rfl⟩)
          | (go_at_call 49; refine (rround_any _ _ (by omega) (by omega) _ (by omega) (by omega) _).mono ?_; rintro e w' ⟨rfl, rfl⟩))
        go_ret
        exact ⟨ret_near (by omega) rfl, by go_grown⟩
    · rcases Int.lt_trichotomy (-X + m2) 0 with c2 | c2 | c2
      · rw [if_neg (by omega), decide_eq_true (by omega), show (-X + m2).natAbs = (-(-X + m2)).toNat by omega]
        go_enter Try.func50, Try.ntmps50
        go_wp2_with (first
          | (go_at_call 48; refine (rzero_any _ _).mono ?_; rintro e w' ⟨rfl, rfl⟩)
          | (go_at_call 49; refine (rround_any _ _ (by omega) (by omega) _ (by omega) (by omega) _).mono ?_; rintro e w' ⟨rfl, rfl⟩))
        go_ret
        exact ⟨ret_near (by omega) rfl, by go_grown⟩
      · rw [if_pos c2]
        go_enter Try.func50, Try.ntmps50
        go_wp2_with (first
          | (go_at_call 48; refine (rzero_any _ _).mono ?_; rintro e w' ⟨rfl, rfl⟩)
          | (go_at_call 49; refine (rround_any _ _ (by omega) (by omega) _ (by omega) (by omega) _).mono ?_; rintro e w' ⟨rfl, rfl⟩))
        go_ret
        exact ⟨rfl, by go_grown⟩
      · rw [if_neg (by omega), decide_eq_false (by omega), show (-X + m2).natAbs = (-X + m2).toNat by omega]
        go_enter Try.func50, Try.ntmps50
        go_wp2_with (first
          | (go_at_call 48; refine (rzero_any _ _).mono ?_; rintro e w' ⟨rfl, rfl⟩)
          | (go_at_call 49; refine (rround_any _ _ (by omega) (by omega) _ (by omega) (by omega) _).mono ?_; rintro e w' ⟨rfl, rfl⟩))
        go_ret
        exact ⟨ret_near (by omega) rfl, by go_grown⟩
    · rw [if_neg (by omega), decide_eq_true (by omega), show (-X + -m2).natAbs = (-(-X + -m2)).toNat by omega]
      go_enter Try.func50, Try.ntmps50
      go_wp2_with (first
        | (go_at_call 48; refine (rzero_any _ _).mono ?_; rintro e w' ⟨rfl, rfl⟩)
        | (go_at_call 49; refine (rround_any _ _ (by omega) (by omega) _ (by omega) (by omega) _).mono ?_; rintro e w' ⟨rfl, rfl⟩))
      go_ret
      exact ⟨ret_near (by omega) rfl, by go_grown⟩
  · rw [if_neg c]
    obtain ⟨X, hXX⟩ : ∃ X, m1 * 68719476736 = X := ⟨_, rfl⟩
    have hX : 68719476736 ≤ X ∧ X < 1152921504606846976 := by omega
    have hw : IntKind.u64.wrap (m1 * 68719476736) = X := by rw [hXX, IntKind.wrap_u64]; omega
    rw [hXX]
    have hX3 : m1 * 68719476736 < 18446744073709551616 := by omega
    cases s1 <;> cases s2 <;> simp only [sgd, if_true, if_false, Bool.false_eq_true] <;> unfold rnd
    · rw [if_neg (by omega), decide_eq_false (by omega), show (X + 1).natAbs = (X + 1).toNat by omega]
      go_enter Try.func50, Try.ntmps50
      go_wp2_with (first
        | (go_at_call 48; refine (rzero_any _ _).mono ?_; rintro e w' ⟨rfl, rfl⟩)
        | (go_at_call 49; refine (rround_any _ _ (by omega) (by omega) _ (by omega) (by omega) _).mono ?_; rintro e w' ⟨rfl, rfl⟩))
      go_ret
      exact ⟨ret_near (by omega) rfl, by go_grown⟩
    · rw [if_neg (by omega), decide_eq_false (by omega), show (X + -1).natAbs = (X + -1).toNat by omega]
      go_enter Try.func50, Try.ntmps50
      go_wp2_with (first
        | (go_at_call 48; refine (rzero_any _ _).mono ?_; rintro e w' ⟨rfl, rfl⟩)
        | (go_at_call 49; refine (rround_any _ _ (by omega) (by omega) _ (by omega) (by omega) _).mono ?_; rintro e w' ⟨rfl, rfl⟩))
      go_ret
      exact ⟨ret_near (by omega) rfl, by go_grown⟩
    · rw [if_neg (by omega), decide_eq_true (by omega), show (-X + 1).natAbs = (-(-X + 1)).toNat by omega]
      go_enter Try.func50, Try.ntmps50
      go_wp2_with (first
        | (go_at_call 48; refine (rzero_any _ _).mono ?_; rintro e w' ⟨rfl, rfl⟩)
        | (go_at_call 49; refine (rround_any _ _ (by omega) (by omega) _ (by omega) (by omega) _).mono ?_; rintro e w' ⟨rfl, rfl⟩))
      go_ret
      exact ⟨ret_near (by omega) rfl, by go_grown⟩
    · rw [if_neg (by omega), decide_eq_true (by omega), show (-X + -1).natAbs = (-(-X + -1)).toNat by omega]
      go_enter Try.func50, Try.ntmps50
      go_wp2_with (first
        | (go_at_call 48; refine (rzero_any _ _).mono ?_; rintro e w' ⟨rfl, rfl⟩)
        | (go_at_call 49; refine (rround_any _ _ (by omega) (by omega) _ (by omega) (by omega) _).mono ?_; rintro e w' ⟨rfl, rfl⟩))
      go_ret
      exact ⟨ret_near (by omega) rfl, by go_grown⟩

end Go.Proofs.Ytnogokikiekcbaa
/- Sums of the reference of layer 2, by value. -/
namespace Go.Proofs.Ytnogokikiekcbaa
open Go.RowKit
set_option linter.unusedVariables false

theorem near_close (p t k n δ : Nat) (hp : 1 ≤ p) (ht : 1 ≤ t) (hk : 2 ^ p ≤ k) (hk2 : k < 2 * 2 ^ p) (h : n = k * 2 ^ t + δ ∨ n + δ = k * 2 ^ t) (hδ : 4 * δ < 2 ^ t) : Near p n 1 (t * 2 ^ p + k) := by
  have hB : 0 < 2 ^ p := Nat.two_pow_pos p
  have v0 : V p (t * 2 ^ p + k) = k * 2 ^ t := V_at p t k (by omega) (Or.inr hk)
  have v1 : V p (t * 2 ^ p + k + 1) = (k + 1) * 2 ^ t := by rw [Nat.add_assoc]; exact V_at p t (k + 1) (by omega) (Or.inr (by omega))
  have e1 : (k + 1) * 2 ^ t = k * 2 ^ t + 2 ^ t := by rw [Nat.add_mul, Nat.one_mul]
  have hlow : ∀ q, t * 2 ^ p + k = q + 1 → 2 * (V p q) + 2 ^ t ≤ 2 * (k * 2 ^ t) := by
    intro q hq
    have hst := V_step p q
    rw [← hq, v0] at hst
    have : t - 1 ≤ q / 2 ^ p - 1 := by
      have : t ≤ q / 2 ^ p := (Nat.le_div_iff_mul_le hB).2 (by omega)
      omega
    have hle : 2 ^ (t - 1) ≤ 2 ^ (q / 2 ^ p - 1) := Nat.pow_le_pow_right (by decide) this
    have : 2 ^ t = 2 * 2 ^ (t - 1) := by
      obtain ⟨e, rfl⟩ : ∃ e, t = e + 1 := ⟨t - 1, by omega⟩
      rw [Nat.add_sub_cancel, Nat.pow_succ, Nat.mul_comm]
    omega
  refine ⟨?_, ?_, ?_, ?_⟩
  · rw [v0, v1, e1, Nat.mul_one]; omega
  · rw [v0, v1, e1, Nat.mul_one]; omega
  · intro q hq; have := hlow q hq; rw [v0, Nat.mul_one]; omega
  · intro q hq; have := hlow q hq; rw [v0, Nat.mul_one]; omega

/-- Far from one another: the lesser turns nothing. -/
theorem far_rung (m : Nat) (e : Int) (x δ : Nat) (i : Int) (hm : 8388608 ≤ m) (hm2 : m < 16777216) (hi : -113 < i) (j : Int) (hj : -149 ≤ j) (u : Nat) (hu : (u : Int) = i - j) (hx : x = m * 2 ^ u + δ ∨ x + δ = m * 2 ^ u) (hδ : 4 * δ < 2 ^ u) :
    rungOf 23 (-149) x j = (i + 149).toNat * 8388608 + m := by
  obtain ⟨c, hc⟩ : ∃ c : Nat, (c : Int) = j + 149 := ⟨(j + 149).toNat, by omega⟩
  have h1 := near_rungOf 23 (-149) x j (by decide) c 0 (by omega)
  have ht : (i + 149).toNat = u + c := by omega
  have h2 : Near 23 (x * 2 ^ c) 1 ((i + 149).toNat * 2 ^ 23 + m) := by
    refine near_close 23 (i + 149).toNat m (x * 2 ^ c) (δ * 2 ^ c) (by decide) (by omega) (by omega) (by omega) ?_ ?_
    · rw [ht, Nat.pow_add, ← Nat.mul_assoc, ← Nat.add_mul]
      rcases hx with hx | hx
      · left; rw [hx]
      · right; rw [← Nat.add_mul, hx]
    · rw [ht, Nat.pow_add, ← Nat.mul_assoc]
      exact Nat.mul_lt_mul_of_pos_right hδ (Nat.two_pow_pos c)
  exact h1.unique h2 (by decide) (by decide) (by simp)

theorem signed_eq (s : Bool) (m u : Nat) : Ieee.signed s m u = sgd s ((m : Int) * 2 ^ u) := by
  unfold Ieee.signed sgd; rw [Nat.shiftLeft_eq]; push_cast; rfl
theorem fadd_eq (a b : Int) {d e : Ieee.Datum} (h : Ieee.single.read a.toNat = d) (k : Ieee.single.read b.toNat = e) : fadd a b = op2 ((d.sum e).map Ieee.single.write) := by
  unfold fadd Ieee.Format.add; rw [h, k]
theorem near_zero (s : Bool) (e : Int) : ((Ieee.single.nearest s 0 e : Nat) : Int) = sgn s := by
  rw [show Ieee.single.nearest s 0 e = wd s 0 from by unfold Ieee.Format.nearest; rw [if_pos rfl]; rfl, word_sgn]; omega

theorem sum_sumv (s1 : Bool) (m1 e1 : Int) (s2 : Bool) (m2 e2 : Int) (h1 : 0 < m1) (h2 : m1 < 16777216) (h3 : 0 < m2) (h4 : m2 < 16777216) (h5 : -149 ≤ e2) (h6 : e2 ≤ e1) (h7 : e1 = -149 ∨ 8388608 ≤ m1) :
    op2 (((Ieee.Datum.number s1 m1.toNat e1).sum (.number s2 m2.toNat e2)).map Ieee.single.write) = sumv s1 m1 e1 s2 m2 e2 := by
  simp only [Ieee.Datum.sum, Option.map_some, Ieee.Format.write]
  rw [show min e1 e2 = e2 by omega, show (e2 - e2).toNat = 0 by omega, signed_eq, signed_eq, Int.toNat_of_nonneg (by omega), Int.toNat_of_nonneg (by omega), Int.pow_zero, Int.mul_one]
  have hP : (1 : Int) ≤ 2 ^ (e1 - e2).toNat := Int.pow_pos (by decide)
  have hX : 0 < m1 * 2 ^ (e1 - e2).toNat := Int.mul_pos h1 (by omega)
  unfold sumv
  by_cases c : e1 - e2 ≤ 36
  · rw [if_pos c]
    generalize m1 * 2 ^ (e1 - e2).toNat = X at *
    unfold rnd
    by_cases z : sgd s1 X + sgd s2 m2 = 0
    · rw [if_pos z, if_pos z, z]
      have : (s1 && s2) = false := by
        cases s1 <;> cases s2 <;> simp only [sgd, if_true, if_false, Bool.false_eq_true] at z <;> first | rfl | omega
      rw [this]; exact near_zero false e2
    · rw [if_neg z, if_neg z]; rfl
  · rw [if_neg c]
    have hm8 : 8388608 ≤ m1 := by omega
    -- the great one's size
    have hpow : (2 : Int) ^ (e1 - e2).toNat = 2 ^ (e1 - e2 - 37).toNat * 137438953472 := by
      have : (e1 - e2).toNat = (e1 - e2 - 37).toNat + 37 := by omega
      rw [this, Int.pow_add]; rfl
    have hP2 : (1 : Int) ≤ 2 ^ (e1 - e2 - 37).toNat := Int.pow_pos (by decide)
    have hbig : 137438953472 ≤ (2 : Int) ^ (e1 - e2).toNat := by omega
    have hXbig : 137438953472 ≤ m1 * 2 ^ (e1 - e2).toNat := by
      have := Int.mul_le_mul (show (1 : Int) ≤ m1 by omega) hbig (by decide) (by omega)
      omega
    have hz1 : ¬ (sgd s1 (m1 * 2 ^ (e1 - e2).toNat) + sgd s2 m2 = 0) := by
      generalize m1 * 2 ^ (e1 - e2).toNat = X at *
      cases s1 <;> cases s2 <;> simp only [sgd, if_true, if_false, Bool.false_eq_true] <;> omega
    have hz2 : ¬ (sgd s1 (m1 * 68719476736) + sgd s2 1 = 0) := by
      cases s1 <;> cases s2 <;> simp only [sgd, if_true, if_false, Bool.false_eq_true] <;> omega
    have hs1 : decide (sgd s1 (m1 * 2 ^ (e1 - e2).toNat) + sgd s2 m2 < 0) = s1 := by
      generalize m1 * 2 ^ (e1 - e2).toNat = X at *
      cases s1 <;> cases s2 <;> simp only [sgd, if_true, if_false, Bool.false_eq_true] <;> simp <;> omega
    have hs2 : decide (sgd s1 (m1 * 68719476736) + sgd s2 1 < 0) = s1 := by
      cases s1 <;> cases s2 <;> simp only [sgd, if_true, if_false, Bool.false_eq_true] <;> simp <;> omega
    unfold rnd
    rw [if_neg hz1, if_neg hz2, hs1, hs2, nearest_eq, nearest_eq]
    have r1 : rungOf 23 (-149) (sgd s1 (m1 * 2 ^ (e1 - e2).toNat) + sgd s2 m2).natAbs e2 = (e1 + 149).toNat * 8388608 + m1.toNat := by
      refine far_rung m1.toNat 0 _ m2.toNat e1 (by omega) (by omega) (by omega) e2 h5 (e1 - e2).toNat (by omega) ?_ ?_
      · have hcast : ((m1.toNat * 2 ^ (e1 - e2).toNat : Nat) : Int) = m1 * 2 ^ (e1 - e2).toNat := by
          rw [Int.natCast_mul, Int.natCast_pow, Int.toNat_of_nonneg (by omega)]; rfl
        generalize m1.toNat * 2 ^ (e1 - e2).toNat = Y at *
        generalize m1 * 2 ^ (e1 - e2).toNat = X at *
        cases s1 <;> cases s2 <;> simp only [sgd, if_true, if_false, Bool.false_eq_true] <;> omega
      · have hcast : ((2 ^ (e1 - e2).toNat : Nat) : Int) = (2 : Int) ^ (e1 - e2).toNat := Int.natCast_pow 2 _
        omega
    have r2 : rungOf 23 (-149) (sgd s1 (m1 * 68719476736) + sgd s2 1).natAbs (e1 - 36) = (e1 + 149).toNat * 8388608 + m1.toNat := by
      refine far_rung m1.toNat 0 _ 1 e1 (by omega) (by omega) (by omega) (e1 - 36) (by omega) 36 (by omega) ?_ (by decide)
      rw [show (2 : Nat) ^ 36 = 68719476736 from rfl]
      cases s1 <;> cases s2 <;> simp only [sgd, if_true, if_false, Bool.false_eq_true] <;> omega
    rw [single_fb, single_least, r1, r2]; rfl

end Go.Proofs.Ytnogokikiekcbaa
