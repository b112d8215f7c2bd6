import Derived.WalkKit
import Derived.WalkSpells
/- Plain facts on patterns of 32 bits: no program is in sight. -/
namespace Go.Proofs.Ytnogokikiekcbab
open Go.RowKit
set_option linter.unusedVariables false

theorem and_mask (a : Int) (k : Nat) (hk : k < 32) (h0 : 0 ≤ a) (h1 : a < 4294967296) : bits .and .u32 a ((2 ^ k - 1 : Nat) : Int) = a % ((2 ^ k : Nat) : Int) := by
  have hp : 2 ^ k < 2 ^ 32 := Nat.pow_lt_pow_right (by omega) hk
  have hq : 0 < 2 ^ k := Nat.two_pow_pos k
  obtain ⟨n, rfl⟩ := Int.eq_ofNat_of_zero_le h0
  rw [u32_and _ _ h0 h1 (by omega) (by omega), Int.toNat_natCast, Int.toNat_natCast, Nat.and_two_pow_sub_one_eq_mod]
  rfl
theorem and_23 (a : Int) (h0 : 0 ≤ a) (h1 : a < 4294967296) : bits .and .u32 a 8388607 = a % 8388608 := and_mask a 23 (by omega) h0 h1
theorem and_8 (a : Int) (h0 : 0 ≤ a) (h1 : a < 4294967296) : bits .and .u32 a 255 = a % 256 := and_mask a 8 (by omega) h0 h1
theorem and_4 (a : Int) (h0 : 0 ≤ a) (h1 : a < 4294967296) : bits .and .u32 a 15 = a % 16 := and_mask a 4 (by omega) h0 h1
theorem and_sign (a : Int) (h0 : 0 ≤ a) (h1 : a < 4294967296) : bits .and .u32 a 2147483648 = if 2147483648 ≤ a then 2147483648 else 0 := by
  rw [u32_and a _ h0 h1 (by omega) (by omega), show (2147483648 : Int).toNat = 2 ^ 31 from rfl, nat_bit]
  split <;> omega
theorem and_sign_ne (a : Int) (h0 : 0 ≤ a) (h1 : a < 4294967296) : (bits .and .u32 a 2147483648 != 0) = decide (2147483648 ≤ a) := by
  rw [and_sign a h0 h1]
  split <;> simp [*]
theorem less_sign (a : Int) (h0 : 0 ≤ a) (h1 : a < 4294967296) : bits .andNot .u32 a 2147483648 = a % 2147483648 := by
  rw [u32_andNot a _ h0 h1 (by omega) (by omega), show 4294967295 - (2147483648 : Int).toNat = 2 ^ 31 - 1 from rfl, Nat.and_two_pow_sub_one_eq_mod]
  omega
theorem or_join (k : Nat) (x y : Int) (h0 : 0 ≤ x) (h1 : x < 4294967296) (hx : x % ((2 ^ k : Nat) : Int) = 0) (hy0 : 0 ≤ y) (hy : y < ((2 ^ k : Nat) : Int)) (hy1 : y < 4294967296) :
    bits .or .u32 x y = x + y := by
  obtain ⟨n, rfl⟩ := Int.eq_ofNat_of_zero_le h0
  obtain ⟨m, rfl⟩ := Int.eq_ofNat_of_zero_le hy0
  rw [u32_or _ _ h0 h1 hy0 hy1, nat_join k _ _ (by exact_mod_cast hx) (by exact_mod_cast hy)]
  rfl
theorem or_parts (e f : Int) (h0 : 0 ≤ e) (h1 : e ≤ 255) (hf0 : 0 ≤ f) (hf : f ≤ 8388607) : bits .or .u32 (e * 8388608) f = e * 8388608 + f :=
  or_join 23 _ _ (by omega) (by omega) (by simp) hf0 (by simpa using by omega) (by omega)
theorem sign_or (y : Int) (h0 : 0 ≤ y) (h1 : y < 2147483648) : bits .or .u32 2147483648 y = 2147483648 + y :=
  or_join 31 _ _ (by omega) (by omega) (by decide) h0 (by simpa using by omega) (by omega)
theorem bits_or_comm (x y : Int) (h0 : 0 ≤ x) (h1 : x < 4294967296) (hy0 : 0 ≤ y) (hy : y < 4294967296) : bits .or .u32 x y = bits .or .u32 y x := by
  rw [u32_or x y h0 h1 hy0 hy, u32_or y x hy0 hy h0 h1, Nat.or_comm]
theorem or_sign (y : Int) (h0 : 0 ≤ y) (h1 : y < 2147483648) : bits .or .u32 y 2147483648 = y + 2147483648 := by
  rw [bits_or_comm _ _ h0 (by omega) (by omega) (by omega), sign_or y h0 h1]; omega
theorem or_digit (x d : Int) (h0 : 0 ≤ x) (h1 : x < 4294967296) (hx : x % 16 = 0) (hd0 : 0 ≤ d) (hd : d < 16) : bits .or .u32 x d = x + d :=
  or_join 4 _ _ h0 h1 (by simpa using hx) hd0 (by simpa using hd) (by omega)

/-- the class of a pattern -/
def cls (a : Int) : Int :=
  if a / 8388608 % 256 = 255 then (if a % 8388608 = 0 then 4 else 5) else if a / 8388608 % 256 = 0 then (if a % 8388608 = 0 then 1 else 2) else 3
/-- is the pattern a NaN? (not reducible: the walk shall not open it) -/
def nan (a : Int) : Bool := decide (2139095040 < a % 2147483648)
theorem nan_iff (a : Int) : nan a = true ↔ 2139095040 < a % 2147483648 := by unfold nan; simp
theorem nan_not (a : Int) : nan a = false ↔ a % 2147483648 ≤ 2139095040 := by unfold nan; simp
theorem cls_nan (a : Int) (h : nan a = true) (h0 : 0 ≤ a) (h1 : a < 4294967296) : cls a = 5 := by
  rw [nan_iff] at h; unfold cls; rw [if_pos (by omega), if_neg (by omega)]
theorem cls_num (a : Int) (h : nan a = false) (h0 : 0 ≤ a) (h1 : a < 4294967296) : cls a ≠ 5 := by
  rw [nan_not] at h; unfold cls; repeat' split
  all_goals omega
def key (a : Int) : Int := if 2147483648 ≤ a then -1 - (a - 2147483648) else a
def keyV (a : Int) : Int := if nan a then 0 else key a
theorem keyV_nan (a : Int) (h : nan a = true) : keyV a = 0 := by unfold keyV; simp [h]
theorem keyV_num (a : Int) (h : nan a = false) : keyV a = key a := by unfold keyV; simp [h]
theorem canon_lo (a : Int) (h0 : 0 ≤ a) (h1 : a < 4294967296) : 0 ≤ (if nan a then 2143289344 else a) ∧ (if nan a then 2143289344 else a) < 4294967296 := by split <;> omega
def ofKey (k : Int) : Int := if k < 0 then 2147483648 + (-1 - k) else k
def canon (a : Int) : Int := if nan a then 2143289344 else a
def next (a : Int) : Int := if nan a then 2143289344 else if a = 2139095040 then a else ofKey (key a + 1)
def prev (a : Int) : Int := if nan a then 2143289344 else if a = 4286578688 then a else ofKey (key a - 1)
def mk (m : Bool) (e f : Int) : Int := if m then e * 8388608 + f + 2147483648 else e * 8388608 + f
def okParts (e f : Int) : Bool := decide (0 ≤ e ∧ e ≤ 255 ∧ 0 ≤ f ∧ f ≤ 8388607)
theorem key_lo (a : Int) (h0 : 0 ≤ a) (h1 : a < 4294967296) (hn : nan a = false) : -2139095041 ≤ key a ∧ key a ≤ 2139095040 := by
  rw [nan_not] at hn; unfold key; split <;> omega
theorem key_inf (a : Int) (h0 : 0 ≤ a) (h1 : a < 4294967296) (hn : nan a = false) (h : a ≠ 2139095040) : key a < 2139095040 := by
  rw [nan_not] at hn; unfold key; split <;> omega
theorem key_minf (a : Int) (h0 : 0 ≤ a) (h1 : a < 4294967296) (hn : nan a = false) (h : a ≠ 4286578688) : -2139095041 < key a := by
  rw [nan_not] at hn; unfold key; split <;> omega
theorem ofKey_key (a : Int) (h0 : 0 ≤ a) : ofKey (key a) = a := by unfold ofKey key; split <;> split <;> omega
theorem key_ofKey (k : Int) (h0 : -2147483648 ≤ k) (h1 : k < 2147483648) : key (ofKey k) = k := by unfold ofKey key; split <;> split <;> omega
theorem ofKey_lo (k : Int) (h0 : -2147483648 ≤ k) (h1 : k < 2147483648) : 0 ≤ ofKey k ∧ ofKey k < 4294967296 := by unfold ofKey; split <;> omega
theorem nan_ofKey (k : Int) (h0 : -2139095041 ≤ k) (h1 : k ≤ 2139095040) : nan (ofKey k) = false := by rw [nan_not]; unfold ofKey; split <;> omega
theorem key_inj (a b : Int) (h0 : 0 ≤ a) (h1 : a < 4294967296) (g0 : 0 ≤ b) (g1 : b < 4294967296) : (key a == key b) = (a == b) := by
  rw [Bool.eq_iff_iff]; simp only [beq_iff_eq]; unfold key; split <;> split <;> omega
theorem next_lo (a : Int) (h0 : 0 ≤ a) (h1 : a < 4294967296) : 0 ≤ next a ∧ next a < 4294967296 := by
  unfold next
  cases hn : nan a
  · have := key_lo a h0 h1 hn
    have := ofKey_lo (key a + 1) (by omega) (by omega)
    simp; split <;> omega
  · simp
theorem prev_lo (a : Int) (h0 : 0 ≤ a) (h1 : a < 4294967296) : 0 ≤ prev a ∧ prev a < 4294967296 := by
  unfold prev
  cases hn : nan a
  · have := key_lo a h0 h1 hn
    have := ofKey_lo (key a - 1) (by omega) (by omega)
    simp; split <;> omega
  · simp
theorem next_nan (a : Int) (hn : nan a = true) : next a = 2143289344 := by unfold next; simp [hn]
theorem prev_nan (a : Int) (hn : nan a = true) : prev a = 2143289344 := by unfold prev; simp [hn]
theorem next_inf : next 2139095040 = 2139095040 := by decide
theorem prev_minf : prev 4286578688 = 4286578688 := by decide
theorem next_num (a : Int) (hn : nan a = false) (h : a ≠ 2139095040) : next a = ofKey (key a + 1) := by unfold next; simp [hn, h]
theorem prev_num (a : Int) (hn : nan a = false) (h : a ≠ 4286578688) : prev a = ofKey (key a - 1) := by unfold prev; simp [hn, h]
theorem prev_next (a : Int) (h0 : 0 ≤ a) (h1 : a < 4294967296) (hn : nan a = false) (h : a ≠ 2139095040) : prev (next a) = a := by
  have a1 := key_lo a h0 h1 hn
  have a2 := key_inf a h0 h1 hn h
  rw [next_num a hn h, prev_num _ (nan_ofKey _ (by omega) (by omega)), key_ofKey _ (by omega) (by omega)]
  · rw [show key a + 1 - 1 = key a by omega, ofKey_key a h0]
  · intro e
    have a3 := key_ofKey (key a + 1) (by omega) (by omega)
    rw [e] at a3
    have a4 : key 4286578688 = -2139095041 := by decide
    omega
theorem next_prev (a : Int) (h0 : 0 ≤ a) (h1 : a < 4294967296) (hn : nan a = false) (h : a ≠ 4286578688) : next (prev a) = a := by
  have a1 := key_lo a h0 h1 hn
  have a2 := key_minf a h0 h1 hn h
  rw [prev_num a hn h, next_num _ (nan_ofKey _ (by omega) (by omega)), key_ofKey _ (by omega) (by omega)]
  · rw [show key a - 1 + 1 = key a by omega, ofKey_key a h0]
  · intro e
    have a3 := key_ofKey (key a - 1) (by omega) (by omega)
    rw [e] at a3
    have a4 : key 2139095040 = 2139095040 := by decide
    omega
theorem mk_parts (a : Int) (h0 : 0 ≤ a) (h1 : a < 4294967296) : mk (decide (2147483648 ≤ a)) (a / 8388608 % 256) (a % 8388608) = a := by
  unfold mk; by_cases h : 2147483648 ≤ a <;> simp [h] <;> omega
theorem mk_lo (m : Bool) (e f : Int) (h0 : 0 ≤ e) (h1 : e ≤ 255) (g0 : 0 ≤ f) (g1 : f ≤ 8388607) : 0 ≤ mk m e f ∧ mk m e f < 4294967296 := by
  unfold mk; cases m <;> simp <;> omega

end Go.Proofs.Ytnogokikiekcbab
