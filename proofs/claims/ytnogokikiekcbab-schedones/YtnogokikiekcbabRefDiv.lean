import Derived.Test.YtnogokikiekcbabRefUp
/- Div, of the reference of layer 2. -/
namespace Go.Proofs.Ytnogokikiekcbab
open Go.RowKit
set_option linter.unusedVariables false

def nk (m : Int) : Nat := 23 - m.toNat.log2
theorem pow_cast (k : Nat) : ((2 ^ k : Nat) : Int) = (2 : Int) ^ k := Int.natCast_pow 2 k
theorem nk_uniq (m : Int) (k : Nat) (h0 : 0 < m) (hk : k ≤ 23) (h : 8388608 ≤ m * 2 ^ k) (h' : m * 2 ^ k < 16777216) : k = nk m := by
  obtain ⟨n, rfl⟩ := Int.eq_ofNat_of_zero_le (Int.le_of_lt h0)
  rw [← pow_cast, ← Int.natCast_mul] at h h'
  have hn : n ≠ 0 := by omega
  have e : (n * 2 ^ k).log2 = n.log2 + k := by
    refine (Nat.log2_eq_iff (by omega)).2 ⟨?_, ?_⟩
    · rw [Nat.pow_add]; exact Nat.mul_le_mul_right _ (Nat.log2_self_le hn)
    · rw [show n.log2 + k + 1 = n.log2 + 1 + k by omega, Nat.pow_add]; exact Nat.mul_lt_mul_of_pos_right Nat.lt_log2_self (Nat.two_pow_pos k)
  have e2 : (n * 2 ^ k).log2 = 23 := (Nat.log2_eq_iff (by omega)).2 ⟨by omega, by omega⟩
  unfold nk; rw [Int.toNat_natCast]; omega

theorem nk_range (m : Int) (h0 : 0 < m) (h1 : m < 16777216) : nk m ≤ 23 ∧ 8388608 ≤ m * 2 ^ nk m ∧ m * 2 ^ nk m < 16777216 := by
  obtain ⟨n, rfl⟩ := Int.eq_ofNat_of_zero_le (Int.le_of_lt h0)
  have hn : n ≠ 0 := by omega
  have hl : n.log2 < 24 := (Nat.log2_lt hn).2 (by omega)
  have lo := Nat.log2_self_le hn
  have hi : n < 2 ^ (n.log2 + 1) := Nat.lt_log2_self
  unfold nk
  rw [Int.toNat_natCast, ← pow_cast, ← Int.natCast_mul]
  refine ⟨by omega, ?_, ?_⟩
  · have : 2 ^ n.log2 * 2 ^ (23 - n.log2) ≤ n * 2 ^ (23 - n.log2) := Nat.mul_le_mul_right _ lo
    rw [← Nat.pow_add, show n.log2 + (23 - n.log2) = 23 by omega] at this
    omega
  · have : n * 2 ^ (23 - n.log2) < 2 ^ (n.log2 + 1) * 2 ^ (23 - n.log2) := Nat.mul_lt_mul_of_pos_right hi (Nat.two_pow_pos _)
    rw [← Nat.pow_add, show n.log2 + 1 + (23 - n.log2) = 24 by omega] at this
    omega

/-- What the reference's number has in common with the word's. -/
theorem ref_mg (a : Int) (h0 : 0 ≤ a) (h1 : a < 4294967296) (hi : nInf a = false) (hn : nNan a = false) : rg a.toNat < 2139095040 ∧ ng a.toNat = nMin a ∧ (mg a.toNat : Int) = nM a ∧ (te a.toNat : Int) = nE a + 149 := by
  have h := ref_fin a h0 h1 hi hn
  have hf : rg a.toNat < 2139095040 := by
    rcases Nat.lt_trichotomy (rg a.toNat) 2139095040 with c | c | c
    · exact c
    · rw [read_inf _ c] at h; cases h.1
    · rw [read_nan _ c] at h; cases h.1
  rw [read_fin _ hf] at h
  have e := h.1
  injection e with e1 e2 e3
  exact ⟨hf, e1, by omega, by omega⟩

theorem fdiv_eq (a b : Int) {d e : Ieee.Datum} (h : Ieee.single.read a.toNat = d) (k : Ieee.single.read b.toNat = e) : fdiv a b = op2 ((d.quotient 25 e).map Ieee.single.write) := by
  unfold fdiv Ieee.Format.div; rw [h, k]; rfl

theorem dig_cast (p q : Nat) : (2 * ((p : Int) * 274877906944 / (q : Int)) + (if (p : Int) * 274877906944 % (q : Int) = 0 then 0 else 1)).toNat = 2 * ((p <<< 38) / q) + ((p <<< 38) % q != 0).toNat := by
  have e : (p : Int) * (274877906944 : Int) = ((p <<< 38 : Nat) : Int) := by
    rw [Nat.shiftLeft_eq, Int.natCast_mul, pow_cast]; rfl
  rw [e, ← Int.natCast_ediv, ← Int.natCast_emod]
  generalize (p <<< 38) / q = x
  generalize (p <<< 38) % q = y
  have hb : (y != 0).toNat = if y = 0 then 0 else 1 := by by_cases c : y = 0 <;> simp [c]
  rw [hb]
  by_cases c : y = 0
  · rw [if_pos c, if_pos (by omega)]; omega
  · rw [if_neg c, if_neg (by omega)]; omega

/-- The quotient's digits, by natural numbers: M * 2^j and N * 2^k are the two numbers' digits, E and F their places. -/
theorem quot_rung (M N j k r : Nat) (E F : Int) (ta tb : Nat) (hE : (ta : Int) = E + 149) (hF : (tb : Int) = F + 149) (hj : j ≤ 23) (hk : k ≤ 23) (hM : 8388608 ≤ M * 2 ^ j) (hN : 8388608 ≤ N * 2 ^ k) (hN2 : N * 2 ^ k < 16777216) (hNpos : 0 < N)
    (hnear : Near 23 (M * 2 ^ ta * 2 ^ 149) (N * 2 ^ tb) r) :
    r = rungOf 23 (-149) (2 * (((M * 2 ^ j) <<< 38) / (N * 2 ^ k)) + (((M * 2 ^ j) <<< 38) % (N * 2 ^ k) != 0).toNat) (E - j - (F - k) - 39) := by
  have hq : 0 < N * 2 ^ k := by omega
  have big : 25 ≤ (2 * (((M * 2 ^ j) <<< 38) / (N * 2 ^ k)) + (((M * 2 ^ j) <<< 38) % (N * 2 ^ k) != 0).toNat).log2 := by
    refine sticky_log hq (j := 24) ?_
    exact Nat.le_trans (Nat.mul_le_mul_right _ (show N * 2 ^ k ≤ 16777216 by omega)) (Nat.le_trans (by decide) (Nat.mul_le_mul_right _ hM))
  obtain ⟨s, hs⟩ : ∃ s : Nat, (s : Int) = F - k + 172 := ⟨(F - k + 172).toNat, by omega⟩
  obtain ⟨x, hx⟩ : ∃ x : Nat, (x : Int) = E - j + 321 := ⟨(E - j + 321).toNat, by omega⟩
  have h2 := near_quot (M * 2 ^ j) (N * 2 ^ k) 38 hq (E - j - (F - k) - 39) big x s (by omega) (by omega)
  refine hnear.unique h2 (Nat.mul_pos hNpos (Nat.two_pow_pos _)) (Nat.mul_pos hq (Nat.two_pow_pos s)) ?_
  obtain ⟨z, hz⟩ : ∃ z : Nat, z = 149 := ⟨_, rfl⟩
  rw [← hz]
  have e1 : M * 2 ^ ta * 2 ^ z * (N * 2 ^ k * 2 ^ s) = M * N * 2 ^ (ta + z + k + s) := by
    rw [Nat.pow_add, Nat.pow_add, Nat.pow_add]; grind
  have e2 : M * 2 ^ j * 2 ^ x * (N * 2 ^ tb) = M * N * 2 ^ (j + x + tb) := by
    rw [Nat.pow_add, Nat.pow_add]; grind
  rw [e1, e2, show ta + z + k + s = j + x + tb by omega]

theorem fdiv_ref (a b : Int) (h0 : 0 ≤ a) (h1 : a < 4294967296) (g0 : 0 ≤ b) (g1 : b < 4294967296) (hia : nInf a = false) (hna : nNan a = false) (hib : nInf b = false) (hnb : nNan b = false) (za : nM a ≠ 0) (zb : nM b ≠ 0)
    (A B : Int) (hA : nM a * 2 ^ nk (nM a) = A) (hB : nM b * 2 ^ nk (nM b) = B) :
    fdiv a b = (Ieee.single.nearest (nMin a != nMin b) (2 * (A * 274877906944 / B) + (if A * 274877906944 % B = 0 then 0 else 1)).toNat (nE a - nk (nM a) - (nE b - nk (nM b)) - 39) : Nat) := by
  obtain ⟨fa, sa, ma, ta⟩ := ref_mg a h0 h1 hia hna
  obtain ⟨fb, sb, mb, tb⟩ := ref_mg b g0 g1 hib hnb
  obtain ⟨-, a1, a2, a3, a4, -⟩ := ref_fin a h0 h1 hia hna
  obtain ⟨-, b1, b2, b3, b4, -⟩ := ref_fin b g0 g1 hib hnb
  obtain ⟨ka, A1, A2⟩ := nk_range (nM a) (by omega) a2
  obtain ⟨kb, B1, B2⟩ := nk_range (nM b) (by omega) b2
  obtain ⟨r, hr, hnear⟩ := div_fin a.toNat b.toNat fa fb (by omega) (by omega)
  have cA : A = ((mg a.toNat * 2 ^ nk (nM a) : Nat) : Int) := by rw [Int.natCast_mul, pow_cast, ma, hA]
  have cB : B = ((mg b.toNat * 2 ^ nk (nM b) : Nat) : Int) := by rw [Int.natCast_mul, pow_cast, mb, hB]
  rw [mv_eq, mv_eq] at hnear
  have key := quot_rung (mg a.toNat) (mg b.toNat) (nk (nM a)) (nk (nM b)) r (nE a) (nE b) (te a.toNat) (te b.toNat) ta tb ka kb (by omega) (by omega) (by omega) (by omega) hnear
  unfold fdiv
  rw [hr, sa, sb, xor_bne]
  show ((wd (nMin a != nMin b) r : Nat) : Int) = _
  rw [nearest_eq, single_fb, single_least, word_wd, cA, cB, dig_cast, ← key]

end Go.Proofs.Ytnogokikiekcbab
