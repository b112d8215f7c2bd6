import Derived.Test.YtnogokikiekcbabRefDiv
import Derived.Test.YtnogokikiekcbabRefAdd2
/- Sqrt, of the reference of layer 2. -/
namespace Go.Proofs.Ytnogokikiekcbab
open Go.RowKit
set_option linter.unusedVariables false

theorem fsqrt_eq (a : Int) {d : Ieee.Datum} (h : Ieee.single.read a.toNat = d) : fsqrt a = op2 ((d.root 25).map Ieee.single.write) := by
  unfold fsqrt Ieee.Format.sqrt; rw [h]; rfl

/-- The root's digits: n = M * 2^j * 2^36, or twice that, the place even. -/
theorem fsqrt_ref (a : Int) (h0 : 0 ≤ a) (h1 : a < 4294967296) (hia : nInf a = false) (hna : nNan a = false) (za : nM a ≠ 0) (hs : nMin a = false) (root n : Nat) (e : Int) (he : e % 2 = 0)
    (hn : (n : Int) = nM a * 2 ^ nk (nM a) * 68719476736 ∧ e = nE a - nk (nM a) - 36 ∨ (n : Int) = nM a * 2 ^ nk (nM a) * 68719476736 * 2 ∧ e = nE a - nk (nM a) - 37) (hr1 : root * root ≤ n) (hr2 : n < (root + 1) * (root + 1)) :
    fsqrt a = (Ieee.single.nearest false (2 * root + (if root * root < n then 1 else 0)) (e / 2 - 1) : Nat) := by
  obtain ⟨fa, sa, ma, ta⟩ := ref_mg a h0 h1 hia hna
  obtain ⟨-, a1, a2, a3, a4, -⟩ := ref_fin a h0 h1 hia hna
  obtain ⟨ka, A1, A2⟩ := nk_range (nM a) (by omega) a2
  obtain ⟨r, hr, hnear⟩ := root_single a.toNat fa (by rw [sa]; exact hs) (by omega)
  have hst : (root * root != n).toNat = if root * root < n then 1 else 0 := by
    by_cases c : root * root = n
    · rw [if_neg (by omega)]; simp [c]
    · rw [if_pos (by omega)]; simp [c]
  obtain ⟨x, hx⟩ : ∃ x : Nat, (x : Int) = e / 2 + 149 := ⟨(e / 2 + 149).toNat, by omega⟩
  have hn59 : 576460752303423488 ≤ n := by omega
  have hroot : 16777216 ≤ root := by
    rcases Nat.lt_or_ge root 16777216 with c | c
    · exfalso
      have := Nat.mul_self_le_mul_self (show root + 1 ≤ 16777216 from c)
      omega
    · exact c
  have big : 23 + 2 ≤ (2 * root + (root * root != n).toNat).log2 := by
    apply (Nat.le_log2 (by omega)).2
    omega
  have h2 := near_root 23 (-149) root n (e / 2 - 1) (by decide) hr1 hr2 big x (by omega)
  have hval : n * (2 ^ x * 2 ^ x) = mv a.toNat * 2 ^ 149 := by
    have cA : nM a * 2 ^ nk (nM a) = ((mg a.toNat * 2 ^ nk (nM a) : Nat) : Int) := by rw [Int.natCast_mul, pow_cast, ma]
    rw [cA] at hn
    obtain ⟨z, hz⟩ : ∃ z : Nat, z = 149 := ⟨_, rfl⟩
    rw [mv_eq, ← hz]
    rcases hn with ⟨hn, hE⟩ | ⟨hn, hE⟩
    · have hn' : n = mg a.toNat * 2 ^ nk (nM a) * 2 ^ 36 := by
        have : (2 : Nat) ^ 36 = 68719476736 := rfl
        omega
      rw [hn', Nat.mul_assoc, Nat.mul_assoc, Nat.mul_assoc, ← Nat.pow_add, ← Nat.pow_add, ← Nat.pow_add, ← Nat.pow_add]
      congr 2; omega
    · have hn' : n = mg a.toNat * 2 ^ nk (nM a) * 2 ^ 37 := by
        have : (2 : Nat) ^ 37 = 68719476736 * 2 := rfl
        omega
      rw [hn', Nat.mul_assoc, Nat.mul_assoc, Nat.mul_assoc, ← Nat.pow_add, ← Nat.pow_add, ← Nat.pow_add, ← Nat.pow_add]
      congr 2; omega
  rw [hval, hst] at h2
  have key := hnear.unique h2
  unfold fsqrt
  rw [hr]
  show ((wd false r : Nat) : Int) = _
  rw [nearest_eq, single_fb, single_least, word_wd, ← key]

def rrel (n k root : Nat) : Prop := root * root ≤ n ∧ n < (root + 2 ^ k) * (root + 2 ^ k) ∧ root + 2 ^ k ≤ 4294967296
def bitv (k : Nat) : Int := if k = 0 then 0 else 2 ^ (k - 1)
theorem bitv_succ (k : Nat) : bitv (k + 1) = 2 ^ k := by unfold bitv; rw [if_neg (by omega)]; rfl
theorem bitv_half (k : Nat) : (2 : Int) ^ k / 2 = bitv k := by
  unfold bitv
  rcases Nat.eq_zero_or_pos k with c | c
  · subst c; rfl
  · rw [if_neg (by omega)]
    obtain ⟨j, rfl⟩ : ∃ j, k = j + 1 := ⟨k - 1, by omega⟩
    rw [Int.pow_succ, Nat.add_sub_cancel]; omega

end Go.Proofs.Ytnogokikiekcbab
