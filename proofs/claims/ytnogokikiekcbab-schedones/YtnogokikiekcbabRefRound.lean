import Derived.Test.YtnogokikiekcbabRefWalks
/- Round, of the reference of layer 2. -/
namespace Go.Proofs.Ytnogokikiekcbab
open Go.RowKit
set_option linter.unusedVariables false

theorem word_sgn (s : Bool) (r : Nat) : ((wd s r : Nat) : Int) = sgn s + min (r : Int) 2139095040 := by
  unfold wd sgn; cases s
  · simp only [if_false, Bool.false_eq_true]; omega
  · simp only [if_true]; omega

/-- Round's outcome, by the place U of the last digit and the digits k that are kept. -/
theorem nearest_parts (s : Bool) (m : Nat) (e : Int) (h0 : m ≠ 0) : ∃ (U : Int) (k : Nat), U = max (e + (blen m : Int) - 24) (-149) ∧
    ((Ieee.single.nearest s m e : Nat) : Int) = sgn s + min ((U + 149) * 8388608 + k) 2139095040 ∧ k ≤ 16777216 ∧ (U = -149 ∨ 8388608 ≤ k) ∧
    k = Ieee.Toward.even.cut false (m * 2 ^ (e - U).toNat) (U - e).toNat ∧ (U ≤ e → (k : Int) = (m : Int) * 2 ^ (e - U).toNat) := by
  have hb : (blen m : Int) - 24 = m.log2 - 23 := by unfold blen; rw [if_neg h0]; omega
  have hn := nearest_eq Ieee.single s m e
  rw [word_wd, single_fb, single_least] at hn
  refine ⟨max (e + (blen m : Int) - 24) (-149), Ieee.Toward.even.cut false (m * 2 ^ (e - max (e + (blen m : Int) - 24) (-149)).toNat) (max (e + (blen m : Int) - 24) (-149) - e).toNat, rfl, ?_⟩
  have hU : max (e + (blen m : Int) - 24) (-149) = max (e + m.log2 - ((23 : Nat) : Int)) (-149) := by omega
  rw [hU]
  generalize hUU : max (e + m.log2 - ((23 : Nat) : Int)) (-149) = U at *
  have hr : rungOf 23 (-149) m e = (U - (-149)).toNat * 2 ^ 23 + Ieee.Toward.even.cut false (m * 2 ^ (e - U).toNat) (U - e).toNat := by
    unfold rungOf; rw [if_neg h0, Nat.shiftLeft_eq, hUU]
  have hcut := cut_even false (m * 2 ^ (e - U).toNat) (U - e).toNat
  generalize hk : Ieee.Toward.even.cut false (m * 2 ^ (e - U).toNat) (U - e).toNat = k at *
  have hlo : 2 ^ m.log2 ≤ m := Nat.log2_self_le h0
  have hhi : m < 2 ^ (m.log2 + 1) := Nat.lt_log2_self
  -- the range of what is cut
  have hcs := hcut.scale 0 0 (U - e).toNat rfl
  rw [Nat.pow_zero, Nat.mul_one] at hcs
  have lo : U = -149 ∨ 2 ^ 23 * 2 ^ (U - e).toNat ≤ m * 2 ^ (e - U).toNat := by
    rcases (show U = -149 ∨ U = e + m.log2 - 23 by omega) with c | c
    · exact Or.inl c
    · right
      calc 2 ^ 23 * 2 ^ (U - e).toNat = 2 ^ m.log2 * 2 ^ (e - U).toNat := by rw [← Nat.pow_add, ← Nat.pow_add]; congr 1; omega
        _ ≤ m * 2 ^ (e - U).toNat := Nat.mul_le_mul_right _ hlo
  have hi : m * 2 ^ (e - U).toNat < 2 * 2 ^ 23 * 2 ^ (U - e).toNat := by
    calc m * 2 ^ (e - U).toNat < 2 ^ (m.log2 + 1) * 2 ^ (e - U).toNat := Nat.mul_lt_mul_of_pos_right hhi (Nat.two_pow_pos _)
      _ = 2 ^ (m.log2 + 1 + (e - U).toNat) := (Nat.pow_add ..).symm
      _ ≤ 2 ^ (24 + (U - e).toNat) := Nat.pow_le_pow_right (by decide) (by omega)
      _ = 2 * 2 ^ 23 * 2 ^ (U - e).toNat := by rw [Nat.pow_add]
  have up := hcut.up
  have dn := hcut.dn
  simp only [Nat.mul_one] at up dn
  have hT : 0 < 2 ^ (U - e).toNat := Nat.two_pow_pos _
  have hkle : k ≤ 16777216 := by
    rcases Nat.lt_or_ge 16777216 k with c | c
    · exfalso
      have : (2 * 16777217) * 2 ^ (U - e).toNat ≤ 2 * k * 2 ^ (U - e).toNat := Nat.mul_le_mul_right _ (by omega)
      generalize 2 ^ (U - e).toNat = T at *
      generalize m * 2 ^ (e - U).toNat = X at *
      omega
    · exact c
  have hkge : U = -149 ∨ 8388608 ≤ k := by
    rcases lo with c | c
    · exact Or.inl c
    · right
      rcases Nat.lt_or_ge k 8388608 with d | d
      · exfalso
        have : (2 * k + 1) * 2 ^ (U - e).toNat ≤ 16777215 * 2 ^ (U - e).toNat := Nat.mul_le_mul_right _ (by omega)
        generalize 2 ^ (U - e).toNat = T at *
        generalize m * 2 ^ (e - U).toNat = X at *
        omega
      · exact d
  refine ⟨?_, hkle, hkge, rfl, ?_⟩
  · rw [hn, hr, word_sgn]; rw [Int.natCast_add, Int.natCast_mul, Int.toNat_of_nonneg (by omega)]; omega
  · intro l
    rw [show (U - e).toNat = 0 by omega] at hcut
    have up := hcut.up
    have dn := hcut.dn
    have ue := hcut.ue
    have de := hcut.de
    have : k = m * 2 ^ (e - U).toNat := by
      generalize m * 2 ^ (e - U).toNat = X at *
      simp only [Nat.pow_zero, Nat.mul_one] at ue de up dn
      omega
    rw [this]; push_cast; rfl

end Go.Proofs.Ytnogokikiekcbab
