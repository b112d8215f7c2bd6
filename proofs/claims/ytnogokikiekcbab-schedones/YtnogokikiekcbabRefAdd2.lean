import Derived.Test.YtnogokikiekcbabRefAdd
/- Sums of the reference of layer 2, by value. -/
namespace Go.Proofs.Ytnogokikiekcbab
open Go.RowKit
set_option linter.unusedVariables false

theorem near_close (p t k n δ : Nat) (hp : 1 ≤ p) (ht : 1 ≤ t) (hk : 2 ^ p ≤ k) (hk2 : k < 2 * 2 ^ p) (h : n = k * 2 ^ t + δ ∨ n + δ = k * 2 ^ t) (hδ : 4 * δ < 2 ^ t) : Near p n 1 (t * 2 ^ p + k) := by
  have hB : 0 < 2 ^ p := Nat.two_pow_pos p
  have v0 : V p (t * 2 ^ p + k) = k * 2 ^ t := V_at p t k (by omega) (Or.inr hk)
  have v1 : V p (t * 2 ^ p + k + 1) = (k + 1) * 2 ^ t := by rw [Nat.add_assoc]; exact V_at p t (k + 1) (by omega) (Or.inr (by omega))
  have e1 : (k + 1) * 2 ^ t = k * 2 ^ t + 2 ^ t := by rw [Nat.add_mul, Nat.one_mul]
  have hlow : ∀ q, t * 2 ^ p + k = q + 1 → 2 * (V p q) + 2 ^ t ≤ 2 * (k * 2 ^ t) := by
    intro q hq
    have hst := V_step p q
    rw [← hq, v0] at hst
    have : t - 1 ≤ q / 2 ^ p - 1 := by
      have : t ≤ q / 2 ^ p := (Nat.le_div_iff_mul_le hB).2 (by omega)
      omega
    have hle : 2 ^ (t - 1) ≤ 2 ^ (q / 2 ^ p - 1) := Nat.pow_le_pow_right (by decide) this
    have : 2 ^ t = 2 * 2 ^ (t - 1) := by
      obtain ⟨e, rfl⟩ : ∃ e, t = e + 1 := ⟨t - 1, by omega⟩
      rw [Nat.add_sub_cancel, Nat.pow_succ, Nat.mul_comm]
    omega
  refine ⟨?_, ?_, ?_, ?_⟩
  · rw [v0, v1, e1, Nat.mul_one]; omega
  · rw [v0, v1, e1, Nat.mul_one]; omega
  · intro q hq; have := hlow q hq; rw [v0, Nat.mul_one]; omega
  · intro q hq; have := hlow q hq; rw [v0, Nat.mul_one]; omega

/-- Far from one another: the lesser turns nothing. -/
theorem far_rung (m : Nat) (e : Int) (x δ : Nat) (i : Int) (hm : 8388608 ≤ m) (hm2 : m < 16777216) (hi : -113 < i) (j : Int) (hj : -149 ≤ j) (u : Nat) (hu : (u : Int) = i - j) (hx : x = m * 2 ^ u + δ ∨ x + δ = m * 2 ^ u) (hδ : 4 * δ < 2 ^ u) :
    rungOf 23 (-149) x j = (i + 149).toNat * 8388608 + m := by
  obtain ⟨c, hc⟩ : ∃ c : Nat, (c : Int) = j + 149 := ⟨(j + 149).toNat, by omega⟩
  have h1 := near_rungOf 23 (-149) x j (by decide) c 0 (by omega)
  have ht : (i + 149).toNat = u + c := by omega
  have h2 : Near 23 (x * 2 ^ c) 1 ((i + 149).toNat * 2 ^ 23 + m) := by
    refine near_close 23 (i + 149).toNat m (x * 2 ^ c) (δ * 2 ^ c) (by decide) (by omega) (by omega) (by omega) ?_ ?_
    · rw [ht, Nat.pow_add, ← Nat.mul_assoc, ← Nat.add_mul]
      rcases hx with hx | hx
      · left; rw [hx]
      · right; rw [← Nat.add_mul, hx]
    · rw [ht, Nat.pow_add, ← Nat.mul_assoc]
      exact Nat.mul_lt_mul_of_pos_right hδ (Nat.two_pow_pos c)
  exact h1.unique h2 (by decide) (by decide) (by simp)

theorem signed_eq (s : Bool) (m u : Nat) : Ieee.signed s m u = sgd s ((m : Int) * 2 ^ u) := by
  unfold Ieee.signed sgd; rw [Nat.shiftLeft_eq]; push_cast; rfl
theorem fadd_eq (a b : Int) {d e : Ieee.Datum} (h : Ieee.single.read a.toNat = d) (k : Ieee.single.read b.toNat = e) : fadd a b = op2 ((d.sum e).map Ieee.single.write) := by
  unfold fadd Ieee.Format.add; rw [h, k]
theorem near_zero (s : Bool) (e : Int) : ((Ieee.single.nearest s 0 e : Nat) : Int) = sgn s := by
  rw [show Ieee.single.nearest s 0 e = wd s 0 from by unfold Ieee.Format.nearest; rw [if_pos rfl]; rfl, word_sgn]; omega

theorem sum_sumv (s1 : Bool) (m1 e1 : Int) (s2 : Bool) (m2 e2 : Int) (h1 : 0 < m1) (h2 : m1 < 16777216) (h3 : 0 < m2) (h4 : m2 < 16777216) (h5 : -149 ≤ e2) (h6 : e2 ≤ e1) (h7 : e1 = -149 ∨ 8388608 ≤ m1) :
    op2 (((Ieee.Datum.number s1 m1.toNat e1).sum (.number s2 m2.toNat e2)).map Ieee.single.write) = sumv s1 m1 e1 s2 m2 e2 := by
  simp only [Ieee.Datum.sum, Option.map_some, Ieee.Format.write]
  rw [show min e1 e2 = e2 by omega, show (e2 - e2).toNat = 0 by omega, signed_eq, signed_eq, Int.toNat_of_nonneg (by omega), Int.toNat_of_nonneg (by omega), Int.pow_zero, Int.mul_one]
  have hP : (1 : Int) ≤ 2 ^ (e1 - e2).toNat := Int.pow_pos (by decide)
  have hX : 0 < m1 * 2 ^ (e1 - e2).toNat := Int.mul_pos h1 (by omega)
  unfold sumv
  by_cases c : e1 - e2 ≤ 36
  · rw [if_pos c]
    generalize m1 * 2 ^ (e1 - e2).toNat = X at *
    unfold rnd
    by_cases z : sgd s1 X + sgd s2 m2 = 0
    · rw [if_pos z, if_pos z, z]
      have : (s1 && s2) = false := by
        cases s1 <;> cases s2 <;> simp only [sgd, if_true, if_false, Bool.false_eq_true] at z <;> first | rfl | omega
      rw [this]; exact near_zero false e2
    · rw [if_neg z, if_neg z]; rfl
  · rw [if_neg c]
    have hm8 : 8388608 ≤ m1 := by omega
    -- the great one's size
    have hpow : (2 : Int) ^ (e1 - e2).toNat = 2 ^ (e1 - e2 - 37).toNat * 137438953472 := by
      have : (e1 - e2).toNat = (e1 - e2 - 37).toNat + 37 := by omega
      rw [this, Int.pow_add]; rfl
    have hP2 : (1 : Int) ≤ 2 ^ (e1 - e2 - 37).toNat := Int.pow_pos (by decide)
    have hbig : 137438953472 ≤ (2 : Int) ^ (e1 - e2).toNat := by omega
    have hXbig : 137438953472 ≤ m1 * 2 ^ (e1 - e2).toNat := by
      have := Int.mul_le_mul (show (1 : Int) ≤ m1 by omega) hbig (by decide) (by omega)
      omega
    have hz1 : ¬ (sgd s1 (m1 * 2 ^ (e1 - e2).toNat) + sgd s2 m2 = 0) := by
      generalize m1 * 2 ^ (e1 - e2).toNat = X at *
      cases s1 <;> cases s2 <;> simp only [sgd, if_true, if_false, Bool.false_eq_true] <;> omega
    have hz2 : ¬ (sgd s1 (m1 * 68719476736) + sgd s2 1 = 0) := by
      cases s1 <;> cases s2 <;> simp only [sgd, if_true, if_false, Bool.false_eq_true] <;> omega
    have hs1 : decide (sgd s1 (m1 * 2 ^ (e1 - e2).toNat) + sgd s2 m2 < 0) = s1 := by
      generalize m1 * 2 ^ (e1 - e2).toNat = X at *
      cases s1 <;> cases s2 <;> simp only [sgd, if_true, if_false, Bool.false_eq_true] <;> simp <;> omega
    have hs2 : decide (sgd s1 (m1 * 68719476736) + sgd s2 1 < 0) = s1 := by
      cases s1 <;> cases s2 <;> simp only [sgd, if_true, if_false, Bool.false_eq_true] <;> simp <;> omega
    unfold rnd
    rw [if_neg hz1, if_neg hz2, hs1, hs2, nearest_eq, nearest_eq]
    have r1 : rungOf 23 (-149) (sgd s1 (m1 * 2 ^ (e1 - e2).toNat) + sgd s2 m2).natAbs e2 = (e1 + 149).toNat * 8388608 + m1.toNat := by
      refine far_rung m1.toNat 0 _ m2.toNat e1 (by omega) (by omega) (by omega) e2 h5 (e1 - e2).toNat (by omega) ?_ ?_
      · have hcast : ((m1.toNat * 2 ^ (e1 - e2).toNat : Nat) : Int) = m1 * 2 ^ (e1 - e2).toNat := by
          rw [Int.natCast_mul, Int.natCast_pow, Int.toNat_of_nonneg (by omega)]; rfl
        generalize m1.toNat * 2 ^ (e1 - e2).toNat = Y at *
        generalize m1 * 2 ^ (e1 - e2).toNat = X at *
        cases s1 <;> cases s2 <;> simp only [sgd, if_true, if_false, Bool.false_eq_true] <;> omega
      · have hcast : ((2 ^ (e1 - e2).toNat : Nat) : Int) = (2 : Int) ^ (e1 - e2).toNat := Int.natCast_pow 2 _
        omega
    have r2 : rungOf 23 (-149) (sgd s1 (m1 * 68719476736) + sgd s2 1).natAbs (e1 - 36) = (e1 + 149).toNat * 8388608 + m1.toNat := by
      refine far_rung m1.toNat 0 _ 1 e1 (by omega) (by omega) (by omega) (e1 - 36) (by omega) 36 (by omega) ?_ (by decide)
      rw [show (2 : Nat) ^ 36 = 68719476736 from rfl]
      cases s1 <;> cases s2 <;> simp only [sgd, if_true, if_false, Bool.false_eq_true] <;> omega
    rw [single_fb, single_least, r1, r2]; rfl

end Go.Proofs.Ytnogokikiekcbab
