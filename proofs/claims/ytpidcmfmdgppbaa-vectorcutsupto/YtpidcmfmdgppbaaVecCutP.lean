import Derived.Test.YtpidcmfmdgppbaaVecSure
/- A sum goes on from what it is: what stands behind it. -/
namespace Go.Proofs.Ytpidcmfmdgppbaa
open Go.RowKit
set_option linter.unusedVariables false

theorem R_pos {n : Nat} (h : 0 < n) : 0 < R n := by
  have h1 : R 1 = 1 := by decide +kernel
  have h2 : V 23 (R 1) ≤ V 23 (R n) := V_le 23 ((near_R 1).mono (near_R n) (by decide) (by decide) (by omega))
  rw [h1] at h2
  rcases Nat.eq_zero_or_pos (R n) with c | c
  · rw [c] at h2; exact absurd h2 (by decide +kernel)
  · exact c

/-- A sum is minus nought only of two minus noughts. -/
theorem sum_not_minus (t x : Int) (h0 : 0 ≤ t) (h1 : t < 4294967296) (g0 : 0 ≤ x) (g1 : x < 4294967296) (ht : t ≠ 2147483648) : fadd t x ≠ 2147483648 := by
  rcases Nat.lt_trichotomy (rg t.toNat) 2139095040 with ft | ft | ft
  · rcases Nat.lt_trichotomy (rg x.toNat) 2139095040 with fx | fx | fx
    · unfold fadd
      rw [add_fin _ _ ft fx]
      show ((wd _ _ : Nat) : Int) ≠ _
      by_cases hT : sv t.toNat + sv x.toNat = 0
      · rw [if_pos hT]
        by_cases hs : (ng t.toNat && ng x.toNat) = true
        · exfalso
          simp only [Bool.and_eq_true] at hs
          have e1 : sv t.toNat = -(mv t.toNat : Int) := by unfold sv sg; rw [if_pos hs.1]
          have e2 : sv x.toNat = -(mv x.toNat : Int) := by unfold sv sg; rw [if_pos hs.2]
          have e3 : mv t.toNat = 0 := by omega
          have e4 := (mv_zero t.toNat).1 e3
          have e5 := toNat_parts t h0 h1
          rw [e4, hs.1] at e5
          exact ht (by simpa using e5)
        · have : (ng t.toNat && ng x.toNat) = false := by simpa using hs
          rw [this]
          unfold wd
          rw [if_neg (by decide)]
          omega
      · have hp : 0 < R (sv t.toNat + sv x.toNat).natAbs := R_pos (by omega)
        rw [if_neg hT]
        unfold wd
        split <;> omega
    · rw [fadd_eq t x (read_fin _ ft) (read_inf _ fx)]
      show ((wd (ng x.toNat) 2139095040 : Nat) : Int) ≠ _
      unfold wd; split <;> decide
    · rw [fadd_eq t x (read_fin _ ft) (read_nan _ fx)]
      show (2143289344 : Int) ≠ _
      decide
  · rcases Nat.lt_trichotomy (rg x.toNat) 2139095040 with fx | fx | fx
    · rw [fadd_eq t x (read_inf _ ft) (read_fin _ fx)]
      show ((wd (ng t.toNat) 2139095040 : Nat) : Int) ≠ _
      unfold wd; split <;> decide
    · rw [fadd_eq t x (read_inf _ ft) (read_inf _ fx)]
      cases ng t.toNat <;> cases ng x.toNat <;> decide +kernel
    · rw [fadd_eq t x (read_inf _ ft) (read_nan _ fx)]
      show (2143289344 : Int) ≠ _
      decide
  · rw [fadd_eq t x (read_nan _ ft) rfl]
    cases Ieee.single.read x.toNat <;> (show (2143289344 : Int) ≠ _; decide)

/-- Nought and a number that is no minus nought: that number. -/
theorem zero_add (y : Int) (h0 : 0 ≤ y) (h1 : y < 4294967296) (hy : y ≠ 2147483648) (hc : canon y = y) : fadd 0 y = y := by
  have z0 : rg (0 : Int).toNat < 2139095040 := by decide
  have parts := toNat_parts y h0 h1
  rcases Nat.lt_trichotomy (rg y.toNat) 2139095040 with fy | fy | fy
  · unfold fadd
    rw [add_fin _ _ z0 fy]
    show ((wd _ _ : Nat) : Int) = y
    have e0 : sv (0 : Int).toNat = 0 := by decide +kernel
    have n0 : ng (0 : Int).toNat = false := by decide
    rw [e0, Int.zero_add, n0]
    by_cases hT : sv y.toNat = 0
    · rw [if_pos hT]
      have e3 : mv y.toNat = 0 := by unfold sv sg at hT; split at hT <;> omega
      have e4 := (mv_zero y.toNat).1 e3
      rw [e4] at parts
      have : y = 0 := by
        split at parts
        · exact absurd (by simpa using parts) hy
        · simpa using parts
      subst this
      decide +kernel
    · rw [if_neg hT]
      have ea : (sv y.toNat).natAbs = V 23 (rg y.toNat) := by unfold sv sg; split <;> (unfold mv; omega)
      have es : decide (sv y.toNat < 0) = ng y.toNat := by
        have hm : mv y.toNat ≠ 0 := fun e => hT (by unfold sv sg; split <;> omega)
        unfold sv sg
        cases ng y.toNat <;> simp <;> omega
      rw [ea, R_exact, es]
      unfold wd
      have hmin : min (rg y.toNat) 2139095040 = rg y.toNat := by omega
      rw [hmin]
      split at parts
      · rename_i c; rw [if_pos c]; omega
      · rename_i c; rw [if_neg c]; omega
  · rw [fadd_eq 0 y (read_fin _ z0) (read_inf _ fy)]
    show ((wd (ng y.toNat) 2139095040 : Nat) : Int) = y
    rw [fy] at parts
    unfold wd
    split at parts
    · rename_i c; rw [if_pos c]; omega
    · rename_i c; rw [if_neg c]; omega
  · rw [fadd_eq 0 y (read_fin _ z0) (read_nan _ fy)]
    show (2143289344 : Int) = y
    have hn : nan y = true := by rw [nan_rg y h0]; simpa using fy
    rw [← hc]; unfold canon; rw [if_pos hn]

theorem op2c {o : Option Nat} (h : ∀ r, o = some r → rg r ≤ 2139095040) : canon (op2 o) = op2 o := by
  cases o with
  | none => decide
  | some r => exact canon_num (h r rfl)
theorem fsum_facts (X : Nat → Int) (hX : ∀ i, IsP (X i)) : ∀ n, fsum X n ≠ 2147483648 ∧ canon (fsum X n) = fsum X n
  | 0 => ⟨by show (0 : Int) ≠ _; decide, by show canon 0 = 0; decide⟩
  | n + 1 => ⟨sum_not_minus _ _ (isP_sum X n hX).1 (isP_sum X n hX).2 (hX n).1 (hX n).2 (fsum_facts X hX n).1, op2c fun _ h => (add_num h).1⟩
theorem zero_sum (X : Nat → Int) (hX : ∀ i, IsP (X i)) (n : Nat) : fadd 0 (fsum X n) = fsum X n :=
  zero_add _ (isP_sum X n hX).1 (isP_sum X n hX).2 (fsum_facts X hX n).1 (fsum_facts X hX n).2

/-- The list that goes on from a sum. -/
def onto (X : Nat → Int) (k : Nat) : Nat → Int
  | 0 => fsum X k
  | i + 1 => X (k + i)
theorem isP_onto {X : Nat → Int} (hX : ∀ i, IsP (X i)) (k : Nat) : ∀ i, IsP (onto X k i)
  | 0 => isP_sum X k hX
  | i + 1 => hX _
theorem sum_onto (X : Nat → Int) (hX : ∀ i, IsP (X i)) (k : Nat) : ∀ j, fsum (onto X k) (j + 1) = fsum X (k + j)
  | 0 => by show fadd 0 (fsum X k) = _; rw [zero_sum X hX k]; rfl
  | j + 1 => by show fadd (fsum (onto X k) (j + 1)) (X (k + j)) = _; rw [sum_onto X hX k j]; rfl

end Go.Proofs.Ytpidcmfmdgppbaa
