import Derived.Test.YtbeamaaclplababNearEven
/- Sums and products are nearest: what the statement FloatNear asks. -/
namespace Go.Proofs.Ytbeamaaclplabab
open Go.RowKit
set_option linter.unusedVariables false

theorem sg_prod (s t : Bool) (m n : Nat) : sg s m * sg t n = sg (s ^^ t) (m * n) := by
  cases s <;> cases t <;> simp [sg, Int.neg_mul, Int.mul_neg]

theorem mul_near (a b : Int) (h0 : 0 ≤ a) (h1 : a < 4294967296) (g0 : 0 ≤ b) (g1 : b < 4294967296) (ha : ffin a = true) (hb : ffin b = true) (hz : ffin (fmul a b) = true) (d : Nat) (hd : (d : Int) = pE (fmul a b) - pE a - pE b) :
    evenB (pM (fmul a b)) (pM a * pM b) d = true := by
  have lz := fmul_lo a b
  obtain ⟨hc, hng⟩ := mul_cut a b ha hb h0 g0 hz
  have fA := pE_eq a h0 h1
  have fB := pE_eq b g0 g1
  have fZ := pE_eq (fmul a b) lz.1 lz.2
  rw [pM_eq a h0 h1, pM_eq b g0 g1, pM_eq (fmul a b) lz.1 lz.2, sg_prod, hng]
  apply even_of_cut
  rw [mv_eq, mv_eq] at hc
  have e : mg a.toNat * 2 ^ te a.toNat * (mg b.toNat * 2 ^ te b.toNat) = mg a.toNat * mg b.toNat * 2 ^ (te a.toNat + te b.toNat) := by rw [Nat.pow_add, Nat.mul_mul_mul_comm]
  rw [e] at hc
  exact hc.unscale d (by omega)

/-- The sum of two finite numbers in units of the lesser place 'low'. -/
theorem sum_units (a b : Int) (h0 : 0 ≤ a) (h1 : a < 4294967296) (g0 : 0 ≤ b) (g1 : b < 4294967296) (c : Nat) (hc : c ≤ te a.toNat ∧ c ≤ te b.toNat) :
    sv a.toNat + sv b.toNat = (pM a * 2 ^ (te a.toNat - c) + pM b * 2 ^ (te b.toNat - c)) * 2 ^ c := by
  rw [sv_parts a h0 h1, sv_parts b g0 g1, Int.add_mul, Int.mul_assoc, Int.mul_assoc, ← Int.pow_add, ← Int.pow_add, show te a.toNat - c + c = te a.toNat by omega, show te b.toNat - c + c = te b.toNat by omega]

theorem sg_abs (T : Int) (s : Bool) (h : s = decide (T < 0) ∨ T = 0) : sg s T.natAbs = T := by
  unfold sg
  rcases h with h | h
  · rw [h]; by_cases c : T < 0
    · rw [if_pos (by simpa using c)]; omega
    · rw [if_neg (by simpa using c)]; omega
  · subst h; simp

theorem add_near (a b : Int) (h0 : 0 ≤ a) (h1 : a < 4294967296) (g0 : 0 ≤ b) (g1 : b < 4294967296) (ha : ffin a = true) (hb : ffin b = true) (hz : ffin (fadd a b) = true) (low S : Int) (hlow : low = min (pE a) (pE b)) (hS : S = pM a * 2 ^ (pE a - low).toNat + pM b * 2 ^ (pE b - low).toNat) :
    (∀ d : Nat, (d : Int) = pE (fadd a b) - low → evenB (pM (fadd a b)) S d = true) ∧ (∀ d : Nat, (d : Int) = low - pE (fadd a b) → pM (fadd a b) = S * 2 ^ d) := by
  have lz := fadd_lo a b
  obtain ⟨hc, -, hng⟩ := add_cut a b ha hb h0 g0 hz
  have fA := pE_eq a h0 h1
  have fB := pE_eq b g0 g1
  have fZ := pE_eq (fadd a b) lz.1 lz.2
  have hu := sum_units a b h0 h1 g0 g1 (min (te a.toNat) (te b.toNat)) ⟨by omega, by omega⟩
  rw [show te a.toNat - min (te a.toNat) (te b.toNat) = (pE a - low).toNat by omega, show te b.toNat - min (te a.toNat) (te b.toNat) = (pE b - low).toNat by omega, ← hS] at hu
  generalize hcc : min (te a.toNat) (te b.toNat) = c at *
  have hlc : low = (c : Int) - 149 := by omega
  rw [hu] at hc hng
  have habs : (S * 2 ^ c).natAbs = S.natAbs * 2 ^ c := by rw [Int.natAbs_mul, Int.natAbs_pow]; rfl
  rw [habs] at hc
  have hP : (0 : Int) < 2 ^ c := Int.pow_pos (by decide)
  have hz0 : S * 2 ^ c = 0 ↔ S = 0 := ⟨fun q => by rcases Int.mul_eq_zero.1 q with q | q <;> omega, fun q => by rw [q, Int.zero_mul]⟩
  have hs0 : S * 2 ^ c < 0 ↔ S < 0 := ⟨fun q => Int.not_le.1 fun r => absurd (Int.mul_nonneg r (Int.le_of_lt hP)) (Int.not_le.2 q), fun q => Int.mul_neg_of_neg_of_pos q hP⟩
  have hsgn : ng (fadd a b).toNat = decide (S < 0) ∨ S = 0 := by
    rw [hng]
    by_cases q : S = 0
    · exact Or.inr q
    · left; rw [if_neg (by rw [hz0]; exact q)]; simp only [hs0]
  have hSabs := sg_abs S _ hsgn
  constructor
  · intro d hd
    rw [pM_eq (fadd a b) lz.1 lz.2, ← hSabs]
    apply even_of_cut
    have hc' : Cut (S.natAbs * 2 ^ c) (2 ^ 0) (mg (fadd a b).toNat) (te (fadd a b).toNat) := hc
    exact hc'.unscale d (by omega)
  · intro d hd
    rw [pM_eq (fadd a b) lz.1 lz.2, ← hSabs]
    have hc' : Cut (S.natAbs * 2 ^ d * 2 ^ te (fadd a b).toNat) (2 ^ 0) (mg (fadd a b).toNat) (te (fadd a b).toNat) := by
      rw [Nat.mul_assoc, ← Nat.pow_add, show d + te (fadd a b).toNat = c by omega]; exact hc
    have hcut := hc'.unscale 0 (by omega)
    have up := hcut.up
    have dn := hcut.dn
    simp only [Nat.pow_zero, Nat.mul_one] at up dn
    have e : mg (fadd a b).toNat = S.natAbs * 2 ^ d := by omega
    rw [e, sg_mul]
    have : sg (ng (fadd a b).toNat) S.natAbs * ((2 ^ d : Nat) : Int) = sg (ng (fadd a b).toNat) S.natAbs * 2 ^ d := by rw [Int.natCast_pow]; rfl
    rw [this]

end Go.Proofs.Ytbeamaaclplabab
