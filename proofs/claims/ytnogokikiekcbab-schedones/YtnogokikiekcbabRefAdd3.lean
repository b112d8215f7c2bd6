import Derived.Test.YtnogokikiekcbabRefAdd2
/- Add and Sub of the reference of layer 2. -/
namespace Go.Proofs.Ytnogokikiekcbab
open Go.RowKit
set_option linter.unusedVariables false

theorem fadd_nan (a b : Int) (h0 : 0 ≤ a) (h1 : a < 4294967296) (g0 : 0 ≤ b) (g1 : b < 4294967296) (h : nNan a = true ∨ nNan b = true) : fadd a b = 2143289344 := by
  rcases h with h | h
  · obtain ⟨s, t, e⟩ := ref_nan a h0 h1 h
    rw [fadd_eq a b e rfl]; cases Ieee.single.read b.toNat <;> rfl
  · obtain ⟨s, t, e⟩ := ref_nan b g0 g1 h
    rw [fadd_eq a b rfl e]; cases Ieee.single.read a.toNat <;> rfl
theorem fadd_zero (a b : Int) (h0 : 0 ≤ a) (h1 : a < 4294967296) (g0 : 0 ≤ b) (g1 : b < 4294967296) {s : Bool} {i : Int} (ra : Ieee.single.read a.toNat = .number s 0 i) (rb : Ieee.single.read b.toNat = .number (nMin b) (nM b).toNat (nE b)) (hb : nM b ≠ 0) (hb0 : 0 ≤ nM b) (hi : -149 ≤ i) (hj : -149 ≤ nE b) :
    fadd a b = (Ieee.single.nearest (nMin b) (nM b).toNat (nE b) : Nat) := by
  rw [fadd_eq a b ra rb]
  simp only [Ieee.Datum.sum, Option.map_some, Ieee.Format.write]
  generalize hbase : min i (nE b) = base
  have hz : Ieee.signed s 0 (i - base).toNat = 0 := by unfold Ieee.signed; simp
  rw [hz, Int.zero_add, signed_eq]
  have hP : (1 : Int) ≤ 2 ^ (nE b - base).toNat := Int.pow_pos (by decide)
  have hX : 0 < ((nM b).toNat : Int) * 2 ^ (nE b - base).toNat := Int.mul_pos (by omega) (by omega)
  have e1 : ¬ (sgd (nMin b) (((nM b).toNat : Int) * 2 ^ (nE b - base).toNat) = 0) := by
    unfold sgd; split <;> omega
  have e2 : decide (sgd (nMin b) (((nM b).toNat : Int) * 2 ^ (nE b - base).toNat) < 0) = nMin b := by
    generalize ((nM b).toNat : Int) * 2 ^ (nE b - base).toNat = X at *
    cases nMin b <;> simp only [sgd, if_true, if_false, Bool.false_eq_true] <;> simp <;> omega
  have e3 : (sgd (nMin b) (((nM b).toNat : Int) * 2 ^ (nE b - base).toNat)).natAbs = (nM b).toNat * 2 ^ (nE b - base).toNat := by
    have hc : (((nM b).toNat * 2 ^ (nE b - base).toNat : Nat) : Int) = ((nM b).toNat : Int) * 2 ^ (nE b - base).toNat := by rw [Int.natCast_mul, Int.natCast_pow]; rfl
    unfold sgd; split <;> omega
  rw [if_neg e1, e2, e3]
  show ((Ieee.single.nearest (nMin b) _ base : Nat) : Int) = _
  rw [nearest_eq, nearest_eq, single_fb, single_least]
  obtain ⟨c, hc⟩ : ∃ c : Nat, (c : Int) = base + 149 := ⟨(base + 149).toNat, by omega⟩
  obtain ⟨d, hd⟩ : ∃ d : Nat, (d : Int) = nE b + 149 := ⟨(nE b + 149).toNat, by omega⟩
  have r1 := rungOf_R ((nM b).toNat * 2 ^ (nE b - base).toNat) c
  have r2 := rungOf_R (nM b).toNat d
  rw [show -149 + (c : Int) = base by omega] at r1
  rw [show -149 + (d : Int) = nE b by omega] at r2
  rw [r1, r2, Nat.mul_assoc, ← Nat.pow_add, show (nE b - base).toNat + c = d by omega]

theorem sum_opp_nan (d e : Ieee.Datum) (h : d.isNaN = true) : e.sum d = none := by
  cases d <;> simp [Ieee.Datum.isNaN] at h
  cases e <;> rfl
theorem fsub_eq (a b : Int) (g0 : 0 ≤ b) (g1 : b < 4294967296) : fsub a b = fadd a (fneg b) := by
  cases hn : nan b
  · rw [fneg_num b g0 g1 hn]
    unfold fsub fadd Ieee.Format.sub Ieee.Format.add
    rw [Int.toNat_natCast, read_flip _ (by omega)]
  · rw [fneg_nan b g0 g1 hn]
    have h2 : 2139095040 < rg b.toNat := by rw [nan_rg b g0] at hn; simpa using hn
    unfold fsub fadd Ieee.Format.sub Ieee.Format.add
    rw [read_nan _ h2, show Ieee.single.read (2143289344 : Int).toNat = .nan false 4194304 from by decide, sum_opp_nan _ _ rfl, sum_opp_nan _ _ rfl]

end Go.Proofs.Ytnogokikiekcbab
