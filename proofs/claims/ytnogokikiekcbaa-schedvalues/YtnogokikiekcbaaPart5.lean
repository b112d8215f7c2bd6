import Derived.Test.YtnogokikiekcbaaPart4
import Derived.Shelf.Small.Bits
/- Add and Sub of the reference of layer 2. -/
namespace Go.Proofs.Ytnogokikiekcbaa
open Go.RowKit
set_option linter.unusedVariables false

theorem fadd_nan (a b : Int) (h0 : 0 ≤ a) (h1 : a < 4294967296) (g0 : 0 ≤ b) (g1 : b < 4294967296) (h : nNan a = true ∨ nNan b = true) : fadd a b = 2143289344 := by
  rcases h with h | h
  · obtain ⟨s, t, e⟩ := ref_nan a h0 h1 h
    rw [fadd_eq a b e rfl]; cases Ieee.single.read b.toNat <;> rfl
  · obtain ⟨s, t, e⟩ := ref_nan b g0 g1 h
    rw [fadd_eq a b rfl e]; cases Ieee.single.read a.toNat <;> rfl
theorem fadd_zero (a b : Int) (h0 : 0 ≤ a) (h1 : a < 4294967296) (g0 : 0 ≤ b) (g1 : b < 4294967296) {s : Bool} {i : Int} (ra : Ieee.single.read a.toNat = .number s 0 i) (rb : Ieee.single.read b.toNat = .number (nMin b) (nM b).toNat (nE b)) (hb : nM b ≠ 0) (hb0 : 0 ≤ nM b) (hi : -149 ≤ i) (hj : -149 ≤ nE b) :
    fadd a b = (Ieee.single.nearest (nMin b) (nM b).toNat (nE b) : Nat) := by
  rw [fadd_eq a b ra rb]
  simp only [Ieee.Datum.sum, Option.map_some, Ieee.Format.write]
  generalize hbase : min i (nE b) = base
  have hz : Ieee.signed s 0 (i - base).toNat = 0 := by unfold Ieee.signed; simp
  rw [hz, Int.zero_add, signed_eq]
  have hP : (1 : Int) ≤ 2 ^ (nE b - base).toNat := Int.pow_pos (by decide)
  have hX : 0 < ((nM b).toNat : Int) * 2 ^ (nE b - base).toNat := Int.mul_pos (by omega) (by omega)
  have e1 : ¬ (sgd (nMin b) (((nM b).toNat : Int) * 2 ^ (nE b - base).toNat) = 0) := by
    unfold sgd; split <;> omega
  have e2 : decide (sgd (nMin b) (((nM b).toNat : Int) * 2 ^ (nE b - base).toNat) < 0) = nMin b := by
    generalize ((nM b).toNat : Int) * 2 ^ (nE b - base).toNat = X at *
    cases nMin b <;> simp only [sgd, if_true, if_false, Bool.false_eq_true] <;> simp <;> omega
  have e3 : (sgd (nMin b) (((nM b).toNat : Int) * 2 ^ (nE b - base).toNat)).natAbs = (nM b).toNat * 2 ^ (nE b - base).toNat := by
    have hc : (((nM b).toNat * 2 ^ (nE b - base).toNat : Nat) : Int) = ((nM b).toNat : Int) * 2 ^ (nE b - base).toNat := by rw [Int.natCast_mul, Int.natCast_pow]; rfl
    unfold sgd; split <;> omega
  rw [if_neg e1, e2, e3]
  show ((Ieee.single.nearest (nMin b) _ base : Nat) : Int) = _
  rw [nearest_eq, nearest_eq, single_fb, single_least]
  obtain ⟨c, hc⟩ : ∃ c : Nat, (c : Int) = base + 149 := ⟨(base + 149).toNat, by omega⟩
  obtain ⟨d, hd⟩ : ∃ d : Nat, (d : Int) = nE b + 149 := ⟨(nE b + 149).toNat, by omega⟩
  have r1 := rungOf_R ((nM b).toNat * 2 ^ (nE b - base).toNat) c
  have r2 := rungOf_R (nM b).toNat d
  rw [show -149 + (c : Int) = base by omega] at r1
  rw [show -149 + (d : Int) = nE b by omega] at r2
  rw [r1, r2, Nat.mul_assoc, ← Nat.pow_add, show (nE b - base).toNat + c = d by omega]

set_option maxHeartbeats 2000000 in
theorem radd_any (a : Int) (h0 : 0 ≤ a) (h1 : a < 4294967296) (b : Int) (g0 : 0 ≤ b) (g1 : b < 4294967296) (w : World) :
    Calls Try.prog 25 #[.int .i64 a, .int .i64 b] w fun e w' => e = .returned (.int .i64 (fadd a b)) ∧ Below w.heap.size w w' := by
  cases hna : nNan a
  · cases hnb : nNan b
    · cases hia : nInf a
      · obtain ⟨ra, a1, a2, a3, a4, a5⟩ := ref_fin a h0 h1 hia hna
        cases hib : nInf b
        · obtain ⟨rb, b1, b2, b3, b4, b5⟩ := ref_fin b g0 g1 hib hnb
          by_cases za : nM a = 0
          · by_cases zb : nM b = 0
            · have hv : fadd a b = sgn (nMin a && nMin b) := by
                rw [fadd_eq a b ra rb, za, zb]
                simp only [Ieee.Datum.sum, Option.map_some, Ieee.Format.write]
                have : Ieee.signed (nMin a) (0 : Int).toNat (nE a - min (nE a) (nE b)).toNat + Ieee.signed (nMin b) (0 : Int).toNat (nE b - min (nE a) (nE b)).toNat = 0 := by unfold Ieee.signed; simp
                rw [this, if_pos rfl]; exact near_zero _ _
              rw [hv]; clear hv ra rb
              cases hma : nMin a
              · rw [Bool.false_and]
                go_enter Try.func25, Try.ntmps25
                go_wp2_with (first
                  | (go_at_call 44; refine (rof_any _ (by omega) (by omega) _).mono ?_; rintro e w' ⟨rfl, o, rfl⟩)
                  | (go_at_call 43; refine (rnan_any _ _ _ _ _ _ _ _ _ _ _).mono ?_; rintro e w' ⟨rfl, o, p, rfl⟩)
                  | (go_at_call 47; refine (rinf_any _ _).mono ?_; rintro e w' ⟨rfl, rfl⟩)
                  | (go_at_call 48; refine (rzero_any _ _).mono ?_; rintro e w' ⟨rfl, rfl⟩)
                  | (go_at_call 49; refine (rround_any _ _ (by omega) (by omega) _ (by omega) (by omega) _).mono ?_; rintro e w' ⟨rfl, rfl⟩)
                  | (go_at_call 50; refine (rsum_any _ _ _ _ _ _ _ _ _ _ (by omega) (by omega) (by omega) (by omega) (by omega) (by omega) (by omega) _).mono ?_; rintro e w' ⟨rfl, hbS⟩))
                go_ret
                exact ⟨rfl, by go_grown⟩
              · rw [Bool.true_and]
                go_enter Try.func25, Try.ntmps25
                go_wp2_with (first
                  | (go_at_call 44; refine (rof_any _ (by omega) (by omega) _).mono ?_; rintro e w' ⟨rfl, o, rfl⟩)
                  | (go_at_call 43; refine (rnan_any _ _ _ _ _ _ _ _ _ _ _).mono ?_; rintro e w' ⟨rfl, o, p, rfl⟩)
                  | (go_at_call 47; refine (rinf_any _ _).mono ?_; rintro e w' ⟨rfl, rfl⟩)
                  | (go_at_call 48; refine (rzero_any _ _).mono ?_; rintro e w' ⟨rfl, rfl⟩)
                  | (go_at_call 49; refine (rround_any _ _ (by omega) (by omega) _ (by omega) (by omega) _).mono ?_; rintro e w' ⟨rfl, rfl⟩)
                  | (go_at_call 50; refine (rsum_any _ _ _ _ _ _ _ _ _ _ (by omega) (by omega) (by omega) (by omega) (by omega) (by omega) (by omega) _).mono ?_; rintro e w' ⟨rfl, hbS⟩))
                go_ret
                exact ⟨rfl, by go_grown⟩
            · have hv := fadd_zero a b h0 h1 g0 g1 (s := nMin a) (i := nE a) (by rw [ra, za]; rfl) rb zb b1 a3 b3
              rw [hv]; clear hv ra rb
              go_enter Try.func25, Try.ntmps25
              go_wp2_with (first
                | (go_at_call 44; refine (rof_any _ (by omega) (by omega) _).mono ?_; rintro e w' ⟨rfl, o, rfl⟩)
                | (go_at_call 43; refine (rnan_any _ _ _ _ _ _ _ _ _ _ _).mono ?_; rintro e w' ⟨rfl, o, p, rfl⟩)
                | (go_at_call 47; refine (rinf_any _ _).mono ?_; rintro e w' ⟨rfl, rfl⟩)
                | (go_at_call 48; refine (rzero_any _ _).mono ?_; rintro e w' ⟨rfl, rfl⟩)
                | (go_at_call 49; refine (rround_any _ _ (by omega) (by omega) _ (by omega) (by omega) _).mono ?_; rintro e w' ⟨rfl, rfl⟩)
                | (go_at_call 50; refine (rsum_any _ _ _ _ _ _ _ _ _ _ (by omega) (by omega) (by omega) (by omega) (by omega) (by omega) (by omega) _).mono ?_; rintro e w' ⟨rfl, hbS⟩))
              go_ret
              exact ⟨rfl, by go_grown⟩
          · by_cases zb : nM b = 0
            · have hv := fadd_zero b a g0 g1 h0 h1 (s := nMin b) (i := nE b) (by rw [rb, zb]; rfl) ra za a1 b3 a3
              rw [fadd_comm, hv]; clear hv ra rb
              go_enter Try.func25, Try.ntmps25
              go_wp2_with (first
                | (go_at_call 44; refine (rof_any _ (by omega) (by omega) _).mono ?_; rintro e w' ⟨rfl, o, rfl⟩)
                | (go_at_call 43; refine (rnan_any _ _ _ _ _ _ _ _ _ _ _).mono ?_; rintro e w' ⟨rfl, o, p, rfl⟩)
                | (go_at_call 47; refine (rinf_any _ _).mono ?_; rintro e w' ⟨rfl, rfl⟩)
                | (go_at_call 48; refine (rzero_any _ _).mono ?_; rintro e w' ⟨rfl, rfl⟩)
                | (go_at_call 49; refine (rround_any _ _ (by omega) (by omega) _ (by omega) (by omega) _).mono ?_; rintro e w' ⟨rfl, rfl⟩)
                | (go_at_call 50; refine (rsum_any _ _ _ _ _ _ _ _ _ _ (by omega) (by omega) (by omega) (by omega) (by omega) (by omega) (by omega) _).mono ?_; rintro e w' ⟨rfl, hbS⟩))
              go_ret
              exact ⟨rfl, by go_grown⟩
            · by_cases hE : nE a < nE b
              · have hv : fadd a b = sumv (nMin b) (nM b) (nE b) (nMin a) (nM a) (nE a) := by
                  rw [fadd_comm, fadd_eq b a rb ra, sum_sumv _ _ _ _ _ _ (by omega) b2 (by omega) a2 a3 (by omega) b5]
                rw [hv]; clear hv ra rb
                go_enter Try.func25, Try.ntmps25
                go_wp2_with (first
                  | (go_at_call 44; refine (rof_any _ (by omega) (by omega) _).mono ?_; rintro e w' ⟨rfl, o, rfl⟩)
                  | (go_at_call 43; refine (rnan_any _ _ _ _ _ _ _ _ _ _ _).mono ?_; rintro e w' ⟨rfl, o, p, rfl⟩)
                  | (go_at_call 47; refine (rinf_any _ _).mono ?_; rintro e w' ⟨rfl, rfl⟩)
                  | (go_at_call 48; refine (rzero_any _ _).mono ?_; rintro e w' ⟨rfl, rfl⟩)
                  | (go_at_call 49; refine (rround_any _ _ (by omega) (by omega) _ (by omega) (by omega) _).mono ?_; rintro e w' ⟨rfl, rfl⟩)
                  | (go_at_call 50; refine (rsum_any _ _ _ _ _ _ _ _ _ _ (by omega) (by omega) (by omega) (by omega) (by omega) (by omega) (by omega) _).mono ?_; rintro e w' ⟨rfl, hbS⟩))
                go_ret
                exact ⟨rfl, bel (by go_grown) hbS⟩
              · have hv : fadd a b = sumv (nMin a) (nM a) (nE a) (nMin b) (nM b) (nE b) := by
                  rw [fadd_eq a b ra rb, sum_sumv _ _ _ _ _ _ (by omega) a2 (by omega) b2 b3 (by omega) a5]
                rw [hv]; clear hv ra rb
                go_enter Try.func25, Try.ntmps25
                go_wp2_with (first
                  | (go_at_call 44; refine (rof_any _ (by omega) (by omega) _).mono ?_; rintro e w' ⟨rfl, o, rfl⟩)
                  | (go_at_call 43; refine (rnan_any _ _ _ _ _ _ _ _ _ _ _).mono ?_; rintro e w' ⟨rfl, o, p, rfl⟩)
                  | (go_at_call 47; refine (rinf_any _ _).mono ?_; rintro e w' ⟨rfl, rfl⟩)
                  | (go_at_call 48; refine (rzero_any _ _).mono ?_; rintro e w' ⟨rfl, rfl⟩)
                  | (go_at_call 49; refine (rround_any _ _ (by omega) (by omega) _ (by omega) (by omega) _).mono ?_; rintro e w' ⟨rfl, rfl⟩)
                  | (go_at_call 50; refine (rsum_any _ _ _ _ _ _ _ _ _ _ (by omega) (by omega) (by omega) (by omega) (by omega) (by omega) (by omega) _).mono ?_; rintro e w' ⟨rfl, hbS⟩))
                go_ret
                exact ⟨rfl, bel (by go_grown) hbS⟩
        · obtain ⟨rb, -, b1⟩ := ref_inf b g0 g1 hib
          have hv : fadd a b = sgn (nMin b) + 2139095040 := by rw [fadd_eq a b ra rb, ← write_inf]; rfl
          rw [hv]; clear hv ra rb
          go_enter Try.func25, Try.ntmps25
          go_wp2_with (first
            | (go_at_call 44; refine (rof_any _ (by omega) (by omega) _).mono ?_; rintro e w' ⟨rfl, o, rfl⟩)
            | (go_at_call 43; refine (rnan_any _ _ _ _ _ _ _ _ _ _ _).mono ?_; rintro e w' ⟨rfl, o, p, rfl⟩)
            | (go_at_call 47; refine (rinf_any _ _).mono ?_; rintro e w' ⟨rfl, rfl⟩)
            | (go_at_call 48; refine (rzero_any _ _).mono ?_; rintro e w' ⟨rfl, rfl⟩)
            | (go_at_call 49; refine (rround_any _ _ (by omega) (by omega) _ (by omega) (by omega) _).mono ?_; rintro e w' ⟨rfl, rfl⟩)
            | (go_at_call 50; refine (rsum_any _ _ _ _ _ _ _ _ _ _ (by omega) (by omega) (by omega) (by omega) (by omega) (by omega) (by omega) _).mono ?_; rintro e w' ⟨rfl, hbS⟩))
          go_ret
          exact ⟨rfl, by go_grown⟩
      · obtain ⟨ra, -, a1⟩ := ref_inf a h0 h1 hia
        cases hib : nInf b
        · obtain ⟨rb, b1, b2, b3, b4, b5⟩ := ref_fin b g0 g1 hib hnb
          have hv : fadd a b = sgn (nMin a) + 2139095040 := by rw [fadd_eq a b ra rb, ← write_inf]; rfl
          rw [hv]; clear hv ra rb
          go_enter Try.func25, Try.ntmps25
          go_wp2_with (first
            | (go_at_call 44; refine (rof_any _ (by omega) (by omega) _).mono ?_; rintro e w' ⟨rfl, o, rfl⟩)
            | (go_at_call 43; refine (rnan_any _ _ _ _ _ _ _ _ _ _ _).mono ?_; rintro e w' ⟨rfl, o, p, rfl⟩)
            | (go_at_call 47; refine (rinf_any _ _).mono ?_; rintro e w' ⟨rfl, rfl⟩)
            | (go_at_call 48; refine (rzero_any _ _).mono ?_; rintro e w' ⟨rfl, rfl⟩)
            | (go_at_call 49; refine (rround_any _ _ (by omega) (by omega) _ (by omega) (by omega) _).mono ?_; rintro e w' ⟨rfl, rfl⟩)
            | (go_at_call 50; refine (rsum_any _ _ _ _ _ _ _ _ _ _ (by omega) (by omega) (by omega) (by omega) (by omega) (by omega) (by omega) _).mono ?_; rintro e w' ⟨rfl, hbS⟩))
          go_ret
          exact ⟨rfl, by go_grown⟩
        · obtain ⟨rb, -, b1⟩ := ref_inf b g0 g1 hib
          cases hma : nMin a <;> cases hmb : nMin b <;> rw [hma] at ra <;> rw [hmb] at rb
          · have hv : fadd a b = sgn false + 2139095040 := by rw [fadd_eq a b ra rb, ← write_inf]; rfl
            rw [hv]; clear hv ra rb
            go_enter Try.func25, Try.ntmps25
            go_wp2_with (first
              | (go_at_call 44; refine (rof_any _ (by omega) (by omega) _).mono ?_; rintro e w' ⟨rfl, o, rfl⟩)
              | (go_at_call 43; refine (rnan_any _ _ _ _ _ _ _ _ _ _ _).mono ?_; rintro e w' ⟨rfl, o, p, rfl⟩)
              | (go_at_call 47; refine (rinf_any _ _).mono ?_; rintro e w' ⟨rfl, rfl⟩)
              | (go_at_call 48; refine (rzero_any _ _).mono ?_; rintro e w' ⟨rfl, rfl⟩)
              | (go_at_call 49; refine (rround_any _ _ (by omega) (by omega) _ (by omega) (by omega) _).mono ?_; rintro e w' ⟨rfl, rfl⟩)
              | (go_at_call 50; refine (rsum_any _ _ _ _ _ _ _ _ _ _ (by omega) (by omega) (by omega) (by omega) (by omega) (by omega) (by omega) _).mono ?_; rintro e w' ⟨rfl, hbS⟩))
            go_ret
            exact ⟨rfl, by go_grown⟩
          · have hv : fadd a b = 2143289344 := by rw [fadd_eq a b ra rb]; rfl
            rw [hv]; clear hv ra rb
            go_enter Try.func25, Try.ntmps25
            go_wp2_with (first
              | (go_at_call 44; refine (rof_any _ (by omega) (by omega) _).mono ?_; rintro e w' ⟨rfl, o, rfl⟩)
              | (go_at_call 43; refine (rnan_any _ _ _ _ _ _ _ _ _ _ _).mono ?_; rintro e w' ⟨rfl, o, p, rfl⟩)
              | (go_at_call 47; refine (rinf_any _ _).mono ?_; rintro e w' ⟨rfl, rfl⟩)
              | (go_at_call 48; refine (rzero_any _ _).mono ?_; rintro e w' ⟨rfl, rfl⟩)
              | (go_at_call 49; refine (rround_any _ _ (by omega) (by omega) _ (by omega) (by omega) _).mono ?_; rintro e w' ⟨rfl, rfl⟩)
              | (go_at_call 50; refine (rsum_any _ _ _ _ _ _ _ _ _ _ (by omega) (by omega) (by omega) (by omega) (by omega) (by omega) (by omega) _).mono ?_; rintro e w' ⟨rfl, hbS⟩))
            go_ret
            exact ⟨rfl, by go_grown⟩
          · have hv : fadd a b = 2143289344 := by rw [fadd_eq a b ra rb]; rfl
            rw [hv]; clear hv ra rb
            go_enter Try.func25, Try.ntmps25
            go_wp2_with (first
              | (go_at_call 44; refine (rof_any _ (by omega) (by omega) _).mono ?_; rintro e w' ⟨rfl, o, rfl⟩)
              | (go_at_call 43; refine (rnan_any _ _ _ _ _ _ _ _ _ _ _).mono ?_; rintro e w' ⟨rfl, o, p, rfl⟩)
              | (go_at_call 47; refine (rinf_any _ _).mono ?_; rintro e w' ⟨rfl, rfl⟩)
              | (go_at_call 48; refine (rzero_any _ _).mono ?_; rintro e w' ⟨rfl, rfl⟩)
              | (go_at_call 49; refine (rround_any _ _ (by omega) (by omega) _ (by omega) (by omega) _).mono ?_; rintro e w' ⟨rfl, rfl⟩)
              | (go_at_call 50; refine (rsum_any _ _ _ _ _ _ _ _ _ _ (by omega) (by omega) (by omega) (by omega) (by omega) (by omega) (by omega) _).mono ?_; rintro e w' ⟨rfl, hbS⟩))
            go_ret
            exact ⟨rfl, by go_grown⟩
          · have hv : fadd a b = sgn true + 2139095040 := by rw [fadd_eq a b ra rb, ← write_inf]; rfl
            rw [hv]; clear hv ra rb
            go_enter Try.func25, Try.ntmps25
            go_wp2_with (first
              | (go_at_call 44; refine (rof_any _ (by omega) (by omega) _).mono ?_; rintro e w' ⟨rfl, o, rfl⟩)
              | (go_at_call 43; refine (rnan_any _ _ _ _ _ _ _ _ _ _ _).mono ?_; rintro e w' ⟨rfl, o, p, rfl⟩)
              | (go_at_call 47; refine (rinf_any _ _).mono ?_; rintro e w' ⟨rfl, rfl⟩)
              | (go_at_call 48; refine (rzero_any _ _).mono ?_; rintro e w' ⟨rfl, rfl⟩)
              | (go_at_call 49; refine (rround_any _ _ (by omega) (by omega) _ (by omega) (by omega) _).mono ?_; rintro e w' ⟨rfl, rfl⟩)
              | (go_at_call 50; refine (rsum_any _ _ _ _ _ _ _ _ _ _ (by omega) (by omega) (by omega) (by omega) (by omega) (by omega) (by omega) _).mono ?_; rintro e w' ⟨rfl, hbS⟩))
            go_ret
            exact ⟨rfl, by go_grown⟩
    · have hv := fadd_nan a b h0 h1 g0 g1 (Or.inr hnb)
      rw [hv]; clear hv
      go_enter Try.func25, Try.ntmps25
      go_wp2_with (first
        | (go_at_call 44; refine (rof_any _ (by omega) (by omega) _).mono ?_; rintro e w' ⟨rfl, o, rfl⟩)
        | (go_at_call 43; refine (rnan_any _ _ _ _ _ _ _ _ _ _ _).mono ?_; rintro e w' ⟨rfl, o, p, rfl⟩)
        | (go_at_call 47; refine (rinf_any _ _).mono ?_; rintro e w' ⟨rfl, rfl⟩)
        | (go_at_call 48; refine (rzero_any _ _).mono ?_; rintro e w' ⟨rfl, rfl⟩)
        | (go_at_call 49; refine (rround_any _ _ (by omega) (by omega) _ (by omega) (by omega) _).mono ?_; rintro e w' ⟨rfl, rfl⟩)
        | (go_at_call 50; refine (rsum_any _ _ _ _ _ _ _ _ _ _ (by omega) (by omega) (by omega) (by omega) (by omega) (by omega) (by omega) _).mono ?_; rintro e w' ⟨rfl, hbS⟩))
      go_ret
      exact ⟨rfl, by go_grown⟩
  · have hv := fadd_nan a b h0 h1 g0 g1 (Or.inl hna)
    rw [hv]; clear hv
    go_enter Try.func25, Try.ntmps25
    go_wp2_with (first
      | (go_at_call 44; refine (rof_any _ (by omega) (by omega) _).mono ?_; rintro e w' ⟨rfl, o, rfl⟩)
      | (go_at_call 43; refine (rnan_any _ _ _ _ _ _ _ _ _ _ _).mono ?_; rintro e w' ⟨rfl, o, p, rfl⟩)
      | (go_at_call 47; refine (rinf_any _ _).mono ?_; rintro e w' ⟨rfl, rfl⟩)
      | (go_at_call 48; refine (rzero_any _ _).mono ?_; rintro e w' ⟨rfl, rfl⟩)
      | (go_at_call 49; refine (rround_any _ _ (by omega) (by omega) _ (by omega) (by omega) _).mono ?_; rintro e w' ⟨rfl, rfl⟩)
      | (go_at_call 50; refine (rsum_any _ _ _ _ _ _ _ _ _ _ (by omega) (by omega) (by omega) (by omega) (by omega) (by omega) (by omega) _).mono ?_; rintro e w' ⟨rfl, hbS⟩))
    go_ret
    exact ⟨rfl, by go_grown⟩

theorem sum_opp_nan (d e : Ieee.Datum) (h : d.isNaN = true) : e.sum d = none := by
  cases d <;> simp [Ieee.Datum.isNaN] at h
  cases e <;> rfl
theorem fsub_eq (a b : Int) (g0 : 0 ≤ b) (g1 : b < 4294967296) : fsub a b = fadd a (fneg b) := by
  cases hn : nan b
  · rw [fneg_num b g0 g1 hn]
    unfold fsub fadd Ieee.Format.sub Ieee.Format.add
    rw [Int.toNat_natCast, read_flip _ (by omega)]
  · rw [fneg_nan b g0 g1 hn]
    have h2 : 2139095040 < rg b.toNat := by rw [nan_rg b g0] at hn; simpa using hn
    unfold fsub fadd Ieee.Format.sub Ieee.Format.add
    rw [read_nan _ h2, show Ieee.single.read (2143289344 : Int).toNat = .nan false 4194304 from by decide, sum_opp_nan _ _ rfl, sum_opp_nan _ _ rfl]

set_option maxHeartbeats 400000 in
theorem rsub_any (a : Int) (h0 : 0 ≤ a) (h1 : a < 4294967296) (b : Int) (g0 : 0 ≤ b) (g1 : b < 4294967296) (w : World) :
    Calls Try.prog 21 #[.int .i64 a, .int .i64 b] w fun e w' => e = .returned (.int .i64 (fsub a b)) ∧ Below w.heap.size w w' := by
  rw [fsub_eq a b g0 g1]
  have hl := fneg_lo b g0 g1
  go_enter Try.func21, Try.ntmps21
  go_wp2_with (first
    | (go_at_call 22; refine (rneg_any _ g0 g1 _).mono ?_; rintro e w1 ⟨rfl, hb1⟩)
    | (go_at_call 25; refine (radd_any _ h0 h1 _ hl.1 hl.2 _).mono ?_; rintro e w2 ⟨rfl, hb2⟩))
  go_ret
  exact ⟨rfl, bel hb1 hb2⟩

end Go.Proofs.Ytnogokikiekcbaa
/- The walks of the statements FloatAdds and FloatMuls. -/
namespace Go.Proofs.Ytnogokikiekcbaa
open Go.RowKit
set_option linter.unusedVariables false

end Go.Proofs.Ytnogokikiekcbaa
/- The length in bits, off the library's shelf. -/
namespace Go.Proofs.Ytnogokikiekcbaa
open Go.RowKit Go.Shelf
set_option linter.unusedVariables false

def lenRen : Go.Shelf.Ren := ⟨fun | 125 => 87 | 128 => 92 | 129 => 93 | n => n, fun | 3 => 3 | 4 => 4 | 5 => 5 | 9 => 9 | 46 => 74 | 51 => 30 | 53 => 61 | n => n, fun n => n⟩

theorem len_lays : Lays.n125 Try.prog lenRen where
  mixed := by kernel_rfl
  f125 := Try.func87.trans (congrArg some (by kernel_rfl))
  f128 := Try.func92.trans (congrArg some (by kernel_rfl))
  f129 := Try.func93.trans (congrArg some (by kernel_rfl))
  t3 := Try.underlying3
  a3 := Try.isAgg3
  z3 := Try.sizeOf3
  v3 := Try.zeroValue3
  t4 := Try.underlying4
  a4 := Try.isAgg4
  z4 := Try.sizeOf4
  v4 := Try.zeroValue4
  t5 := Try.underlying5
  a5 := Try.isAgg5
  z5 := Try.sizeOf5
  v5 := Try.zeroValue5
  t9 := Try.underlying9
  a9 := Try.isAgg9
  z9 := Try.sizeOf9
  v9 := Try.zeroValue9
  t46 := Try.underlying74
  a46 := Try.isAgg74
  z46 := Try.sizeOf74
  v46 := Try.zeroValue74
  t51 := Try.underlying30
  a51 := Try.isAgg30
  z51 := Try.sizeOf30
  v51 := Try.zeroValue30
  t53 := Try.underlying61
  a53 := Try.isAgg61
  z53 := Try.sizeOf61
  v53 := Try.zeroValue61

theorem blen_aux : ∀ f x : Nat, x < 2 ^ f → Lib.bitLenAux f x = blen x
  | 0, x, h => by
    have : x = 0 := by simpa using h
    subst this; rfl
  | f + 1, x, h => by
    unfold Lib.bitLenAux
    by_cases c : x = 0
    · rw [if_pos c, c]; rfl
    · rw [if_neg c, blen_aux f (x / 2) (by rw [Nat.pow_succ] at h; omega), blen_step x c]; omega

theorem len_any (x : Int) (h0 : 0 ≤ x) (h1 : x ≤ 18446744073709551615) (w : World) :
    Calls Try.prog 87 #[.int .u64 x] w fun e w' => e = .returned (.int .i64 (blen x.toNat)) ∧ w' = w := by
  have h := Any.bits_Len len_lays x w h0 h1
  have e : Lib.bitLen x.toNat = blen x.toNat := by
    unfold Lib.bitLen
    exact blen_aux 64 _ (by have : (2 : Nat) ^ 64 = 18446744073709551616 := rfl; omega)
  rw [e] at h
  exact h

end Go.Proofs.Ytnogokikiekcbaa
/- The order of the reference of layer 2. -/
namespace Go.Proofs.Ytnogokikiekcbaa
open Go.RowKit
set_option linter.unusedVariables false

theorem key_cases (a : Int) (h0 : 0 ≤ a) (h1 : a < 4294967296) : (ng a.toNat = true ∧ key a = -1 - (rg a.toNat : Int) ∧ sv a.toNat = -(mv a.toNat : Int)) ∨ (ng a.toNat = false ∧ key a = (rg a.toNat : Int) ∧ sv a.toNat = (mv a.toNat : Int)) := by
  have hr := rg_toNat a h0
  rw [ng_le' a h0 h1]
  by_cases c : 2147483648 ≤ a
  · left
    refine ⟨by simpa using c, ?_, ?_⟩
    · unfold key; rw [if_pos c]; omega
    · unfold sv sg; rw [ng_le' a h0 h1, if_pos (by simpa using c)]
  · right
    refine ⟨by simpa using c, ?_, ?_⟩
    · unfold key; rw [if_neg c]; omega
    · unfold sv sg; rw [ng_le' a h0 h1, if_neg (by simpa using c)]
theorem mv_zero (x : Nat) : mv x = 0 ↔ rg x = 0 := by
  unfold mv
  constructor
  · intro h; rw [← V_zero 23] at h; exact V_inj 23 h
  · intro h; rw [h, V_zero]
theorem key_lt (a b : Int) (h0 : 0 ≤ a) (h1 : a < 4294967296) (g0 : 0 ≤ b) (g1 : b < 4294967296) : key a < key b ↔ (sv a.toNat < sv b.toNat ∨ (rg a.toNat = 0 ∧ rg b.toNat = 0 ∧ ng a.toNat = true ∧ ng b.toNat = false)) := by
  have ha := key_cases a h0 h1
  have hb := key_cases b g0 g1
  have m1 : mv a.toNat < mv b.toNat ↔ rg a.toNat < rg b.toNat := V_lt_iff 23 _ _
  have m2 : mv b.toNat < mv a.toNat ↔ rg b.toNat < rg a.toNat := V_lt_iff 23 _ _
  have z1 := mv_zero a.toNat
  have z2 := mv_zero b.toNat
  rcases ha with ⟨p, q, r⟩ | ⟨p, q, r⟩ <;> rcases hb with ⟨p', q', r'⟩ | ⟨p', q', r'⟩ <;> rw [p, q, r, p', q', r'] <;> simp only [Bool.false_eq_true, Bool.true_eq_false, and_false, or_false, and_true] <;> omega
theorem noughts (a b : Int) (h0 : 0 ≤ a) (h1 : a < 4294967296) (g0 : 0 ≤ b) (g1 : b < 4294967296) : sv a.toNat = sv b.toNat ↔ (a = b ∨ (a % 2147483648 = 0 ∧ b % 2147483648 = 0)) := by
  have hr := rg_toNat a h0
  have hs := rg_toNat b g0
  constructor
  · intro h
    obtain ⟨e, f⟩ := sv_inj h
    rcases f with f | f
    · exact Or.inl (pat_ext h0 h1 g0 g1 e f)
    · right; omega
  · rintro (h | ⟨h, k⟩)
    · rw [h]
    · have z1 := (mv_zero a.toNat).2 (by omega)
      have z2 := (mv_zero b.toNat).2 (by omega)
      unfold sv sg; rw [z1, z2]; simp
theorem fmin_key (a b : Int) (h0 : 0 ≤ a) (h1 : a < 4294967296) (g0 : 0 ≤ b) (g1 : b < 4294967296) (hn : nan a = false) (hm : nan b = false) : fmin a b = if key b < key a then b else a := by
  unfold fmin; rw [ord_eq a b h0 g0, if_neg (by simp [hn, hm])]
  have hk := key_lt b a g0 g1 h0 h1
  rcases Int.lt_trichotomy (sv a.toNat) (sv b.toNat) with c | c | c
  · have hne : ¬ (key b < key a) := by
      rw [hk]; rintro (k | ⟨k1, k2, k3, k4⟩)
      · omega
      · have := (noughts a b h0 h1 g0 g1).2 (Or.inr ⟨by have := rg_toNat a h0; omega, by have := rg_toNat b g0; omega⟩); omega
    rw [cmp_lt c]; simp only []; rw [if_neg hne]
  · rw [cmp_eq c]
    simp only []
    rcases (noughts a b h0 h1 g0 g1).1 c with e | ⟨e, f⟩
    · subst e; split <;> simp
    · unfold key; by_cases d1 : 2147483648 ≤ a <;> by_cases d2 : 2147483648 ≤ b <;> simp only [d1, d2, if_true, if_false]
      · rw [if_neg (by omega)]
      · rw [if_neg (by omega)]
      · rw [if_pos (by omega)]
      · rw [if_neg (by omega)]; omega
  · rw [cmp_gt c]; simp only []; rw [if_pos (hk.2 (Or.inl c))]
theorem fmax_key (a b : Int) (h0 : 0 ≤ a) (h1 : a < 4294967296) (g0 : 0 ≤ b) (g1 : b < 4294967296) (hn : nan a = false) (hm : nan b = false) : fmax a b = if key b > key a then b else a := by
  unfold fmax; rw [ord_eq a b h0 g0, if_neg (by simp [hn, hm])]
  have hk := key_lt a b h0 h1 g0 g1
  rcases Int.lt_trichotomy (sv a.toNat) (sv b.toNat) with c | c | c
  · rw [cmp_lt c]; simp only []; rw [if_pos (show key b > key a from hk.2 (Or.inl c))]
  · rw [cmp_eq c]
    simp only []
    rcases (noughts a b h0 h1 g0 g1).1 c with e | ⟨e, f⟩
    · subst e; split <;> simp
    · unfold key; by_cases d1 : 2147483648 ≤ a <;> by_cases d2 : 2147483648 ≤ b <;> simp only [d1, d2, if_true, if_false]
      · rw [if_neg (by omega)]; omega
      · rw [if_pos (by omega)]
      · rw [if_neg (by omega)]
      · rw [if_neg (by omega)]
  · have hne : ¬ (key b > key a) := by
      show ¬ (key a < key b)
      rw [hk]; rintro (k | ⟨k1, k2, k3, k4⟩)
      · omega
      · have := (noughts a b h0 h1 g0 g1).2 (Or.inr ⟨by have := rg_toNat a h0; omega, by have := rg_toNat b g0; omega⟩); omega
    rw [cmp_gt c]; simp only []; rw [if_neg hne]
theorem fless_key (a b : Int) (h0 : 0 ≤ a) (h1 : a < 4294967296) (g0 : 0 ≤ b) (g1 : b < 4294967296) (hn : nan a = false) (hm : nan b = false) : fless a b = (decide (key a < key b) && !((a % 2147483648 == 0) && (b % 2147483648 == 0))) := by
  have h := fless_iff a b h0 g0
  have hk := key_lt a b h0 h1 g0 g1
  have hr := rg_toNat a h0
  have hs := rg_toNat b g0
  have hz := noughts a b h0 h1 g0 g1
  simp only [hn, hm, true_and] at h
  rw [Bool.eq_iff_iff, h]
  simp only [Bool.and_eq_true, decide_eq_true_eq, Bool.not_eq_true', Bool.and_eq_false_iff, beq_eq_false_iff_ne]
  constructor
  · intro c
    refine ⟨hk.2 (Or.inl c), ?_⟩
    by_cases e : a % 2147483648 = 0
    · right; intro f; have := hz.2 (Or.inr ⟨e, f⟩); omega
    · exact Or.inl e
  · rintro ⟨c, d⟩
    rcases hk.1 c with e | ⟨e1, e2, -, -⟩
    · exact e
    · exfalso; rcases d with d | d <;> omega
theorem fless_nan (a b : Int) (h0 : 0 ≤ a) (g0 : 0 ≤ b) (h : nan a = true ∨ nan b = true) : fless a b = false ∧ feq a b = false ∧ fmin a b = 2143289344 ∧ fmax a b = 2143289344 := by
  unfold fless feq fmin fmax; rw [ord_eq a b h0 g0, if_pos h]; exact ⟨rfl, rfl, rfl, rfl⟩

set_option maxHeartbeats 400000 in
theorem rkey2_any (a : Int) (h0 : 0 ≤ a) (h1 : a < 4294967296) (w : World) :
    Calls Try.prog 46 #[.int .i64 a] w fun e w' => e = .returned (.int .i64 (key a)) ∧ w' = w := by
  have hx := andNot64_sign a h0 h1
  unfold key
  by_cases c : 2147483648 ≤ a
  · have h2 : a / 2147483648 = 1 := by omega
    rw [if_pos c]
    go_enter Try.func46, Try.ntmps46
    go_wp2
    go_ret
    exact ⟨ret_int (by omega), rfl⟩
  · have h2 : a / 2147483648 = 0 := by omega
    rw [if_neg c]
    go_enter Try.func46, Try.ntmps46
    go_wp2
    go_ret
    exact ⟨ret_int (by omega), rfl⟩

set_option maxHeartbeats 400000 in
theorem rnought_any (a : Int) (h0 : 0 ≤ a) (h1 : a < 4294967296) (w : World) :
    Calls Try.prog 45 #[.int .i64 a] w fun e w' => e = .returned (.bool (a % 2147483648 == 0)) ∧ w' = w := by
  have hx := andNot64_sign a h0 h1
  go_enter Try.func45, Try.ntmps45
  go_wp2
  go_ret
  exact ⟨rfl, rfl⟩

set_option maxHeartbeats 400000 in
theorem rcanon2_any (a : Int) (h0 : 0 ≤ a) (h1 : a < 4294967296) (w : World) :
    Calls Try.prog 42 #[.int .i64 a] w fun e w' => e = .returned (.int .i64 (canon a)) ∧ Below w.heap.size w w' := by
  have hf := field_nan
  unfold canon
  rw [← nNan_iff a h0 h1]
  cases hna : nNan a
  · rw [if_neg (by decide)]
    go_enter Try.func42, Try.ntmps42
    go_wp2_with (go_at_call 44; refine (rof_any _ (by omega) (by omega) _).mono ?_; rintro e w' ⟨rfl, o, rfl⟩)
    go_ret
    exact ⟨rfl, by go_grown⟩
  · rw [if_pos rfl]
    go_enter Try.func42, Try.ntmps42
    go_wp2_with (go_at_call 44; refine (rof_any _ (by omega) (by omega) _).mono ?_; rintro e w' ⟨rfl, o, rfl⟩)
    go_ret
    exact ⟨rfl, by go_grown⟩

theorem ffin_ref (a : Int) (h0 : 0 ≤ a) (h1 : a < 4294967296) : ffin a = (!nNan a && !nInf a) := by
  unfold ffin nNan nInf
  by_cases c : a / 8388608 % 256 = 255
  · have : ¬ (a % 2147483648 < 2139095040) := by omega
    by_cases d : a % 8388608 = 0 <;> simp [c, d, this]
  · have : a % 2147483648 < 2139095040 := by omega
    simp [c, this]

set_option maxHeartbeats 400000 in
theorem rfinite_any (a : Int) (h0 : 0 ≤ a) (h1 : a < 4294967296) (w : World) :
    Calls Try.prog 23 #[.int .i64 a] w fun e w' => e = .returned (.bool (ffin a)) ∧ Below w.heap.size w w' := by
  rw [ffin_ref a h0 h1]
  cases hna : nNan a <;> cases hia : nInf a
  all_goals (
    go_enter Try.func23, Try.ntmps23
    go_wp2_with (go_at_call 44; refine (rof_any _ (by omega) (by omega) _).mono ?_; rintro e w' ⟨rfl, o, rfl⟩)
    go_ret
    exact ⟨rfl, by go_grown⟩)

set_option maxHeartbeats 1000000 in
theorem rmin_any (a : Int) (h0 : 0 ≤ a) (h1 : a < 4294967296) (b : Int) (g0 : 0 ≤ b) (g1 : b < 4294967296) (w : World) :
    Calls Try.prog 40 #[.int .i64 a, .int .i64 b] w fun e w' => e = .returned (.int .i64 (fmin a b)) ∧ Below w.heap.size w w' := by
  have ea := nNan_iff a h0 h1
  have eb := nNan_iff b g0 g1
  cases hna : nNan a
  · cases hnb : nNan b
    · rw [fmin_key a b h0 h1 g0 g1 (by rw [← ea, hna]) (by rw [← eb, hnb])]
      clear ea eb
      by_cases c : key b < key a
      · rw [if_pos c]
        go_enter Try.func40, Try.ntmps40
        go_wp2_with (first
          | (go_at_call 44; refine (rof_any _ (by omega) (by omega) _).mono ?_; rintro e w' ⟨rfl, o, rfl⟩)
          | (go_at_call 43; refine (rnan_any _ _ _ _ _ _ _ _ _ _ _).mono ?_; rintro e w' ⟨rfl, o, p, rfl⟩)
          | (go_at_call 46; refine (rkey2_any _ (by omega) (by omega) _).mono ?_; rintro e w' ⟨rfl, rfl⟩))
        go_ret
        exact ⟨rfl, by go_grown⟩
      · rw [if_neg c]
        go_enter Try.func40, Try.ntmps40
        go_wp2_with (first
          | (go_at_call 44; refine (rof_any _ (by omega) (by omega) _).mono ?_; rintro e w' ⟨rfl, o, rfl⟩)
          | (go_at_call 43; refine (rnan_any _ _ _ _ _ _ _ _ _ _ _).mono ?_; rintro e w' ⟨rfl, o, p, rfl⟩)
          | (go_at_call 46; refine (rkey2_any _ (by omega) (by omega) _).mono ?_; rintro e w' ⟨rfl, rfl⟩))
        go_ret
        exact ⟨rfl, by go_grown⟩
    · rw [(fless_nan a b h0 g0 (Or.inr (by rw [← eb, hnb]))).2.2.1]
      clear ea eb
      go_enter Try.func40, Try.ntmps40
      go_wp2_with (first
        | (go_at_call 44; refine (rof_any _ (by omega) (by omega) _).mono ?_; rintro e w' ⟨rfl, o, rfl⟩)
        | (go_at_call 43; refine (rnan_any _ _ _ _ _ _ _ _ _ _ _).mono ?_; rintro e w' ⟨rfl, o, p, rfl⟩)
        | (go_at_call 46; refine (rkey2_any _ (by omega) (by omega) _).mono ?_; rintro e w' ⟨rfl, rfl⟩))
      go_ret
      exact ⟨rfl, by go_grown⟩
  · rw [(fless_nan a b h0 g0 (Or.inl (by rw [← ea, hna]))).2.2.1]
    clear ea eb
    go_enter Try.func40, Try.ntmps40
    go_wp2_with (first
      | (go_at_call 44; refine (rof_any _ (by omega) (by omega) _).mono ?_; rintro e w' ⟨rfl, o, rfl⟩)
      | (go_at_call 43; refine (rnan_any _ _ _ _ _ _ _ _ _ _ _).mono ?_; rintro e w' ⟨rfl, o, p, rfl⟩)
      | (go_at_call 46; refine (rkey2_any _ (by omega) (by omega) _).mono ?_; rintro e w' ⟨rfl, rfl⟩))
    go_ret
    exact ⟨rfl, by go_grown⟩

set_option maxHeartbeats 1000000 in
theorem rmax_any (a : Int) (h0 : 0 ≤ a) (h1 : a < 4294967296) (b : Int) (g0 : 0 ≤ b) (g1 : b < 4294967296) (w : World) :
    Calls Try.prog 41 #[.int .i64 a, .int .i64 b] w fun e w' => e = .returned (.int .i64 (fmax a b)) ∧ Below w.heap.size w w' := by
  have ea := nNan_iff a h0 h1
  have eb := nNan_iff b g0 g1
  cases hna : nNan a
  · cases hnb : nNan b
    · rw [fmax_key a b h0 h1 g0 g1 (by rw [← ea, hna]) (by rw [← eb, hnb])]
      clear ea eb
      by_cases c : key b > key a
      · rw [if_pos c]
        go_enter Try.func41, Try.ntmps41
        go_wp2_with (first
          | (go_at_call 44; refine (rof_any _ (by omega) (by omega) _).mono ?_; rintro e w' ⟨rfl, o, rfl⟩)
          | (go_at_call 43; refine (rnan_any _ _ _ _ _ _ _ _ _ _ _).mono ?_; rintro e w' ⟨rfl, o, p, rfl⟩)
          | (go_at_call 46; refine (rkey2_any _ (by omega) (by omega) _).mono ?_; rintro e w' ⟨rfl, rfl⟩))
        go_ret
        exact ⟨rfl, by go_grown⟩
      · rw [if_neg c]
        go_enter Try.func41, Try.ntmps41
        go_wp2_with (first
          | (go_at_call 44; refine (rof_any _ (by omega) (by omega) _).mono ?_; rintro e w' ⟨rfl, o, rfl⟩)
          | (go_at_call 43; refine (rnan_any _ _ _ _ _ _ _ _ _ _ _).mono ?_; rintro e w' ⟨rfl, o, p, rfl⟩)
          | (go_at_call 46; refine (rkey2_any _ (by omega) (by omega) _).mono ?_; rintro e w' ⟨rfl, rfl⟩))
        go_ret
        exact ⟨rfl, by go_grown⟩
    · rw [(fless_nan a b h0 g0 (Or.inr (by rw [← eb, hnb]))).2.2.2]
      clear ea eb
      go_enter Try.func41, Try.ntmps41
      go_wp2_with (first
        | (go_at_call 44; refine (rof_any _ (by omega) (by omega) _).mono ?_; rintro e w' ⟨rfl, o, rfl⟩)
        | (go_at_call 43; refine (rnan_any _ _ _ _ _ _ _ _ _ _ _).mono ?_; rintro e w' ⟨rfl, o, p, rfl⟩)
        | (go_at_call 46; refine (rkey2_any _ (by omega) (by omega) _).mono ?_; rintro e w' ⟨rfl, rfl⟩))
      go_ret
      exact ⟨rfl, by go_grown⟩
  · rw [(fless_nan a b h0 g0 (Or.inl (by rw [← ea, hna]))).2.2.2]
    clear ea eb
    go_enter Try.func41, Try.ntmps41
    go_wp2_with (first
      | (go_at_call 44; refine (rof_any _ (by omega) (by omega) _).mono ?_; rintro e w' ⟨rfl, o, rfl⟩)
      | (go_at_call 43; refine (rnan_any _ _ _ _ _ _ _ _ _ _ _).mono ?_; rintro e w' ⟨rfl, o, p, rfl⟩)
      | (go_at_call 46; refine (rkey2_any _ (by omega) (by omega) _).mono ?_; rintro e w' ⟨rfl, rfl⟩))
    go_ret
    exact ⟨rfl, by go_grown⟩

set_option maxHeartbeats 1000000 in
theorem rless_any (a : Int) (h0 : 0 ≤ a) (h1 : a < 4294967296) (b : Int) (g0 : 0 ≤ b) (g1 : b < 4294967296) (w : World) :
    Calls Try.prog 19 #[.int .i64 a, .int .i64 b] w fun e w' => e = .returned (.bool (fless a b)) ∧ Below w.heap.size w w' := by
  have ea := nNan_iff a h0 h1
  have eb := nNan_iff b g0 g1
  cases hna : nNan a
  · cases hnb : nNan b
    · rw [fless_key a b h0 h1 g0 g1 (by rw [← ea, hna]) (by rw [← eb, hnb])]
      clear ea eb
      cases za : (a % 2147483648 == 0) <;> cases zb : (b % 2147483648 == 0) <;> simp only [Bool.and_true, Bool.and_false, Bool.not_true, Bool.not_false]
      all_goals (
        go_enter Try.func19, Try.ntmps19
        go_wp2_with (first
          | (go_at_call 44; refine (rof_any _ (by omega) (by omega) _).mono ?_; rintro e w' ⟨rfl, o, rfl⟩)
          | (go_at_call 43; refine (rnan_any _ _ _ _ _ _ _ _ _ _ _).mono ?_; rintro e w' ⟨rfl, o, p, rfl⟩)
          | (go_at_call 46; refine (rkey2_any _ (by omega) (by omega) _).mono ?_; rintro e w' ⟨rfl, rfl⟩)
          | (go_at_call 45; refine (rnought_any _ (by omega) (by omega) _).mono ?_; rintro e w' ⟨rfl, rfl⟩))
        go_ret
        exact ⟨rfl, by go_grown⟩)
    · rw [(fless_nan a b h0 g0 (Or.inr (by rw [← eb, hnb]))).1]
      clear ea eb
      go_enter Try.func19, Try.ntmps19
      go_wp2_with (first
        | (go_at_call 44; refine (rof_any _ (by omega) (by omega) _).mono ?_; rintro e w' ⟨rfl, o, rfl⟩)
        | (go_at_call 43; refine (rnan_any _ _ _ _ _ _ _ _ _ _ _).mono ?_; rintro e w' ⟨rfl, o, p, rfl⟩)
        | (go_at_call 46; refine (rkey2_any _ (by omega) (by omega) _).mono ?_; rintro e w' ⟨rfl, rfl⟩)
        | (go_at_call 45; refine (rnought_any _ (by omega) (by omega) _).mono ?_; rintro e w' ⟨rfl, rfl⟩))
      go_ret
      exact ⟨rfl, by go_grown⟩
  · rw [(fless_nan a b h0 g0 (Or.inl (by rw [← ea, hna]))).1]
    clear ea eb
    go_enter Try.func19, Try.ntmps19
    go_wp2_with (first
      | (go_at_call 44; refine (rof_any _ (by omega) (by omega) _).mono ?_; rintro e w' ⟨rfl, o, rfl⟩)
      | (go_at_call 43; refine (rnan_any _ _ _ _ _ _ _ _ _ _ _).mono ?_; rintro e w' ⟨rfl, o, p, rfl⟩)
      | (go_at_call 46; refine (rkey2_any _ (by omega) (by omega) _).mono ?_; rintro e w' ⟨rfl, rfl⟩)
      | (go_at_call 45; refine (rnought_any _ (by omega) (by omega) _).mono ?_; rintro e w' ⟨rfl, rfl⟩))
    go_ret
    exact ⟨rfl, by go_grown⟩

end Go.Proofs.Ytnogokikiekcbaa
/- Powers. -/
namespace Go.Proofs.Ytnogokikiekcbaa
open Go.RowKit
set_option linter.unusedVariables false

def fpw (x n : Int) : Nat → Int → Int
  | 0, r => r
  | k + 1, r => fpw x n k (if n / 2 ^ k % 2 = 1 then fmul (fmul r r) x else fmul r r)
def fpow (x n : Int) : Int := if n < 1 then 1065353216 else fpw x n (blen n.toNat - 1) (canon x)
theorem fpw_lo (x n : Int) : ∀ (k : Nat) (r : Int), 0 ≤ r → r < 4294967296 → 0 ≤ fpw x n k r ∧ fpw x n k r < 4294967296
  | 0, r, h0, h1 => ⟨h0, h1⟩
  | k + 1, r, h0, h1 => by
    unfold fpw
    split
    · exact fpw_lo x n k _ (fmul_lo _ _).1 (fmul_lo _ _).2
    · exact fpw_lo x n k _ (fmul_lo _ _).1 (fmul_lo _ _).2
theorem fpow_lo (x n : Int) (h0 : 0 ≤ x) (h1 : x < 4294967296) : 0 ≤ fpow x n ∧ fpow x n < 4294967296 := by
  unfold fpow; split
  · decide
  · exact fpw_lo x n _ _ (canon_lo x h0 h1).1 (canon_lo x h0 h1).2
theorem and64_1 (n : Int) (h0 : 0 ≤ n) (h1 : n ≤ 9223372036854775807) (i : Nat) : bits .and .i64 (n / 2 ^ i) 1 = n / 2 ^ i % 2 := by
  have e : n / 2 ^ i = ((n.toNat / 2 ^ i : Nat) : Int) := by
    rw [Int.natCast_ediv, Int.natCast_pow, Int.toNat_of_nonneg h0]; rfl
  have hle : n.toNat / 2 ^ i ≤ n.toNat := Nat.div_le_self ..
  rw [e]
  generalize n.toNat / 2 ^ i = q at *
  have hx : q &&& 1 = q % 2 := Nat.and_one_is_mod q
  show IntKind.i64.wrap ((BitVec.ofInt 64 (q : Int) &&& BitVec.ofInt 64 ((1 : Nat) : Int)).toNat : Int) = _
  rw [BitVec.toNat_and, ofInt_u64 q (by omega), ofInt_u64 1 (by decide), hx, IntKind.wrap_i64]
  omega

set_option maxHeartbeats 1000000 in
theorem pow_any (x : Int) (h0 : 0 ≤ x) (h1 : x < 4294967296) (n : Int) (n0 : -9223372036854775808 ≤ n) (n1 : n ≤ 9223372036854775807) (w : World) :
    Calls Try.prog 73 #[.int .u32 x, .int .i64 n] w fun e w' => e = .returned (.int .u32 (fpow x n)) ∧ Below w.heap.size w w' := by
  unfold fpow
  by_cases c : n < 1
  · rw [if_pos c]
    go_enter Try.func73, Try.ntmps73
    go_wp2
    go_ret
    exact ⟨rfl, bel0 _⟩
  · rw [if_neg c]
    have hc := canon_lo x h0 h1
    have hc' : 0 ≤ canon x ∧ canon x < 4294967296 := hc
    clear hc
    have hB : 1 ≤ blen n.toNat ∧ blen n.toNat ≤ 63 := by
      unfold blen; rw [if_neg (by omega)]
      have : n.toNat.log2 < 63 := (Nat.log2_lt (by omega)).2 (by have : (2 : Nat) ^ 63 = 9223372036854775808 := rfl; omega)
      omega
    generalize hBB : blen n.toNat = B at *
    generalize hP : fpw x n (B - 1) (canon x) = P at *
    have HP : Hid (fpw x n (B - 1) (canon x) = P) := hP
    clear hP
    go_enter Try.func73, Try.ntmps73
    go_wp2_with (first
      | (go_at_call 68; refine (canon_any _ (by omega) (by omega) _).mono ?_; rintro e w' ⟨rfl, hw'⟩; obtain rfl := hw'.symm)
      | (go_at_call 87; refine (len_any _ (by omega) (by omega) _).mono ?_; rintro e w' ⟨rfl, hw'⟩; obtain rfl := hw'.symm))
    go_loopw [5, 6] (fun rv pv wr => Below w.heap.size w wr ∧ ∃ (j : Nat) (r : Int), j ≤ 62 ∧ rv = .int .u32 r ∧ pv = .int .i64 ((j : Int) - 1) ∧ 0 ≤ r ∧ r < 4294967296 ∧ fpw x n j r = P) (fun _ pv _ => (intOf pv + 1).toNat)
    case atStart => exact ⟨bel0 _, B - 1, canon x, by omega, rfl, by rw [show ((B - 1 : Nat) : Int) - 1 = (B : Int) - 2 by omega], hc'.1, hc'.2, HP.out⟩
    case round =>
      obtain ⟨hbel, j, r, hj, rfl, rfl, r0, r1, hr⟩ := hrel
      have HR : Hid (fpw x n j r = P) := hr
      clear hr
      rcases Nat.eq_zero_or_pos j with hz | hz
      · subst hz
        have hPr : r = P := HR.out
        subst hPr
        clear HR HP
        go_wp2
        go_ret
        exact ⟨rfl, hbel⟩
      · obtain ⟨i, rfl⟩ : ∃ i, j = i + 1 := ⟨j - 1, by omega⟩
        rw [show ((i + 1 : Nat) : Int) - 1 = (i : Int) by omega]
        have hbit := and64_1 n (by omega) n1 i
        have l1 := fmul_lo r r
        have l2 := fmul_lo (fmul r r) x
        by_cases cb : n / 2 ^ i % 2 = 1
        · go_wp2_with (go_at_call 59; refine (mul_any _ (by omega) (by omega) _ (by omega) (by omega) _).mono ?_; rintro e w2 ⟨rfl, hb2⟩)
          go_roundw
          case rel => exact ⟨by repeat (first | assumption | refine bel ?_ (by assumption)), i, _, by omega, rfl, rfl, l2.1, l2.2, by have := HR.out; rw [fpw, if_pos cb] at this; exact this⟩
          case measure => first | (simp [intOf]; done) | (simp [intOf]; omega)
        · go_wp2_with (go_at_call 59; refine (mul_any _ (by omega) (by omega) _ (by omega) (by omega) _).mono ?_; rintro e w2 ⟨rfl, hb2⟩)
          go_roundw
          case rel => exact ⟨by repeat (first | assumption | refine bel ?_ (by assumption)), i, _, by omega, rfl, rfl, l1.1, l1.2, by have := HR.out; rw [fpw, if_neg cb] at this; exact this⟩
          case measure => first | (simp [intOf]; done) | (simp [intOf]; omega)

set_option maxHeartbeats 1000000 in
theorem rpow_any (x : Int) (h0 : 0 ≤ x) (h1 : x < 4294967296) (n : Int) (n0 : -9223372036854775808 ≤ n) (n1 : n ≤ 9223372036854775807) (w : World) :
    Calls Try.prog 62 #[.int .i64 x, .int .i64 n] w fun e w' => e = .returned (.int .i64 (fpow x n)) ∧ Below w.heap.size w w' := by
  unfold fpow
  by_cases c : n < 1
  · rw [if_pos c]
    go_enter Try.func62, Try.ntmps62
    go_wp2
    go_ret
    exact ⟨rfl, bel0 _⟩
  · rw [if_neg c]
    have hc := canon_lo x h0 h1
    have hc' : 0 ≤ canon x ∧ canon x < 4294967296 := hc
    clear hc
    have hB : 1 ≤ blen n.toNat ∧ blen n.toNat ≤ 63 := by
      unfold blen; rw [if_neg (by omega)]
      have : n.toNat.log2 < 63 := (Nat.log2_lt (by omega)).2 (by have : (2 : Nat) ^ 63 = 9223372036854775808 := rfl; omega)
      omega
    generalize hBB : blen n.toNat = B at *
    generalize hP : fpw x n (B - 1) (canon x) = P at *
    have HP : Hid (fpw x n (B - 1) (canon x) = P) := hP
    clear hP
    go_enter Try.func62, Try.ntmps62
    go_wp2_with (first
      | (go_at_call 42; refine (rcanon2_any _ (by omega) (by omega) _).mono ?_; rintro e w1 ⟨rfl, hb1⟩)
      | (go_at_call 70; refine (rlength_any _ (by omega) (by omega) _).mono ?_; rintro e w' ⟨rfl, hw'⟩; obtain rfl := hw'.symm))
    go_loopw [5, 6] (fun rv pv wr => Below w.heap.size w wr ∧ ∃ (j : Nat) (r : Int), j ≤ 62 ∧ rv = .int .i64 r ∧ pv = .int .i64 ((j : Int) - 1) ∧ 0 ≤ r ∧ r < 4294967296 ∧ fpw x n j r = P) (fun _ pv _ => (intOf pv + 1).toNat)
    case atStart => exact ⟨hb1, B - 1, canon x, by omega, rfl, by rw [show ((B - 1 : Nat) : Int) - 1 = (B : Int) - 2 by omega], hc'.1, hc'.2, HP.out⟩
    case round =>
      obtain ⟨hbel, j, r, hj, rfl, rfl, r0, r1, hr⟩ := hrel
      have HR : Hid (fpw x n j r = P) := hr
      clear hr
      rcases Nat.eq_zero_or_pos j with hz | hz
      · subst hz
        have hPr : r = P := HR.out
        subst hPr
        clear HR HP
        go_wp2
        go_ret
        exact ⟨rfl, hbel⟩
      · obtain ⟨i, rfl⟩ : ∃ i, j = i + 1 := ⟨j - 1, by omega⟩
        rw [show ((i + 1 : Nat) : Int) - 1 = (i : Int) by omega]
        have hbit := and64_1 n (by omega) n1 i
        have l1 := fmul_lo r r
        have l2 := fmul_lo (fmul r r) x
        by_cases cb : n / 2 ^ i % 2 = 1
        · go_wp2_with (go_at_call 26; refine (rmul_any _ (by omega) (by omega) _ (by omega) (by omega) _).mono ?_; rintro e w2 ⟨rfl, hb2⟩)
          go_roundw
          case rel => exact ⟨by repeat (first | assumption | refine bel ?_ (by assumption)), i, _, by omega, rfl, rfl, l2.1, l2.2, by have := HR.out; rw [fpw, if_pos cb] at this; exact this⟩
          case measure => first | (simp [intOf]; done) | (simp [intOf]; omega)
        · go_wp2_with (go_at_call 26; refine (rmul_any _ (by omega) (by omega) _ (by omega) (by omega) _).mono ?_; rintro e w2 ⟨rfl, hb2⟩)
          go_roundw
          case rel => exact ⟨by repeat (first | assumption | refine bel ?_ (by assumption)), i, _, by omega, rfl, rfl, l1.1, l1.2, by have := HR.out; rw [fpw, if_neg cb] at this; exact this⟩
          case measure => first | (simp [intOf]; done) | (simp [intOf]; omega)

end Go.Proofs.Ytnogokikiekcbaa
/- Layer 14, plainly: schedules. No program in it. -/
namespace Go.Proofs.Ytnogokikiekcbaa
set_option linter.unusedVariables false
set_option linter.unusedSimpArgs false

/-- A schedule with those in it. -/
structure Sc where
  op : Int
  nums : List Int
  ints : List Int
  kids : List Sc

def scntL : List Sc → Nat
  | [] => 0
  | ⟨_, _, _, l⟩ :: r => 1 + scntL l + scntL r
def scnt (t : Sc) : Nat := 1 + scntL t.kids
theorem scntL_nil : scntL [] = 0 := by simp [scntL]
theorem scntL_cons (t : Sc) (r : List Sc) : scntL (t :: r) = scnt t + scntL r := by cases t; simp [scntL, scnt]

/-- Induction over rows of schedules. -/
theorem sforest {P : List Sc → Prop} (h0 : P []) (h1 : ∀ (t : Sc) (r : List Sc), P t.kids → P r → P (t :: r)) : ∀ l, P l := by
  intro l
  induction l using scntL.induct with
  | case1 => exact h0
  | case2 k n i l r hl hr => exact h1 ⟨k, n, i, l⟩ r hl hr
/-- Induction over schedules: what holds of all in one holds of it. -/
theorem stree {P : Sc → Prop} (h : ∀ t : Sc, (∀ k ∈ t.kids, P k) → P t) : ∀ t, P t := by
  have : ∀ l : List Sc, ∀ t ∈ l, P t := by
    apply sforest (P := fun l => ∀ t ∈ l, P t)
    · intro t ht; cases ht
    · intro t r h1 h2 u hu
      rcases List.mem_cons.1 hu with rfl | hu
      · exact h _ h1
      · exact h2 u hu
  intro t
  exact this [t] t (by simp)

/-- What each schedule keeps to: its patterns and whole numbers. -/
def sokL : List Sc → Prop
  | [] => True
  | ⟨op, n, i, l⟩ :: r => ((-9223372036854775808 ≤ op ∧ op ≤ 9223372036854775807) ∧ (∀ x ∈ n, 0 ≤ x ∧ x < 4294967296) ∧ (∀ x ∈ i, -9223372036854775808 ≤ x ∧ x ≤ 9223372036854775807) ∧ n.length ≤ 35184372087808 ∧ i.length ≤ 17592186043904 ∧ l.length ≤ 17592186043904) ∧ sokL l ∧ sokL r
def sok (t : Sc) : Prop := ((-9223372036854775808 ≤ t.op ∧ t.op ≤ 9223372036854775807) ∧ (∀ x ∈ t.nums, 0 ≤ x ∧ x < 4294967296) ∧ (∀ x ∈ t.ints, -9223372036854775808 ≤ x ∧ x ≤ 9223372036854775807) ∧ t.nums.length ≤ 35184372087808 ∧ t.ints.length ≤ 17592186043904 ∧ t.kids.length ≤ 17592186043904) ∧ sokL t.kids
theorem sokL_cons (t : Sc) (r : List Sc) : sokL (t :: r) ↔ sok t ∧ sokL r := by cases t; simp [sokL, sok, and_assoc]
theorem sokL_nil : sokL [] := by simp [sokL]
theorem sokL_iff (l : List Sc) : sokL l ↔ ∀ t ∈ l, sok t := by
  induction l with
  | nil => simp [sokL_nil]
  | cons t r ih => rw [sokL_cons, ih]; simp

def isPow (n : Int) : Bool := decide (1 ≤ n) && decide (n ≤ 1024)
def isStp (n : Int) : Bool := decide (1 ≤ n) && decide (n ≤ 2147483647)
def isCnt (n : Int) : Bool := decide (0 ≤ n) && decide (n ≤ 2147483647)
/-- Boundaries that rise, from above a number on. -/
def risesA (a : Int) : List Int → Bool
  | [] => true
  | n :: r => decide (a < n) && decide (n ≤ 2147483647) && risesA n r
def bnds (l : List Int) : Bool := risesA 0 l && !l.isEmpty
def hasN (s : Sc) (a b c : Nat) : Bool := s.nums.length == a && s.ints.length == b && s.kids.length == c && s.nums.all ffin
/-- A schedule's row. -/
def fitsP (s : Sc) : Bool :=
  if s.op = 1 then hasN s 1 0 0
  else if s.op = 2 then hasN s 2 3 0 && isPow (s.ints.getD 0 0) && isStp (s.ints.getD 1 0) && isCnt (s.ints.getD 2 0)
  else if s.op = 3 then hasN s 2 2 0 && fless 0 (s.nums.getD 1 0) && isStp (s.ints.getD 0 0) && isCnt (s.ints.getD 1 0)
  else if s.op = 4 then hasN s 2 1 0 && isStp (s.ints.getD 0 0)
  else if s.op = 5 then hasN s (s.ints.length + 1) s.ints.length 0 && bnds s.ints
  else if s.op = 6 then hasN s 0 s.ints.length (s.ints.length + 1) && bnds s.ints
  else if s.op = 7 then hasN s 1 1 0 && isStp (s.ints.getD 0 0)
  else if s.op = 8 ∨ s.op = 9 ∨ s.op = 10 ∨ s.op = 11 then hasN s 0 0 2
  else if s.op = 12 ∨ s.op = 13 then hasN s 0 1 1 && isCnt (s.ints.getD 0 0)
  else false

/-- So deep at most, so many at most: how many are left, or none where it may not be. -/
def mayL (d : Nat) (n : Nat) : List Sc → Option Nat
  | [] => some n
  | ⟨op, ns, is, l⟩ :: r =>
    match (if d = 0 ∨ n = 0 ∨ fitsP ⟨op, ns, is, l⟩ = false then none else mayL (d - 1) (n - 1) l) with
    | none => none
    | some m => mayL d m r
def may (d n : Nat) (t : Sc) : Option Nat := if d = 0 ∨ n = 0 ∨ fitsP t = false then none else mayL (d - 1) (n - 1) t.kids
theorem mayL_nil (d n : Nat) : mayL d n [] = some n := by simp [mayL]
theorem mayL_cons (d n : Nat) (t : Sc) (r : List Sc) : mayL d n (t :: r) = (may d n t).bind fun m => mayL d m r := by
  cases t
  rw [mayL]
  unfold may
  cases (if d = 0 ∨ n = 0 ∨ fitsP _ = false then none else mayL (d - 1) (n - 1) _) <;> rfl
theorem mayL_le : ∀ (l : List Sc) (d n m : Nat), mayL d n l = some m → m + scntL l = n := by
  apply sforest (P := fun l => ∀ (d n m : Nat), mayL d n l = some m → m + scntL l = n)
  · intro d n m h
    rw [mayL_nil] at h
    rw [scntL_nil]; simpa using h.symm
  · intro t r h1 h2 d n m h
    rw [mayL_cons] at h
    obtain ⟨k, hk, h⟩ := Option.bind_eq_some_iff.1 h
    unfold may at hk
    split at hk
    · cases hk
    · rename_i hc
      have e1 := h1 _ _ _ hk
      have e2 := h2 _ _ _ h
      rw [scntL_cons, scnt]
      omega
theorem may_le {d n m : Nat} {t : Sc} (h : may d n t = some m) : m + scnt t = n := by
  have := mayL_le [t] d n m (by rw [mayL_cons, h]; exact mayL_nil _ _)
  rw [scntL_cons, scntL_nil] at this
  omega
/-- All rows fit. -/
def allF : List Sc → Prop
  | [] => True
  | ⟨op, ns, is, l⟩ :: r => (fitsP ⟨op, ns, is, l⟩ = true ∧ allF l) ∧ allF r
def allT (t : Sc) : Prop := fitsP t = true ∧ allF t.kids
theorem allF_cons (t : Sc) (r : List Sc) : allF (t :: r) ↔ allT t ∧ allF r := by cases t; simp [allF, allT]
theorem allF_iff (l : List Sc) : allF l ↔ ∀ t ∈ l, allT t := by
  induction l with
  | nil => simp [allF]
  | cons t r ih => rw [allF_cons, ih]; simp
theorem mayL_all : ∀ (l : List Sc) (d n m : Nat), mayL d n l = some m → allF l := by
  apply sforest (P := fun l => ∀ (d n m : Nat), mayL d n l = some m → allF l)
  · intro d n m h; simp [allF]
  · intro t r h1 h2 d n m h
    rw [mayL_cons] at h
    obtain ⟨k, hk, h⟩ := Option.bind_eq_some_iff.1 h
    unfold may at hk
    split at hk
    · cases hk
    · rename_i hc
      rw [allF_cons]
      refine ⟨⟨?_, h1 _ _ _ hk⟩, h2 _ _ _ h⟩
      cases hf : fitsP t
      · exact absurd (Or.inr (Or.inr hf)) hc
      · rfl
theorem may_all {d n m : Nat} {t : Sc} (h : may d n t = some m) : allT t := by
  have := mayL_all [t] d n m (by rw [mayL_cons, h]; exact mayL_nil _ _)
  exact ((allF_cons _ _).1 this).1
/-- Wave: the polynomial, and the wave. -/
def facs : List Int := [3167971577, 1047591555, 3215649252, 1082253560, 3231574502, 1065353216]
def fac (k : Nat) : Int := facs.getD k 0
def qrN (u : Int) : Nat → Int
  | 0 => 989653445
  | k + 1 => fadd (fmul (qrN u k) u) (fac k)
def qrt (t : Int) : Int := qrN (fmul t t) 6
def clmp (x : Int) : Int := fmin (fmax x 0) 1065353216
def wave (x : Int) : Int := let y := clmp x
  if y = 1056964608 then 0 else if fless 1056964608 y = true then fneg (qrt (fsub 1065353216 y)) else qrt y

def rat (a b : Int) : Int := fdiv (ffrom a) (ffrom b)
def polyV (a b p s g n : Int) : Int := fadd (fmul (fsub a b) (fpow (fsub 1065353216 (rat (min (max (n - g) 0) s) s)) p)) b
def expoV (a r s g n : Int) : Int := fmul a (fpow r (max (n - g) 0 / s))
def cosV (a al s n : Int) : Int := fmul (fadd (fmul (fsub 1065353216 al) (fmul 1056964608 (fadd 1065353216 (wave (rat (min n s) s))))) al) a
def pieceV (n : Int) : Int → List Int → List Int → Int
  | v, b :: bs, s :: ss => if b ≤ n then pieceV n (fmul v s) bs ss else v
  | v, _, _ => v
def invV (a s n : Int) : Int := fmul a (fsqrt (rat s (max n s)))
/-- How many boundaries are at most n; and the last of them. -/
def kidOf (n : Int) : List Int → Nat
  | [] => 0
  | b :: bs => if b ≤ n then kidOf n bs + 1 else 0
def fromOf (l : List Int) (k : Nat) : Int := if k = 0 then 0 else l.getD (k - 1) 0

/-- A row's value, what those in it are being given. -/
def rowV (s : Sc) (K : List (Int → Int)) (n : Int) : Int :=
  if s.op = 1 then s.nums.getD 0 0
  else if s.op = 2 then polyV (s.nums.getD 0 0) (s.nums.getD 1 0) (s.ints.getD 0 0) (s.ints.getD 1 0) (s.ints.getD 2 0) n
  else if s.op = 3 then expoV (s.nums.getD 0 0) (s.nums.getD 1 0) (s.ints.getD 0 0) (s.ints.getD 1 0) n
  else if s.op = 4 then cosV (s.nums.getD 0 0) (s.nums.getD 1 0) (s.ints.getD 0 0) n
  else if s.op = 5 then pieceV n (s.nums.getD 0 0) s.ints s.nums.tail
  else if s.op = 6 then K.getD (kidOf n s.ints) id (n - fromOf s.ints (kidOf n s.ints))
  else if s.op = 7 then invV (s.nums.getD 0 0) (s.ints.getD 0 0) n
  else if s.op = 8 then fadd (K.getD 0 id n) (K.getD 1 id n)
  else if s.op = 9 then fmul (K.getD 0 id n) (K.getD 1 id n)
  else if s.op = 10 then fmin (K.getD 0 id n) (K.getD 1 id n)
  else if s.op = 11 then fmax (K.getD 0 id n) (K.getD 1 id n)
  else if s.op = 12 then K.getD 0 id (max (n - s.ints.getD 0 0) 0)
  else K.getD 0 id (min n (s.ints.getD 0 0))
def valsL : List Sc → List (Int → Int)
  | [] => []
  | ⟨op, ns, is, l⟩ :: r => rowV ⟨op, ns, is, l⟩ (valsL l) :: valsL r
def valT (t : Sc) : Int → Int := rowV t (valsL t.kids)
theorem valsL_map (l : List Sc) : valsL l = l.map valT := by
  induction l with
  | nil => simp [valsL]
  | cons t r ih => cases t; rw [valsL, ih]; rfl
theorem vals_at (t : Sc) {i : Nat} (h : i < t.kids.length) : (valsL t.kids).getD i id = valT t.kids[i] := by
  rw [valsL_map, List.getD_eq_getElem?_getD, List.getElem?_map, List.getElem?_eq_getElem h]
  rfl

/-- Patterns. -/
def Pat (a : Int) : Prop := 0 ≤ a ∧ a < 4294967296
theorem pat_add (a b : Int) : Pat (fadd a b) := fadd_lo a b
theorem pat_sub (a b : Int) : Pat (fsub a b) := fsub_lo a b
theorem pat_mul (a b : Int) : Pat (fmul a b) := fmul_lo a b
theorem pat_div (a b : Int) : Pat (fdiv a b) := fdiv_lo a b
theorem pat_sqrt (a : Int) : Pat (fsqrt a) := fsqrt_lo a
theorem pat_from (n : Int) : Pat (ffrom n) := ffrom_lo n
theorem pat_neg {a : Int} (h : Pat a) : Pat (fneg a) := fneg_lo a h.1 h.2
theorem pat_min {a b : Int} (h : Pat a) (k : Pat b) : Pat (fmin a b) := by unfold fmin; split <;> first | exact h | exact k | (unfold Pat; decide) | (split <;> assumption)
theorem pat_max {a b : Int} (h : Pat a) (k : Pat b) : Pat (fmax a b) := by unfold fmax; split <;> first | exact h | exact k | (unfold Pat; decide) | (split <;> assumption)
theorem pat_pow {x : Int} (n : Int) (h : Pat x) : Pat (fpow x n) := fpow_lo x n h.1 h.2
theorem pat_rat (a b : Int) : Pat (rat a b) := fdiv_lo _ _
theorem pat_qrN (u : Int) : ∀ k, Pat (qrN u k)
  | 0 => ⟨by show (0 : Int) ≤ 989653445; decide, by show (989653445 : Int) < 4294967296; decide⟩
  | k + 1 => fadd_lo _ _
theorem pat_qrt (t : Int) : Pat (qrt t) := pat_qrN _ _
theorem pat_c (n : Nat) (h : n < 4294967296) : Pat (n : Int) := ⟨by omega, by omega⟩
theorem pat_0 : Pat 0 := ⟨by decide, by decide⟩
theorem pat_1 : Pat 1065353216 := ⟨by decide, by decide⟩
theorem pat_h : Pat 1056964608 := ⟨by decide, by decide⟩
theorem pat_clmp {x : Int} (h : Pat x) : Pat (clmp x) := pat_min (pat_max h (pat_c 0 (by decide))) (pat_c 1065353216 (by decide))
theorem pat_wave {x : Int} (h : Pat x) : Pat (wave x) := by
  unfold wave
  simp only
  split
  · exact pat_c 0 (by decide)
  · split
    · exact pat_neg (pat_qrt _)
    · exact pat_qrt _
theorem pat_facs (k : Nat) : Pat (fac k) := by
  unfold fac
  match k with
  | 0 => unfold Pat facs; decide
  | 1 => unfold Pat facs; decide
  | 2 => unfold Pat facs; decide
  | 3 => unfold Pat facs; decide
  | 4 => unfold Pat facs; decide
  | 5 => unfold Pat facs; decide
  | k + 6 => unfold Pat facs; simp

theorem risesA_len : ∀ (l : List Int) (a : Int), risesA a l = true → a ≤ 2147483647 → (l.length : Int) ≤ 2147483647 - a
  | [], a, _, h => by simp; omega
  | n :: r, a, k, h => by
    simp only [risesA, Bool.and_eq_true, decide_eq_true_eq] at k
    have := risesA_len r n k.2 k.1.2
    simp only [List.length_cons]
    omega
theorem risesA_get : ∀ (l : List Int) (a : Int), risesA a l = true → ∀ i (h : i < l.length), a < l[i] ∧ l[i] ≤ 2147483647
  | [], a, _, i, h => absurd h (Nat.not_lt_zero _)
  | n :: r, a, k, i, h => by
    simp only [risesA, Bool.and_eq_true, decide_eq_true_eq] at k
    cases i with
    | zero => exact ⟨k.1.1, k.1.2⟩
    | succ i =>
      have := risesA_get r n k.2 i (by simpa using h)
      simp only [List.getElem_cons_succ]
      omega

end Go.Proofs.Ytnogokikiekcbaa
