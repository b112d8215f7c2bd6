import Derived.Test.YtnogokikiekcbaaRefAdd2
/- Add and Sub of the reference of layer 2. -/
namespace Go.Proofs.Ytnogokikiekcbaa
open Go.RowKit
set_option linter.unusedVariables false

theorem fadd_nan (a b : Int) (h0 : 0 ≤ a) (h1 : a < 4294967296) (g0 : 0 ≤ b) (g1 : b < 4294967296) (h : nNan a = true ∨ nNan b = true) : fadd a b = 2143289344 := by
  rcases h with h | h
  · obtain ⟨s, t, e⟩ := ref_nan a h0 h1 h
    rw [fadd_eq a b e rfl]; cases Ieee.single.read b.toNat <;> rfl
  · obtain ⟨s, t, e⟩ := ref_nan b g0 g1 h
    rw [fadd_eq a b rfl e]; cases Ieee.single.read a.toNat <;> rfl
theorem fadd_zero (a b : Int) (h0 : 0 ≤ a) (h1 : a < 4294967296) (g0 : 0 ≤ b) (g1 : b < 4294967296) {s : Bool} {i : Int} (ra : Ieee.single.read a.toNat = .number s 0 i) (rb : Ieee.single.read b.toNat = .number (nMin b) (nM b).toNat (nE b)) (hb : nM b ≠ 0) (hb0 : 0 ≤ nM b) (hi : -149 ≤ i) (hj : -149 ≤ nE b) :
    fadd a b = (Ieee.single.nearest (nMin b) (nM b).toNat (nE b) : Nat) := by
  rw [fadd_eq a b ra rb]
  simp only [Ieee.Datum.sum, Option.map_some, Ieee.Format.write]
  generalize hbase : min i (nE b) = base
  have hz : Ieee.signed s 0 (i - base).toNat = 0 := by unfold Ieee.signed; simp
  rw [hz, Int.zero_add, signed_eq]
  have hP : (1 : Int) ≤ 2 ^ (nE b - base).toNat := Int.pow_pos (by decide)
  have hX : 0 < ((nM b).toNat : Int) * 2 ^ (nE b - base).toNat := Int.mul_pos (by omega) (by omega)
  have e1 : ¬ (sgd (nMin b) (((nM b).toNat : Int) * 2 ^ (nE b - base).toNat) = 0) := by
    unfold sgd; split <;> omega
  have e2 : decide (sgd (nMin b) (((nM b).toNat : Int) * 2 ^ (nE b - base).toNat) < 0) = nMin b := by
    generalize ((nM b).toNat : Int) * 2 ^ (nE b - base).toNat = X at *
    cases nMin b <;> simp only [sgd, if_true, if_false, Bool.false_eq_true] <;> simp <;> omega
  have e3 : (sgd (nMin b) (((nM b).toNat : Int) * 2 ^ (nE b - base).toNat)).natAbs = (nM b).toNat * 2 ^ (nE b - base).toNat := by
    have hc : (((nM b).toNat * 2 ^ (nE b - base).toNat : Nat) : Int) = ((nM b).toNat : Int) * 2 ^ (nE b - base).toNat := by rw [Int.natCast_mul, Int.natCast_pow]; rfl
    unfold sgd; split <;> omega
  rw [if_neg e1, e2, e3]
  show ((Ieee.single.nearest (nMin b) _ base : Nat) : Int) = _
  rw [nearest_eq, nearest_eq, single_fb, single_least]
  obtain ⟨c, hc⟩ : ∃ c : Nat, (c : Int) = base + 149 := ⟨(base + 149).toNat, by omega⟩
  obtain ⟨d, hd⟩ : ∃ d : Nat, (d : Int) = nE b + 149 := ⟨(nE b + 149).toNat, by omega⟩
  have r1 := rungOf_R ((nM b).toNat * 2 ^ (nE b - base).toNat) c
  have r2 := rungOf_R (nM b).toNat d
  rw [show -149 + (c : Int) = base by omega] at r1
  rw [show -149 + (d : Int) = nE b by omega] at r2
  rw [r1, r2, Nat.mul_assoc, ← Nat.pow_add, show (nE b - base).toNat + c = d by omega]

set_option maxHeartbeats 2000000 in
theorem radd_any (a : Int) (h0 : 0 ≤ a) (h1 : a < 4294967296) (b : Int) (g0 : 0 ≤ b) (g1 : b < 4294967296) (w : World) :
    Calls Try.prog 25 #[.int .i64 a, .int .i64 b] w fun e w' => e = .returned (.int .i64 (fadd a b)) ∧ Below w.heap.size w w' := by
  cases hna : nNan a
  · cases hnb : nNan b
    · cases hia : nInf a
      · obtain ⟨ra, a1, a2, a3, a4, a5⟩ := ref_fin a h0 h1 hia hna
        cases hib : nInf b
        · obtain ⟨rb, b1, b2, b3, b4, b5⟩ := ref_fin b g0 g1 hib hnb
          by_cases za : nM a = 0
          · by_cases zb : nM b = 0
            · have hv : fadd a b = sgn (nMin a && nMin b) := by
                rw [fadd_eq a b ra rb, za, zb]
                simp only [Ieee.Datum.sum, Option.map_some, Ieee.Format.write]
                have : Ieee.signed (nMin a) (0 : Int).toNat (nE a - min (nE a) (nE b)).toNat + Ieee.signed (nMin b) (0 : Int).toNat (nE b - min (nE a) (nE b)).toNat = 0 := by unfold Ieee.signed; simp
                rw [this, if_pos rfl]; exact near_zero _ _
              rw [hv]; clear hv ra rb
              cases hma : nMin a
              · rw [Bool.false_and]
                go_enter Try.func25, Try.ntmps25
                go_wp2_with (first
                  | (go_at_call 44; refine (rof_any _ (by omega) (by omega) _).mono ?_; rintro e w' ⟨rfl, o, rfl⟩)
                  | (go_at_call 43; refine (rnan_any _ _ _ _ _ _ _ _ _ _ _).mono ?_; rintro e w' ⟨rfl, o, p, rfl⟩)
                  | (go_at_call 47; refine (rinf_any _ _).mono ?_; rintro e w' ⟨rfl, rfl⟩)
                  | (go_at_call 48; refine (rzero_any _ _).mono ?_; rintro e w' ⟨rfl, rfl⟩)
                  | (go_at_call 49; refine (rround_any _ _ (by omega) (by omega) _ (by omega) (by omega) _).mono ?_; rintro e w' ⟨rfl, rfl⟩)
                  | (go_at_call 50; refine (rsum_any _ _ _ _ _ _ _ _ _ _ (by omega) (by omega) (by omega) (by omega) (by omega) (by omega) (by omega) _).mono ?_; rintro e w' ⟨rfl, hbS⟩))
                go_ret
                exact ⟨rfl, by go_grown⟩
              · rw [Bool.true_and]
                go_enter Try.func25, Try.ntmps25
                go_wp2_with (first
                  | (go_at_call 44; refine (rof_any _ (by omega) (by omega) _).mono ?_; rintro e w' ⟨rfl, o, rfl⟩)
                  | (go_at_call 43; refine (rnan_any _ _ _ _ _ _ _ _ _ _ _).mono ?_; rintro e w' ⟨rfl, o, p, rfl⟩)
                  | (go_at_call 47; refine (rinf_any _ _).mono ?_; rintro e w' ⟨rfl, rfl⟩)
                  | (go_at_call 48; refine (rzero_any _ _).mono ?_; rintro e w' ⟨rfl, rfl⟩)
                  | (go_at_call 49; refine (rround_any _ _ (by omega) (by omega) _ (by omega) (by omega) _).mono ?_; rintro e w' ⟨rfl, rfl⟩)
                  | (go_at_call 50; refine (rsum_any _ _ _ _ _ _ _ _ _ _ (by omega) (by omega) (by omega) (by omega) (by omega) (by omega) (by omega) _).mono ?_; rintro e w' ⟨rfl, hbS⟩))
                go_ret
                exact ⟨rfl, by go_grown⟩
            · have hv := fadd_zero a b h0 h1 g0 g1 (s := nMin a) (i := nE a) (by rw [ra, za]; rfl) rb zb b1 a3 b3
              rw [hv]; clear hv ra rb
              go_enter Try.func25, Try.ntmps25
              go_wp2_with (first
                | (go_at_call 44; refine (rof_any _ (by omega) (by omega) _).mono ?_; rintro e w' ⟨rfl, o, rfl⟩)
                | (go_at_call 43; refine (rnan_any _ _ _ _ _ _ _ _ _ _ _).mono ?_; rintro e w' ⟨rfl, o, p, rfl⟩)
                | (go_at_call 47; refine (rinf_any _ _).mono ?_; rintro e w' ⟨rfl, rfl⟩)
                | (go_at_call 48; refine (rzero_any _ _).mono ?_; rintro e w' ⟨rfl, rfl⟩)
                | (go_at_call 49; refine (rround_any _ _ (by omega) (by omega) _ (by omega) (by omega) _).mono ?_; rintro e w' ⟨rfl, rfl⟩)
                | (go_at_call 50; refine (rsum_any _ _ _ _ _ _ _ _ _ _ (by omega) (by omega) (by omega) (by omega) (by omega) (by omega) (by omega) _).mono ?_; rintro e w' ⟨rfl, hbS⟩))
              go_ret
              exact ⟨rfl, by go_grown⟩
          · by_cases zb : nM b = 0
            · have hv := fadd_zero b a g0 g1 h0 h1 (s := nMin b) (i := nE b) (by rw [rb, zb]; rfl) ra za a1 b3 a3
              rw [fadd_comm, hv]; clear hv ra rb
              go_enter Try.func25, Try.ntmps25
              go_wp2_with (first
                | (go_at_call 44; refine (rof_any _ (by omega) (by omega) _).mono ?_; rintro e w' ⟨rfl, o, rfl⟩)
                | (go_at_call 43; refine (rnan_any _ _ _ _ _ _ _ _ _ _ _).mono ?_; rintro e w' ⟨rfl, o, p, rfl⟩)
                | (go_at_call 47; refine (rinf_any _ _).mono ?_; rintro e w' ⟨rfl, rfl⟩)
                | (go_at_call 48; refine (rzero_any _ _).mono ?_; rintro e w' ⟨rfl, rfl⟩)
                | (go_at_call 49; refine (rround_any _ _ (by omega) (by omega) _ (by omega) (by omega) _).mono ?_; rintro e w' ⟨rfl, rfl⟩)
                | (go_at_call 50; refine (rsum_any _ _ _ _ _ _ _ _ _ _ (by omega) (by omega) (by omega) (by omega) (by omega) (by omega) (by omega) _).mono ?_; rintro e w' ⟨rfl, hbS⟩))
              go_ret
              exact ⟨rfl, by go_grown⟩
            · by_cases hE : nE a < nE b
              · have hv : fadd a b = sumv (nMin b) (nM b) (nE b) (nMin a) (nM a) (nE a) := by
                  rw [fadd_comm, fadd_eq b a rb ra, sum_sumv _ _ _ _ _ _ (by omega) b2 (by omega) a2 a3 (by omega) b5]
                rw [hv]; clear hv ra rb
                go_enter Try.func25, Try.ntmps25
                go_wp2_with (first
                  | (go_at_call 44; refine (rof_any _ (by omega) (by omega) _).mono ?_; rintro e w' ⟨rfl, o, rfl⟩)
                  | (go_at_call 43; refine (rnan_any _ _ _ _ _ _ _ _ _ _ _).mono ?_; rintro e w' ⟨rfl, o, p, rfl⟩)
                  | (go_at_call 47; refine (rinf_any _ _).mono ?_; rintro e w' ⟨rfl, rfl⟩)
                  | (go_at_call 48; refine (rzero_any _ _).mono ?_; rintro e w' ⟨rfl, rfl⟩)
                  | (go_at_call 49; refine (rround_any _ _ (by omega) (by omega) _ (by omega) (by omega) _).mono ?_; rintro e w' ⟨rfl, rfl⟩)
                  | (go_at_call 50; refine (rsum_any _ _ _ _ _ _ _ _ _ _ (by omega) (by omega) (by omega) (by omega) (by omega) (by omega) (by omega) _).mono ?_; rintro e w' ⟨rfl, hbS⟩))
                go_ret
                exact ⟨rfl, bel (by go_grown) hbS⟩
              · have hv : fadd a b = sumv (nMin a) (nM a) (nE a) (nMin b) (nM b) (nE b) := by
                  rw [fadd_eq a b ra rb, sum_sumv _ _ _ _ _ _ (by omega) a2 (by omega) b2 b3 (by omega) a5]
                rw [hv]; clear hv ra rb
                go_enter Try.func25, Try.ntmps25
                go_wp2_with (first
                  | (go_at_call 44; refine (rof_any _ (by omega) (by omega) _).mono ?_; rintro e w' ⟨rfl, o, rfl⟩)
                  | (go_at_call 43; refine (rnan_any _ _ _ _ _ _ _ _ _ _ _).mono ?_; rintro e w' ⟨rfl, o, p, rfl⟩)
                  | (go_at_call 47; refine (rinf_any _ _).mono ?_; rintro e w' ⟨rfl, rfl⟩)
                  | (go_at_call 48; refine (rzero_any _ _).mono ?_; rintro e w' ⟨rfl, rfl⟩)
                  | (go_at_call 49; refine (rround_any _ _ (by omega) (by omega) _ (by omega) (by omega) _).mono ?_; rintro e w' ⟨rfl, rfl⟩)
                  | (go_at_call 50; refine (rsum_any _ _ _ _ _ _ _ _ _ _ (by omega) (by omega) (by omega) (by omega) (by omega) (by omega) (by omega) _).mono ?_; rintro e w' ⟨rfl, hbS⟩))
                go_ret
                exact ⟨rfl, bel (by go_grown) hbS⟩
        · obtain ⟨rb, -, b1⟩ := ref_inf b g0 g1 hib
          have hv : fadd a b = sgn (nMin b) + 2139095040 := by rw [fadd_eq a b ra rb, ← write_inf]; rfl
          rw [hv]; clear hv ra rb
          go_enter Try.func25, Try.ntmps25
          go_wp2_with (first
            | (go_at_call 44; refine (rof_any _ (by omega) (by omega) _).mono ?_; rintro e w' ⟨rfl, o, rfl⟩)
            | (go_at_call 43; refine (rnan_any _ _ _ _ _ _ _ _ _ _ _).mono ?_; rintro e w' ⟨rfl, o, p, rfl⟩)
            | (go_at_call 47; refine (rinf_any _ _).mono ?_; rintro e w' ⟨rfl, rfl⟩)
            | (go_at_call 48; refine (rzero_any _ _).mono ?_; rintro e w' ⟨rfl, rfl⟩)
            | (go_at_call 49; refine (rround_any _ _ (by omega) (by omega) _ (by omega) (by omega) _).mono ?_; rintro e w' ⟨rfl, rfl⟩)
            | (go_at_call 50; refine (rsum_any _ _ _ _ _ _ _ _ _ _ (by omega) (by omega) (by omega) (by omega) (by omega) (by omega) (by omega) _).mono ?_; rintro e w' ⟨rfl, hbS⟩))
          go_ret
          exact ⟨rfl, by go_grown⟩
      · obtain ⟨ra, -, a1⟩ := ref_inf a h0 h1 hia
        cases hib : nInf b
        · obtain ⟨rb, b1, b2, b3, b4, b5⟩ := ref_fin b g0 g1 hib hnb
          have hv : fadd a b = sgn (nMin a) + 2139095040 := by rw [fadd_eq a b ra rb, ← write_inf]; rfl
          rw [hv]; clear hv ra rb
          go_enter Try.func25, Try.ntmps25
          go_wp2_with (first
            | (go_at_call 44; refine (rof_any _ (by omega) (by omega) _).mono ?_; rintro e w' ⟨rfl, o, rfl⟩)
            | (go_at_call 43; refine (rnan_any _ _ _ _ _ _ _ _ _ _ _).mono ?_; rintro e w' ⟨rfl, o, p, rfl⟩)
            | (go_at_call 47; refine (rinf_any _ _).mono ?_; rintro e w' ⟨rfl, rfl⟩)
            | (go_at_call 48; refine (rzero_any _ _).mono ?_; rintro e w' ⟨rfl, rfl⟩)
            | (go_at_call 49; refine (rround_any _ _ (by omega) (by omega) _ (by omega) (by omega) _).mono ?_; rintro e w' ⟨rfl, rfl⟩)
            | (go_at_call 50; refine (rsum_any _ _ _ _ _ _ _ _ _ _ (by omega) (by omega) (by omega) (by omega) (by omega) (by omega) (by omega) _).mono ?_; rintro e w' ⟨rfl, hbS⟩))
          go_ret
          exact ⟨rfl, by go_grown⟩
        · obtain ⟨rb, -, b1⟩ := ref_inf b g0 g1 hib
          cases hma : nMin a <;> cases hmb : nMin b <;> rw [hma] at ra <;> rw [hmb] at rb
          · have hv : fadd a b = sgn false + 2139095040 := by rw [fadd_eq a b ra rb, ← write_inf]; rfl
            rw [hv]; clear hv ra rb
            go_enter Try.func25, Try.ntmps25
            go_wp2_with (first
              | (go_at_call 44; refine (rof_any _ (by omega) (by omega) _).mono ?_; rintro e w' ⟨rfl, o, rfl⟩)
              | (go_at_call 43; refine (rnan_any _ _ _ _ _ _ _ _ _ _ _).mono ?_; rintro e w' ⟨rfl, o, p, rfl⟩)
              | (go_at_call 47; refine (rinf_any _ _).mono ?_; rintro e w' ⟨rfl, rfl⟩)
              | (go_at_call 48; refine (rzero_any _ _).mono ?_; rintro e w' ⟨rfl, rfl⟩)
              | (go_at_call 49; refine (rround_any _ _ (by omega) (by omega) _ (by omega) (by omega) _).mono ?_; rintro e w' ⟨rfl, rfl⟩)
              | (go_at_call 50; refine (rsum_any _ _ _ _ _ _ _ _ _ _ (by omega) (by omega) (by omega) (by omega) (by omega) (by omega) (by omega) _).mono ?_; rintro e w' ⟨rfl, hbS⟩))
            go_ret
            exact ⟨rfl, by go_grown⟩
          · have hv : fadd a b = 2143289344 := by rw [fadd_eq a b ra rb]; rfl
            rw [hv]; clear hv ra rb
            go_enter Try.func25, Try.ntmps25
            go_wp2_with (first
              | (go_at_call 44; refine (rof_any _ (by omega) (by omega) _).mono ?_; rintro e w' ⟨rfl, o, rfl⟩)
              | (go_at_call 43; refine (rnan_any _ _ _ _ _ _ _ _ _ _ _).mono ?_; rintro e w' ⟨rfl, o, p, rfl⟩)
              | (go_at_call 47; refine (rinf_any _ _).mono ?_; rintro e w' ⟨rfl, rfl⟩)
              | (go_at_call 48; refine (rzero_any _ _).mono ?_; rintro e w' ⟨rfl, rfl⟩)
              | (go_at_call 49; refine (rround_any _ _ (by omega) (by omega) _ (by omega) (by omega) _).mono ?_; rintro e w' ⟨rfl, rfl⟩)
              | (go_at_call 50; refine (rsum_any _ _ _ _ _ _ _ _ _ _ (by omega) (by omega) (by omega) (by omega) (by omega) (by omega) (by omega) _).mono ?_; rintro e w' ⟨rfl, hbS⟩))
            go_ret
            exact ⟨rfl, by go_grown⟩
          · have hv : fadd a b = 2143289344 := by rw [fadd_eq a b ra rb]; rfl
            rw [hv]; clear hv ra rb
            go_enter Try.func25, Try.ntmps25
            go_wp2_with (first
              | (go_at_call 44; refine (rof_any _ (by omega) (by omega) _).mono ?_; rintro e w' ⟨rfl, o, rfl⟩)
              | (go_at_call 43; refine (rnan_any _ _ _ _ _ _ _ _ _ _ _).mono ?_; rintro e w' ⟨rfl, o, p, rfl⟩)
              | (go_at_call 47; refine (rinf_any _ _).mono ?_; rintro e w' ⟨rfl, rfl⟩)
              | (go_at_call 48; refine (rzero_any _ _).mono ?_; rintro e w' ⟨rfl, rfl⟩)
              | (go_at_call 49; refine (rround_any _ _ (by omega) (by omega) _ (by omega) (by omega) _).mono ?_; rintro e w' ⟨rfl, rfl⟩)
              | (go_at_call 50; refine (rsum_any _ _ _ _ _ _ _ _ _ _ (by omega) (by omega) (by omega) (by omega) (by omega) (by omega) (by omega) _).mono ?_; rintro e w' ⟨rfl, hbS⟩))
            go_ret
            exact ⟨rfl, by go_grown⟩
          · have hv : fadd a b = sgn true + 2139095040 := by rw [fadd_eq a b ra rb, ← write_inf]; rfl
            rw [hv]; clear hv ra rb
            go_enter Try.func25, Try.ntmps25
            go_wp2_with (first
              | (go_at_call 44; refine (rof_any _ (by omega) (by omega) _).mono ?_; rintro e w' ⟨rfl, o, rfl⟩)
              | (go_at_call 43; refine (rnan_any _ _ _ _ _ _ _ _ _ _ _).mono ?_; rintro e w' ⟨rfl, o, p, rfl⟩)
              | (go_at_call 47; refine (rinf_any _ _).mono ?_; rintro e w' ⟨rfl, rfl⟩)
              | (go_at_call 48; refine (rzero_any _ _).mono ?_; rintro e w' ⟨rfl, rfl⟩)
              | (go_at_call 49; refine (rround_any _ _ (by omega) (by omega) _ (by omega) (by omega) _).mono ?_; rintro e w' ⟨rfl, rfl⟩)
              | (go_at_call 50; refine (rsum_any _ _ _ _ _ _ _ _ _ _ (by omega) (by omega) (by omega) (by omega) (by omega) (by omega) (by omega) _).mono ?_; rintro e w' ⟨rfl, hbS⟩))
            go_ret
            exact ⟨rfl, by go_grown⟩
    · have hv := fadd_nan a b h0 h1 g0 g1 (Or.inr hnb)
      rw [hv]; clear hv
      go_enter Try.func25, Try.ntmps25
      go_wp2_with (first
        | (go_at_call 44; refine (rof_any _ (by omega) (by omega) _).mono ?_; rintro e w' ⟨rfl, o, rfl⟩)
        | (go_at_call 43; refine (rnan_any _ _ _ _ _ _ _ _ _ _ _).mono ?_; rintro e w' ⟨rfl, o, p, rfl⟩)
        | (go_at_call 47; refine (rinf_any _ _).mono ?_; rintro e w' ⟨rfl, rfl⟩)
        | (go_at_call 48; refine (rzero_any _ _).mono ?_; rintro e w' ⟨rfl, rfl⟩)
        | (go_at_call 49; refine (rround_any _ _ (by omega) (by omega) _ (by omega) (by omega) _).mono ?_; rintro e w' ⟨rfl, rfl⟩)
        | (go_at_call 50; refine (rsum_any _ _ _ _ _ _ _ _ _ _ (by omega) (by omega) (by omega) (by omega) (by omega) (by omega) (by omega) _).mono ?_; rintro e w' ⟨rfl, hbS⟩))
      go_ret
      exact ⟨rfl, by go_grown⟩
  · have hv := fadd_nan a b h0 h1 g0 g1 (Or.inl hna)
    rw [hv]; clear hv
    go_enter Try.func25, Try.ntmps25
    go_wp2_with (first
      | (go_at_call 44; refine (rof_any _ (by omega) (by omega) _).mono ?_; rintro e w' ⟨rfl, o, rfl⟩)
      | (go_at_call 43; refine (rnan_any _ _ _ _ _ _ _ _ _ _ _).mono ?_; rintro e w' ⟨rfl, o, p, rfl⟩)
      | (go_at_call 47; refine (rinf_any _ _).mono ?_; rintro e w' ⟨rfl, rfl⟩)
      | (go_at_call 48; refine (rzero_any _ _).mono ?_; rintro e w' ⟨rfl, rfl⟩)
      | (go_at_call 49; refine (rround_any _ _ (by omega) (by omega) _ (by omega) (by omega) _).mono ?_; rintro e w' ⟨rfl, rfl⟩)
      | (go_at_call 50; refine (rsum_any _ _ _ _ _ _ _ _ _ _ (by omega) (by omega) (by omega) (by omega) (by omega) (by omega) (by omega) _).mono ?_; rintro e w' ⟨rfl, hbS⟩))
    go_ret
    exact ⟨rfl, by go_grown⟩

theorem sum_opp_nan (d e : Ieee.Datum) (h : d.isNaN = true) : e.sum d = none := by
  cases d <;> simp [Ieee.Datum.isNaN] at h
  cases e <;> rfl
theorem fsub_eq (a b : Int) (g0 : 0 ≤ b) (g1 : b < 4294967296) : fsub a b = fadd a (fneg b) := by
  cases hn : nan b
  · rw [fneg_num b g0 g1 hn]
    unfold fsub fadd Ieee.Format.sub Ieee.Format.add
    rw [Int.toNat_natCast, read_flip _ (by omega)]
  · rw [fneg_nan b g0 g1 hn]
    have h2 : 2139095040 < rg b.toNat := by rw [nan_rg b g0] at hn; simpa using hn
    unfold fsub fadd Ieee.Format.sub Ieee.Format.add
    rw [read_nan _ h2, show Ieee.single.read (2143289344 : Int).toNat = .nan false 4194304 from by decide, sum_opp_nan _ _ rfl, sum_opp_nan _ _ rfl]

set_option maxHeartbeats 400000 in
theorem rsub_any (a : Int) (h0 : 0 ≤ a) (h1 : a < 4294967296) (b : Int) (g0 : 0 ≤ b) (g1 : b < 4294967296) (w : World) :
    Calls Try.prog 21 #[.int .i64 a, .int .i64 b] w fun e w' => e = .returned (.int .i64 (fsub a b)) ∧ Below w.heap.size w w' := by
  rw [fsub_eq a b g0 g1]
  have hl := fneg_lo b g0 g1
  go_enter Try.func21, Try.ntmps21
  go_wp2_with (first
    | (go_at_call 22; refine (rneg_any _ g0 g1 _).mono ?_; rintro e w1 ⟨rfl, hb1⟩)
    | (go_at_call 25; refine (radd_any _ h0 h1 _ hl.1 hl.2 _).mono ?_; rintro e w2 ⟨rfl, hb2⟩))
  go_ret
  exact ⟨rfl, bel hb1 hb2⟩

end Go.Proofs.Ytnogokikiekcbaa
