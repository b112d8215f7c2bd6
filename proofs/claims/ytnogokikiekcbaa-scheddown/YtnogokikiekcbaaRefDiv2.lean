import Derived.Test.YtnogokikiekcbaaRefDiv
import Derived.Test.YtnogokikiekcbaaRefAdd2
/- The walk of Div of the reference of layer 2. -/
namespace Go.Proofs.Ytnogokikiekcbaa
open Go.RowKit
set_option linter.unusedVariables false

theorem fdiv_nan (a b : Int) (h0 : 0 ≤ a) (h1 : a < 4294967296) (g0 : 0 ≤ b) (g1 : b < 4294967296) (h : nNan a = true ∨ nNan b = true) : fdiv a b = 2143289344 := by
  rcases h with h | h
  · obtain ⟨s, t, e⟩ := ref_nan a h0 h1 h
    rw [fdiv_eq a b e rfl]; cases Ieee.single.read b.toNat <;> rfl
  · obtain ⟨s, t, e⟩ := ref_nan b g0 g1 h
    rw [fdiv_eq a b rfl e]; cases Ieee.single.read a.toNat <;> rfl
theorem write_zero (s : Bool) : ((Ieee.single.write (.number s 0 0) : Nat) : Int) = sgn s := by cases s <;> decide
theorem quot_lo (A B : Int) (h1 : 8388608 ≤ A) (h2 : A < 16777216) (h3 : 8388608 ≤ B) (h4 : B < 16777216) : 0 ≤ A * 274877906944 / B ∧ A * 274877906944 / B < 1099511627776 ∧ 0 ≤ A * 274877906944 % B ∧ A * 274877906944 % B < 16777216 := by
  have e := Int.mul_ediv_add_emod (A * 274877906944) B
  have r0 := Int.emod_nonneg (A * 274877906944) (show B ≠ 0 by omega)
  have r1 := Int.emod_lt_of_pos (A * 274877906944) (show 0 < B by omega)
  have q0 : 0 ≤ A * 274877906944 / B := Int.ediv_nonneg (by omega) (by omega)
  refine ⟨q0, ?_, r0, by omega⟩
  apply Int.ediv_lt_of_lt_mul (by omega)
  omega

set_option maxHeartbeats 2000000 in
theorem rdiv_any (a : Int) (h0 : 0 ≤ a) (h1 : a < 4294967296) (b : Int) (g0 : 0 ≤ b) (g1 : b < 4294967296) (w : World) :
    Calls Try.prog 60 #[.int .i64 a, .int .i64 b] w fun e w' => e = .returned (.int .i64 (fdiv a b)) ∧ Below w.heap.size w w' := by
  cases hna : nNan a
  · cases hnb : nNan b
    · cases hia : nInf a
      · obtain ⟨ra, a1, a2, a3, a4, a5⟩ := ref_fin a h0 h1 hia hna
        cases hib : nInf b
        · obtain ⟨rb, b1, b2, b3, b4, b5⟩ := ref_fin b g0 g1 hib hnb
          by_cases zb : nM b = 0
          · by_cases za : nM a = 0
            · have hv : fdiv a b = 2143289344 := by rw [fdiv_eq a b ra rb, za, zb]; rfl
              rw [hv]; clear hv ra rb
              go_enter Try.func60, Try.ntmps60
              go_wp2_with (first
                | (go_at_call 44; refine (rof_any _ (by omega) (by omega) _).mono ?_; rintro e w' ⟨rfl, o, rfl⟩)
                | (go_at_call 43; refine (rnan_any _ _ _ _ _ _ _ _ _ _ _).mono ?_; rintro e w' ⟨rfl, o, p, rfl⟩)
                | (go_at_call 47; refine (rinf_any _ _).mono ?_; rintro e w' ⟨rfl, rfl⟩)
                | (go_at_call 48; refine (rzero_any _ _).mono ?_; rintro e w' ⟨rfl, rfl⟩)
                | (go_at_call 49; refine (rround_any _ _ (by omega) (by omega) _ (by omega) (by omega) _).mono ?_; rintro e w' ⟨rfl, rfl⟩)
                | (go_at_call 75; refine (rup_fn _ _ _ _ _ (by omega) (by omega) (by omega) (by omega) _).mono ?_; rintro e w' ⟨rfl, o, p, rfl⟩))
              go_ret
              exact ⟨rfl, by go_grown⟩
            · have hv : fdiv a b = sgn (nMin a != nMin b) + 2139095040 := by
                rw [fdiv_eq a b ra rb, zb, ← write_inf, ← xor_bne]
                have : (nM a).toNat ≠ 0 := by omega
                simp only [Ieee.Datum.quotient, if_neg this, Int.toNat_zero, if_true]; rfl
              rw [hv]; clear hv ra rb
              go_enter Try.func60, Try.ntmps60
              go_wp2_with (first
                | (go_at_call 44; refine (rof_any _ (by omega) (by omega) _).mono ?_; rintro e w' ⟨rfl, o, rfl⟩)
                | (go_at_call 43; refine (rnan_any _ _ _ _ _ _ _ _ _ _ _).mono ?_; rintro e w' ⟨rfl, o, p, rfl⟩)
                | (go_at_call 47; refine (rinf_any _ _).mono ?_; rintro e w' ⟨rfl, rfl⟩)
                | (go_at_call 48; refine (rzero_any _ _).mono ?_; rintro e w' ⟨rfl, rfl⟩)
                | (go_at_call 49; refine (rround_any _ _ (by omega) (by omega) _ (by omega) (by omega) _).mono ?_; rintro e w' ⟨rfl, rfl⟩)
                | (go_at_call 75; refine (rup_fn _ _ _ _ _ (by omega) (by omega) (by omega) (by omega) _).mono ?_; rintro e w' ⟨rfl, o, p, rfl⟩))
              go_ret
              exact ⟨rfl, by go_grown⟩
          · by_cases za : nM a = 0
            · have hv : fdiv a b = sgn (nMin a != nMin b) := by
                rw [fdiv_eq a b ra rb, za, ← xor_bne]
                have : (nM b).toNat ≠ 0 := by omega
                simp only [Ieee.Datum.quotient, if_neg this, Int.toNat_zero, Nat.zero_shiftLeft, Nat.zero_div, Nat.zero_mod]
                exact near_zero _ _
              rw [hv]; clear hv ra rb
              go_enter Try.func60, Try.ntmps60
              go_wp2_with (first
                | (go_at_call 44; refine (rof_any _ (by omega) (by omega) _).mono ?_; rintro e w' ⟨rfl, o, rfl⟩)
                | (go_at_call 43; refine (rnan_any _ _ _ _ _ _ _ _ _ _ _).mono ?_; rintro e w' ⟨rfl, o, p, rfl⟩)
                | (go_at_call 47; refine (rinf_any _ _).mono ?_; rintro e w' ⟨rfl, rfl⟩)
                | (go_at_call 48; refine (rzero_any _ _).mono ?_; rintro e w' ⟨rfl, rfl⟩)
                | (go_at_call 49; refine (rround_any _ _ (by omega) (by omega) _ (by omega) (by omega) _).mono ?_; rintro e w' ⟨rfl, rfl⟩)
                | (go_at_call 75; refine (rup_fn _ _ _ _ _ (by omega) (by omega) (by omega) (by omega) _).mono ?_; rintro e w' ⟨rfl, o, p, rfl⟩))
              go_ret
              exact ⟨rfl, by go_grown⟩
            · obtain ⟨ka, A1, A2⟩ := nk_range (nM a) (by omega) a2
              obtain ⟨kb, B1, B2⟩ := nk_range (nM b) (by omega) b2
              obtain ⟨A, hA⟩ : ∃ A, nM a * 2 ^ nk (nM a) = A := ⟨_, rfl⟩
              obtain ⟨B, hB⟩ : ∃ B, nM b * 2 ^ nk (nM b) = B := ⟨_, rfl⟩
              have hv := fdiv_ref a b h0 h1 g0 g1 hia hna hib hnb za zb A B hA hB
              rw [hA] at A1 A2
              rw [hB] at B1 B2
              have hq := quot_lo A B A1 A2 B1 B2
              obtain ⟨EA, hEA⟩ : ∃ EA, nE a - (nk (nM a) : Int) = EA := ⟨_, rfl⟩
              obtain ⟨EB, hEB⟩ : ∃ EB, nE b - (nk (nM b) : Int) = EB := ⟨_, rfl⟩
              rw [hEA, hEB] at hv
              have eb : -172 ≤ EA ∧ EA ≤ 104 ∧ -172 ≤ EB ∧ EB ≤ 104 := by omega
              rw [hv]; clear hv ra rb a5 b5
              obtain ⟨q, hqq⟩ : ∃ q, A * 274877906944 / B = q := ⟨_, rfl⟩
              obtain ⟨r, hrr⟩ : ∃ r, A * 274877906944 % B = r := ⟨_, rfl⟩
              rw [hqq, hrr] at hq ⊢
              have hdiv : (A * 274877906944).tdiv B = q := by rw [← hqq, Int.tdiv_eq_ediv_of_nonneg (by omega)]
              have hmod : (A * 274877906944).tmod B = r := by rw [← hrr, Int.tmod_eq_emod_of_nonneg (by omega)]
              by_cases zr : r = 0
              · rw [if_pos zr]
                go_enter Try.func60, Try.ntmps60
                go_wp2_with (first
                  | (go_at_call 44; refine (rof_any _ (by omega) (by omega) _).mono ?_; rintro e w' ⟨rfl, o, rfl⟩)
                  | (go_at_call 43; refine (rnan_any _ _ _ _ _ _ _ _ _ _ _).mono ?_; rintro e w' ⟨rfl, o, p, rfl⟩)
                  | (go_at_call 47; refine (rinf_any _ _).mono ?_; rintro e w' ⟨rfl, rfl⟩)
                  | (go_at_call 48; refine (rzero_any _ _).mono ?_; rintro e w' ⟨rfl, rfl⟩)
                  | (go_at_call 49; refine (rround_any _ _ (by omega) (by omega) _ (by omega) (by omega) _).mono ?_; rintro e w' ⟨rfl, rfl⟩)
                  | (go_at_call 75; refine (rup_fn _ _ _ _ _ (by omega) (by omega) (by omega) (by omega) _).mono ?_; rintro e w' ⟨rfl, o, p, rfl⟩))
                go_ret
                exact ⟨ret_near (by omega) rfl, by go_grown⟩
              · rw [if_neg zr]
                go_enter Try.func60, Try.ntmps60
                go_wp2_with (first
                  | (go_at_call 44; refine (rof_any _ (by omega) (by omega) _).mono ?_; rintro e w' ⟨rfl, o, rfl⟩)
                  | (go_at_call 43; refine (rnan_any _ _ _ _ _ _ _ _ _ _ _).mono ?_; rintro e w' ⟨rfl, o, p, rfl⟩)
                  | (go_at_call 47; refine (rinf_any _ _).mono ?_; rintro e w' ⟨rfl, rfl⟩)
                  | (go_at_call 48; refine (rzero_any _ _).mono ?_; rintro e w' ⟨rfl, rfl⟩)
                  | (go_at_call 49; refine (rround_any _ _ (by omega) (by omega) _ (by omega) (by omega) _).mono ?_; rintro e w' ⟨rfl, rfl⟩)
                  | (go_at_call 75; refine (rup_fn _ _ _ _ _ (by omega) (by omega) (by omega) (by omega) _).mono ?_; rintro e w' ⟨rfl, o, p, rfl⟩))
                go_ret
                exact ⟨ret_near (by omega) rfl, by go_grown⟩
        · obtain ⟨rb, -, b1⟩ := ref_inf b g0 g1 hib
          have hv : fdiv a b = sgn (nMin a != nMin b) := by rw [fdiv_eq a b ra rb, ← write_zero, ← xor_bne]; rfl
          rw [hv]; clear hv ra rb
          by_cases za : nM a = 0
          · skip
            go_enter Try.func60, Try.ntmps60
            go_wp2_with (first
              | (go_at_call 44; refine (rof_any _ (by omega) (by omega) _).mono ?_; rintro e w' ⟨rfl, o, rfl⟩)
              | (go_at_call 43; refine (rnan_any _ _ _ _ _ _ _ _ _ _ _).mono ?_; rintro e w' ⟨rfl, o, p, rfl⟩)
              | (go_at_call 47; refine (rinf_any _ _).mono ?_; rintro e w' ⟨rfl, rfl⟩)
              | (go_at_call 48; refine (rzero_any _ _).mono ?_; rintro e w' ⟨rfl, rfl⟩)
              | (go_at_call 49; refine (rround_any _ _ (by omega) (by omega) _ (by omega) (by omega) _).mono ?_; rintro e w' ⟨rfl, rfl⟩)
              | (go_at_call 75; refine (rup_fn _ _ _ _ _ (by omega) (by omega) (by omega) (by omega) _).mono ?_; rintro e w' ⟨rfl, o, p, rfl⟩))
            go_ret
            exact ⟨rfl, by go_grown⟩
          · skip
            go_enter Try.func60, Try.ntmps60
            go_wp2_with (first
              | (go_at_call 44; refine (rof_any _ (by omega) (by omega) _).mono ?_; rintro e w' ⟨rfl, o, rfl⟩)
              | (go_at_call 43; refine (rnan_any _ _ _ _ _ _ _ _ _ _ _).mono ?_; rintro e w' ⟨rfl, o, p, rfl⟩)
              | (go_at_call 47; refine (rinf_any _ _).mono ?_; rintro e w' ⟨rfl, rfl⟩)
              | (go_at_call 48; refine (rzero_any _ _).mono ?_; rintro e w' ⟨rfl, rfl⟩)
              | (go_at_call 49; refine (rround_any _ _ (by omega) (by omega) _ (by omega) (by omega) _).mono ?_; rintro e w' ⟨rfl, rfl⟩)
              | (go_at_call 75; refine (rup_fn _ _ _ _ _ (by omega) (by omega) (by omega) (by omega) _).mono ?_; rintro e w' ⟨rfl, o, p, rfl⟩))
            go_ret
            exact ⟨rfl, by go_grown⟩
      · obtain ⟨ra, -, a1⟩ := ref_inf a h0 h1 hia
        cases hib : nInf b
        · obtain ⟨rb, b1, b2, b3, b4, b5⟩ := ref_fin b g0 g1 hib hnb
          have hv : fdiv a b = sgn (nMin a != nMin b) + 2139095040 := by rw [fdiv_eq a b ra rb, ← write_inf, ← xor_bne]; rfl
          rw [hv]; clear hv ra rb
          go_enter Try.func60, Try.ntmps60
          go_wp2_with (first
            | (go_at_call 44; refine (rof_any _ (by omega) (by omega) _).mono ?_; rintro e w' ⟨rfl, o, rfl⟩)
            | (go_at_call 43; refine (rnan_any _ _ _ _ _ _ _ _ _ _ _).mono ?_; rintro e w' ⟨rfl, o, p, rfl⟩)
            | (go_at_call 47; refine (rinf_any _ _).mono ?_; rintro e w' ⟨rfl, rfl⟩)
            | (go_at_call 48; refine (rzero_any _ _).mono ?_; rintro e w' ⟨rfl, rfl⟩)
            | (go_at_call 49; refine (rround_any _ _ (by omega) (by omega) _ (by omega) (by omega) _).mono ?_; rintro e w' ⟨rfl, rfl⟩)
            | (go_at_call 75; refine (rup_fn _ _ _ _ _ (by omega) (by omega) (by omega) (by omega) _).mono ?_; rintro e w' ⟨rfl, o, p, rfl⟩))
          go_ret
          exact ⟨rfl, by go_grown⟩
        · obtain ⟨rb, -, b1⟩ := ref_inf b g0 g1 hib
          have hv : fdiv a b = 2143289344 := by rw [fdiv_eq a b ra rb]; rfl
          rw [hv]; clear hv ra rb
          go_enter Try.func60, Try.ntmps60
          go_wp2_with (first
            | (go_at_call 44; refine (rof_any _ (by omega) (by omega) _).mono ?_; rintro e w' ⟨rfl, o, rfl⟩)
            | (go_at_call 43; refine (rnan_any _ _ _ _ _ _ _ _ _ _ _).mono ?_; rintro e w' ⟨rfl, o, p, rfl⟩)
            | (go_at_call 47; refine (rinf_any _ _).mono ?_; rintro e w' ⟨rfl, rfl⟩)
            | (go_at_call 48; refine (rzero_any _ _).mono ?_; rintro e w' ⟨rfl, rfl⟩)
            | (go_at_call 49; refine (rround_any _ _ (by omega) (by omega) _ (by omega) (by omega) _).mono ?_; rintro e w' ⟨rfl, rfl⟩)
            | (go_at_call 75; refine (rup_fn _ _ _ _ _ (by omega) (by omega) (by omega) (by omega) _).mono ?_; rintro e w' ⟨rfl, o, p, rfl⟩))
          go_ret
          exact ⟨rfl, by go_grown⟩
    · have hv := fdiv_nan a b h0 h1 g0 g1 (Or.inr hnb)
      rw [hv]; clear hv
      go_enter Try.func60, Try.ntmps60
      go_wp2_with (first
        | (go_at_call 44; refine (rof_any _ (by omega) (by omega) _).mono ?_; rintro e w' ⟨rfl, o, rfl⟩)
        | (go_at_call 43; refine (rnan_any _ _ _ _ _ _ _ _ _ _ _).mono ?_; rintro e w' ⟨rfl, o, p, rfl⟩)
        | (go_at_call 47; refine (rinf_any _ _).mono ?_; rintro e w' ⟨rfl, rfl⟩)
        | (go_at_call 48; refine (rzero_any _ _).mono ?_; rintro e w' ⟨rfl, rfl⟩)
        | (go_at_call 49; refine (rround_any _ _ (by omega) (by omega) _ (by omega) (by omega) _).mono ?_; rintro e w' ⟨rfl, rfl⟩)
        | (go_at_call 75; refine (rup_fn _ _ _ _ _ (by omega) (by omega) (by omega) (by omega) _).mono ?_; rintro e w' ⟨rfl, o, p, rfl⟩))
      go_ret
      exact ⟨rfl, by go_grown⟩
  · have hv := fdiv_nan a b h0 h1 g0 g1 (Or.inl hna)
    rw [hv]; clear hv
    go_enter Try.func60, Try.ntmps60
    go_wp2_with (first
      | (go_at_call 44; refine (rof_any _ (by omega) (by omega) _).mono ?_; rintro e w' ⟨rfl, o, rfl⟩)
      | (go_at_call 43; refine (rnan_any _ _ _ _ _ _ _ _ _ _ _).mono ?_; rintro e w' ⟨rfl, o, p, rfl⟩)
      | (go_at_call 47; refine (rinf_any _ _).mono ?_; rintro e w' ⟨rfl, rfl⟩)
      | (go_at_call 48; refine (rzero_any _ _).mono ?_; rintro e w' ⟨rfl, rfl⟩)
      | (go_at_call 49; refine (rround_any _ _ (by omega) (by omega) _ (by omega) (by omega) _).mono ?_; rintro e w' ⟨rfl, rfl⟩)
      | (go_at_call 75; refine (rup_fn _ _ _ _ _ (by omega) (by omega) (by omega) (by omega) _).mono ?_; rintro e w' ⟨rfl, o, p, rfl⟩))
    go_ret
    exact ⟨rfl, by go_grown⟩

end Go.Proofs.Ytnogokikiekcbaa
