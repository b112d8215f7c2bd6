import Derived.Test.YtnogokikiekcbaaRefWalks
/- Round, of the reference of layer 2. -/
namespace Go.Proofs.Ytnogokikiekcbaa
open Go.RowKit
set_option linter.unusedVariables false

theorem word_sgn (s : Bool) (r : Nat) : ((wd s r : Nat) : Int) = sgn s + min (r : Int) 2139095040 := by
  unfold wd sgn; cases s
  · simp only [if_false, Bool.false_eq_true]; omega
  · simp only [if_true]; omega

/-- Round's outcome, by the place U of the last digit and the digits k that are kept. -/
theorem nearest_parts (s : Bool) (m : Nat) (e : Int) (h0 : m ≠ 0) : ∃ (U : Int) (k : Nat), U = max (e + (blen m : Int) - 24) (-149) ∧
    ((Ieee.single.nearest s m e : Nat) : Int) = sgn s + min ((U + 149) * 8388608 + k) 2139095040 ∧ k ≤ 16777216 ∧ (U = -149 ∨ 8388608 ≤ k) ∧
    k = Ieee.Toward.even.cut false (m * 2 ^ (e - U).toNat) (U - e).toNat ∧ (U ≤ e → (k : Int) = (m : Int) * 2 ^ (e - U).toNat) := by
  have hb : (blen m : Int) - 24 = m.log2 - 23 := by unfold blen; rw [if_neg h0]; omega
  have hn := nearest_eq Ieee.single s m e
  rw [word_wd, single_fb, single_least] at hn
  refine ⟨max (e + (blen m : Int) - 24) (-149), Ieee.Toward.even.cut false (m * 2 ^ (e - max (e + (blen m : Int) - 24) (-149)).toNat) (max (e + (blen m : Int) - 24) (-149) - e).toNat, rfl, ?_⟩
  have hU : max (e + (blen m : Int) - 24) (-149) = max (e + m.log2 - ((23 : Nat) : Int)) (-149) := by omega
  rw [hU]
  generalize hUU : max (e + m.log2 - ((23 : Nat) : Int)) (-149) = U at *
  have hr : rungOf 23 (-149) m e = (U - (-149)).toNat * 2 ^ 23 + Ieee.Toward.even.cut false (m * 2 ^ (e - U).toNat) (U - e).toNat := by
    unfold rungOf; rw [if_neg h0, Nat.shiftLeft_eq, hUU]
  have hcut := cut_even false (m * 2 ^ (e - U).toNat) (U - e).toNat
  generalize hk : Ieee.Toward.even.cut false (m * 2 ^ (e - U).toNat) (U - e).toNat = k at *
  have hlo : 2 ^ m.log2 ≤ m := Nat.log2_self_le h0
  have hhi : m < 2 ^ (m.log2 + 1) := Nat.lt_log2_self
  -- the range of what is cut
  have hcs := hcut.scale 0 0 (U - e).toNat rfl
  rw [Nat.pow_zero, Nat.mul_one] at hcs
  have lo : U = -149 ∨ 2 ^ 23 * 2 ^ (U - e).toNat ≤ m * 2 ^ (e - U).toNat := by
    rcases (show U = -149 ∨ U = e + m.log2 - 23 by omega) with c | c
    · exact Or.inl c
    · right
      calc 2 ^ 23 * 2 ^ (U - e).toNat = 2 ^ m.log2 * 2 ^ (e - U).toNat := by rw [← Nat.pow_add, ← Nat.pow_add]; congr 1; omega
        _ ≤ m * 2 ^ (e - U).toNat := Nat.mul_le_mul_right _ hlo
  have hi : m * 2 ^ (e - U).toNat < 2 * 2 ^ 23 * 2 ^ (U - e).toNat := by
    calc m * 2 ^ (e - U).toNat < 2 ^ (m.log2 + 1) * 2 ^ (e - U).toNat := Nat.mul_lt_mul_of_pos_right hhi (Nat.two_pow_pos _)
      _ = 2 ^ (m.log2 + 1 + (e - U).toNat) := (Nat.pow_add ..).symm
      _ ≤ 2 ^ (24 + (U - e).toNat) := Nat.pow_le_pow_right (by decide) (by omega)
      _ = 2 * 2 ^ 23 * 2 ^ (U - e).toNat := by rw [Nat.pow_add]
  have up := hcut.up
  have dn := hcut.dn
  simp only [Nat.mul_one] at up dn
  have hT : 0 < 2 ^ (U - e).toNat := Nat.two_pow_pos _
  have hkle : k ≤ 16777216 := by
    rcases Nat.lt_or_ge 16777216 k with c | c
    · exfalso
      have : (2 * 16777217) * 2 ^ (U - e).toNat ≤ 2 * k * 2 ^ (U - e).toNat := Nat.mul_le_mul_right _ (by omega)
      generalize 2 ^ (U - e).toNat = T at *
      generalize m * 2 ^ (e - U).toNat = X at *
      omega
    · exact c
  have hkge : U = -149 ∨ 8388608 ≤ k := by
    rcases lo with c | c
    · exact Or.inl c
    · right
      rcases Nat.lt_or_ge k 8388608 with d | d
      · exfalso
        have : (2 * k + 1) * 2 ^ (U - e).toNat ≤ 16777215 * 2 ^ (U - e).toNat := Nat.mul_le_mul_right _ (by omega)
        generalize 2 ^ (U - e).toNat = T at *
        generalize m * 2 ^ (e - U).toNat = X at *
        omega
      · exact d
  refine ⟨?_, hkle, hkge, rfl, ?_⟩
  · rw [hn, hr, word_sgn]; rw [Int.natCast_add, Int.natCast_mul, Int.toNat_of_nonneg (by omega)]; omega
  · intro l
    rw [show (U - e).toNat = 0 by omega] at hcut
    have up := hcut.up
    have dn := hcut.dn
    have ue := hcut.ue
    have de := hcut.de
    have : k = m * 2 ^ (e - U).toNat := by
      generalize m * 2 ^ (e - U).toNat = X at *
      simp only [Nat.pow_zero, Nat.mul_one] at ue de up dn
      omega
    rw [this]; push_cast; rfl

set_option maxHeartbeats 1000000 in
theorem rround_any (s : Bool) (m : Int) (h0 : 0 ≤ m) (h1 : m < 18446744073709551616) (e : Int) (e0 : -10000 ≤ e) (e1 : e ≤ 10000) (w : World) :
    Calls Try.prog 49 #[.bool s, .int .u64 m, .int .i64 e] w fun x w' => x = .returned (.int .i64 (Ieee.single.nearest s m.toNat e : Nat)) ∧ w' = w := by
  have hs := sgn_lo s
  by_cases hz : m = 0
  · subst hz
    have hv : ((Ieee.single.nearest s (0 : Int).toNat e : Nat) : Int) = sgn s := by
      show ((Ieee.single.nearest s 0 e : Nat) : Int) = sgn s
      rw [show Ieee.single.nearest s 0 e = wd s 0 from by unfold Ieee.Format.nearest; rw [if_pos rfl]; rfl, word_sgn]; omega
    rw [hv]; clear hv
    go_enter Try.func49, Try.ntmps49
    go_wp2_with (go_at_call 48; refine (rzero_any _ _).mono ?_; rintro e w' ⟨rfl, rfl⟩)
    go_ret
    exact ⟨rfl, rfl⟩
  · obtain ⟨U, k, hU, hv, hk1, hk2, hk3, hk4⟩ := nearest_parts s m.toNat e (by omega)
    rw [hv]; clear hv
    have hB : 1 ≤ blen m.toNat ∧ blen m.toNat ≤ 64 := by
      unfold blen; rw [if_neg (by omega)]
      have : m.toNat.log2 < 64 := (Nat.log2_lt (by omega)).2 (by omega)
      omega
    generalize hBB : blen m.toNat = B at *
    have fh : e < U → ((Ieee.Toward.even.cut false m.toNat (U - e).toNat : Nat) : Int) = k := by
      intro l; rw [hk3, show (e - U).toNat = 0 by omega, Nat.pow_zero, Nat.mul_one]
    have fq : U ≤ e → IntKind.u64.wrap (m * 2 ^ (-(U - e)).toNat) = k := by
      intro l; have := hk4 l
      rw [show (-(U - e)).toNat = (e - U).toNat by omega, show m = (m.toNat : Int) by omega, ← this, IntKind.wrap_u64]; omega
    clear hk3 hk4
    have hUr : -149 ≤ U ∧ U ≤ 20000 := by omega
    have hK0 : 0 ≤ (k : Int) ∧ (k : Int) ≤ 16777216 ∧ (U = -149 ∨ 8388608 ≤ (k : Int)) := by omega
    clear hk1 hk2
    generalize hKK : (k : Int) = K at *
    clear hKK
    generalize hT : min ((U + 149) * 8388608 + K) 2139095040 = T
    have cases : (K = 16777216 ∧ U < 104 ∧ T = (U + 151) * 8388608) ∨ (K = 16777216 ∧ 104 ≤ U ∧ T = 2139095040) ∨ (U = -149 ∧ K < 8388608 ∧ T = K) ∨
        (8388608 ≤ K ∧ K < 16777216 ∧ U < 105 ∧ T = (U + 149) * 8388608 + K) ∨ (8388608 ≤ K ∧ K < 16777216 ∧ 105 ≤ U ∧ T = 2139095040) := by omega
    clear hT
    by_cases hu : -149 > e + (B : Int) - 24
    · have hU' : U = -149 := by omega
      clear hU
      subst hU'
      clear hUr
      by_cases hsh : -149 ≤ e
      · have fq' := fq hsh
        clear fq fh
        rcases cases with ⟨c1, c2, rfl⟩ | ⟨c1, c2, rfl⟩ | ⟨c1, c2, rfl⟩ | ⟨c1, c2, c3, rfl⟩ | ⟨c1, c2, c3, rfl⟩
        all_goals (
        go_enter Try.func49, Try.ntmps49
        go_wp2_with (first
          | (go_at_call 70; refine (rlength_any _ h0 h1 _).mono ?_; rintro e w' ⟨rfl, rfl⟩)
          | (go_at_call 71; refine (rhalved_any _ h0 h1 _ (by omega) (by omega) _).mono ?_; rintro e w' ⟨rfl, rfl⟩)
          | (go_at_call 69; refine (rsign_any _ _).mono ?_; rintro e w' ⟨rfl, rfl⟩)
          | (go_at_call 47; refine (rinf_any _ _).mono ?_; rintro e w' ⟨rfl, rfl⟩))
        all_goals (go_ret; exact ⟨ret_int (by omega), rfl⟩))
      · have fh' := fh (by omega)
        clear fq fh
        rcases cases with ⟨c1, c2, rfl⟩ | ⟨c1, c2, rfl⟩ | ⟨c1, c2, rfl⟩ | ⟨c1, c2, c3, rfl⟩ | ⟨c1, c2, c3, rfl⟩
        all_goals (
        go_enter Try.func49, Try.ntmps49
        go_wp2_with (first
          | (go_at_call 70; refine (rlength_any _ h0 h1 _).mono ?_; rintro e w' ⟨rfl, rfl⟩)
          | (go_at_call 71; refine (rhalved_any _ h0 h1 _ (by omega) (by omega) _).mono ?_; rintro e w' ⟨rfl, rfl⟩)
          | (go_at_call 69; refine (rsign_any _ _).mono ?_; rintro e w' ⟨rfl, rfl⟩)
          | (go_at_call 47; refine (rinf_any _ _).mono ?_; rintro e w' ⟨rfl, rfl⟩))
        all_goals (go_ret; exact ⟨ret_int (by omega), rfl⟩))
    · have hu2 : e + (B : Int) - 24 = U := by omega
      clear hU
      by_cases hsh : U ≤ e
      · have fq' := fq hsh
        clear fq fh
        rcases cases with ⟨c1, c2, rfl⟩ | ⟨c1, c2, rfl⟩ | ⟨rfl, c2, rfl⟩ | ⟨c1, c2, c3, rfl⟩ | ⟨c1, c2, c3, rfl⟩
        all_goals (
        go_enter Try.func49, Try.ntmps49
        go_wp2_with (first
          | (go_at_call 70; refine (rlength_any _ h0 h1 _).mono ?_; rintro e w' ⟨rfl, rfl⟩)
          | (go_at_call 71; refine (rhalved_any _ h0 h1 _ (by omega) (by omega) _).mono ?_; rintro e w' ⟨rfl, rfl⟩)
          | (go_at_call 69; refine (rsign_any _ _).mono ?_; rintro e w' ⟨rfl, rfl⟩)
          | (go_at_call 47; refine (rinf_any _ _).mono ?_; rintro e w' ⟨rfl, rfl⟩))
        all_goals (go_ret; exact ⟨ret_int (by omega), rfl⟩))
      · have fh' := fh (by omega)
        clear fq fh
        rcases cases with ⟨c1, c2, rfl⟩ | ⟨c1, c2, rfl⟩ | ⟨rfl, c2, rfl⟩ | ⟨c1, c2, c3, rfl⟩ | ⟨c1, c2, c3, rfl⟩
        all_goals (
        go_enter Try.func49, Try.ntmps49
        go_wp2_with (first
          | (go_at_call 70; refine (rlength_any _ h0 h1 _).mono ?_; rintro e w' ⟨rfl, rfl⟩)
          | (go_at_call 71; refine (rhalved_any _ h0 h1 _ (by omega) (by omega) _).mono ?_; rintro e w' ⟨rfl, rfl⟩)
          | (go_at_call 69; refine (rsign_any _ _).mono ?_; rintro e w' ⟨rfl, rfl⟩)
          | (go_at_call 47; refine (rinf_any _ _).mono ?_; rintro e w' ⟨rfl, rfl⟩))
        all_goals (go_ret; exact ⟨ret_int (by omega), rfl⟩))

end Go.Proofs.Ytnogokikiekcbaa
