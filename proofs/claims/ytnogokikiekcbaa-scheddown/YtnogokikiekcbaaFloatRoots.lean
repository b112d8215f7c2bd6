import Derived.Test.YtnogokikiekcbaaRefSqrt
/- The walk of the statement FloatRoots. -/
namespace Go.Proofs.Ytnogokikiekcbaa
open Go.RowKit
set_option linter.unusedVariables false

set_option maxHeartbeats 1000000 in
theorem rsqrt_any (a : Int) (h0 : 0 ≤ a) (h1 : a < 4294967296) (w : World) :
    Calls Try.prog 63 #[.int .i64 a] w fun e w' => e = .returned (.int .i64 (fsqrt a)) ∧ Below w.heap.size w w' := by
  cases hna : nNan a
  · cases hia : nInf a
    · by_cases za : nM a = 0
      · obtain ⟨ra, a1, a2, a3, a4, a5⟩ := ref_fin a h0 h1 hia hna
        have hv : fsqrt a = a := by
          rw [fsqrt_eq a ra, za]
          have e : ((Ieee.single.nearest (nMin a) 0 (nE a) : Nat) : Int) = sgn (nMin a) := near_zero _ _
          show ((Ieee.single.nearest (nMin a) 0 (nE a) : Nat) : Int) = a
          rw [e]
          have h2 := ref_mg a h0 h1 hia hna
          have h3 := toNat_parts a h0 h1
          have h4 : rg a.toNat = 0 := by
            have : mg a.toNat = 0 := by omega
            unfold mg at this; split at this <;> omega
          rw [h2.2.1, h4] at h3
          unfold sgn; omega
        rw [hv]; clear hv ra a5
        go_enter Try.func63, Try.ntmps63
        go_wp2_with (go_at_call 44; refine (rof_any _ (by omega) (by omega) _).mono ?_; rintro e w' ⟨rfl, o, rfl⟩)
        go_ret
        exact ⟨rfl, by go_grown⟩
      · cases hs : nMin a
        · exact rsqrt_pos a h0 h1 hia hna za hs w
        · obtain ⟨ra, a1, a2, a3, a4, a5⟩ := ref_fin a h0 h1 hia hna
          have hv : fsqrt a = 2143289344 := by
            rw [fsqrt_eq a ra, hs]
            have : (nM a).toNat ≠ 0 := by omega
            simp only [Ieee.Datum.root, if_neg this, if_true]; rfl
          rw [hv]; clear hv ra a5
          go_enter Try.func63, Try.ntmps63
          go_wp2_with (go_at_call 44; refine (rof_any _ (by omega) (by omega) _).mono ?_; rintro e w' ⟨rfl, o, rfl⟩)
          go_ret
          exact ⟨rfl, by go_grown⟩
    · obtain ⟨ra, -, a1⟩ := ref_inf a h0 h1 hia
      cases hs : nMin a
      · have hv : fsqrt a = a := by
          rw [fsqrt_eq a ra, hs]
          have h2 : rg a.toNat = 2139095040 := by
            rcases Nat.lt_trichotomy (rg a.toNat) 2139095040 with c | c | c
            · rw [read_fin _ c] at ra; cases ra
            · exact c
            · rw [read_nan _ c] at ra; cases ra
          have h3 := toNat_parts a h0 h1
          rw [← nMin_ng a h0 h1, hs, h2] at h3
          show ((Ieee.single.write (.infinity false) : Nat) : Int) = a
          rw [write_inf]; unfold sgn; omega
        rw [hv]; clear hv ra
        go_enter Try.func63, Try.ntmps63
        go_wp2_with (go_at_call 44; refine (rof_any _ (by omega) (by omega) _).mono ?_; rintro e w' ⟨rfl, o, rfl⟩)
        go_ret
        exact ⟨rfl, by go_grown⟩
      · have hv : fsqrt a = 2143289344 := by rw [fsqrt_eq a ra, hs]; rfl
        rw [hv]; clear hv ra
        go_enter Try.func63, Try.ntmps63
        go_wp2_with (go_at_call 44; refine (rof_any _ (by omega) (by omega) _).mono ?_; rintro e w' ⟨rfl, o, rfl⟩)
        go_ret
        exact ⟨rfl, by go_grown⟩
  · have hv : fsqrt a = 2143289344 := by
      obtain ⟨s, t, e⟩ := ref_nan a h0 h1 hna
      rw [fsqrt_eq a e]; rfl
    rw [hv]; clear hv
    go_enter Try.func63, Try.ntmps63
    go_wp2_with (go_at_call 44; refine (rof_any _ (by omega) (by omega) _).mono ?_; rintro e w' ⟨rfl, o, rfl⟩)
    go_ret
    exact ⟨rfl, by go_grown⟩

theorem fabs_lo (a : Int) (h0 : 0 ≤ a) (h1 : a < 4294967296) : 0 ≤ fabs a ∧ fabs a < 4294967296 := canon_lo _ (by omega) (by omega)

end Go.Proofs.Ytnogokikiekcbaa
