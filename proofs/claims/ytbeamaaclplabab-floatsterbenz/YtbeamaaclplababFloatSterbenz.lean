import Derived.Test.YtbeamaaclplababSterbP
/- The walk of the statement FloatSterbenz. -/
namespace Go.Proofs.Ytbeamaaclplabab
open Go.RowKit
set_option linter.unusedVariables false

/-- Equal values, in units of a place that is not above any of theirs. -/
theorem units_eq (a b s : Int) (h0 : 0 ≤ a) (h1 : a < 4294967296) (g0 : 0 ≤ b) (g1 : b < 4294967296) (s0 : 0 ≤ s) (s1 : s < 4294967296) (hx : sv a.toNat + sv b.toNat = sv s.toNat) (low : Int) (l0 : -149 ≤ low) (l1 : low ≤ pE a) (l2 : low ≤ pE b) (l3 : low ≤ pE s) :
    pM a * 2 ^ (pE a - low).toNat + pM b * 2 ^ (pE b - low).toNat = pM s * 2 ^ (pE s - low).toNat := by
  have ea := pE_eq a h0 h1
  have eb := pE_eq b g0 g1
  have es := pE_eq s s0 s1
  rw [sv_parts a h0 h1, sv_parts b g0 g1, sv_parts s s0 s1] at hx
  obtain ⟨c, hc⟩ : ∃ c : Nat, (c : Int) = low + 149 := ⟨(low + 149).toNat, by omega⟩
  have hP : (2 : Int) ^ c ≠ 0 := by have : (0 : Int) < 2 ^ c := Int.pow_pos (by decide); omega
  apply Int.eq_of_mul_eq_mul_right hP
  rw [Int.add_mul, Int.mul_assoc, Int.mul_assoc, Int.mul_assoc, ← Int.pow_add, ← Int.pow_add, ← Int.pow_add, show (pE a - low).toNat + c = te a.toNat by omega, show (pE b - low).toNat + c = te b.toNat by omega, show (pE s - low).toNat + c = te s.toNat by omega]
  exact hx

def nearB (s a b : Int) : Bool := decide (pE a - pE b ≤ 36 ∧ pE b - pE a ≤ 36 ∧ pE a - pE s ≤ 36 ∧ pE s - pE a ≤ 36 ∧ pE b - pE s ≤ 36 ∧ pE s - pE b ≤ 36)

set_option maxHeartbeats 1000000 in
theorem exact_any (s a b : Int) (s0 : 0 ≤ s) (s1 : s < 4294967296) (h0 : 0 ≤ a) (h1 : a < 4294967296) (g0 : 0 ≤ b) (g1 : b < 4294967296) (hx : sv a.toNat + sv b.toNat = sv s.toNat) (w : World) :
    Calls Try.prog 25 #[.int .u32 s, .int .u32 a, .int .u32 b] w fun e w' => e = .returned (.tuple #[.bool (nearB s a b), .bool (nearB s a b)]) ∧ w' = w := by
  have ea := pE_lo a h0 h1
  have eb := pE_lo b g0 g1
  have es := pE_lo s s0 s1
  have ma := pM_lo a h0 h1
  have mb := pM_lo b g0 g1
  have ms := pM_lo s s0 s1
  unfold nearB
  by_cases near : pE a - pE b ≤ 36 ∧ pE b - pE a ≤ 36 ∧ pE a - pE s ≤ 36 ∧ pE s - pE a ≤ 36 ∧ pE b - pE s ≤ 36 ∧ pE s - pE b ≤ 36
  · rw [decide_eq_true near]
    rcases (show (pE a ≤ pE b ∧ pE a ≤ pE s) ∨ (pE b < pE a ∧ pE b ≤ pE s) ∨ (pE s < pE a ∧ pE s < pE b) by omega) with c | c | c
    · have hu := units_eq a b s h0 h1 g0 g1 s0 s1 hx (pE a) (by omega) (by omega) (by omega) (by omega)
      rw [show (pE a - pE a).toNat = 0 by omega, Int.pow_zero, Int.mul_one] at hu
      have bY := shl_lo (pM b) (pE b - pE a).toNat 0 (by omega) (by omega) (by omega)
      obtain ⟨Y, hY⟩ : ∃ Y : Int, pM b * 2 ^ (pE b - pE a).toNat = Y := ⟨_, rfl⟩
      rw [hY] at bY hu
      have fY : wrap64 (pM b * 2 ^ (pE b - pE a).toNat) = Y := by rw [hY]; unfold wrap64; omega
      have bZ := shl_lo (pM s) (pE s - pE a).toNat 0 (by omega) (by omega) (by omega)
      obtain ⟨Z, hZ⟩ : ∃ Z : Int, pM s * 2 ^ (pE s - pE a).toNat = Z := ⟨_, rfl⟩
      rw [hZ] at bZ hu
      have fZ : wrap64 (pM s * 2 ^ (pE s - pE a).toNat) = Z := by rw [hZ]; unfold wrap64; omega
      clear hY hZ
      go_enter Try.func25, Try.ntmps25
      go_wp2_with (go_at_call 26; refine (prt_any _ (by omega) (by omega) _).mono ?_; rintro e w' ⟨rfl, rfl⟩)
      all_goals (
        go_ret2
        exact ⟨rfl, rfl⟩)
    · have hu := units_eq a b s h0 h1 g0 g1 s0 s1 hx (pE b) (by omega) (by omega) (by omega) (by omega)
      rw [show (pE b - pE b).toNat = 0 by omega, Int.pow_zero, Int.mul_one] at hu
      have bX := shl_lo (pM a) (pE a - pE b).toNat 0 (by omega) (by omega) (by omega)
      obtain ⟨X, hX⟩ : ∃ X : Int, pM a * 2 ^ (pE a - pE b).toNat = X := ⟨_, rfl⟩
      rw [hX] at bX hu
      have fX : wrap64 (pM a * 2 ^ (pE a - pE b).toNat) = X := by rw [hX]; unfold wrap64; omega
      have bZ := shl_lo (pM s) (pE s - pE b).toNat 0 (by omega) (by omega) (by omega)
      obtain ⟨Z, hZ⟩ : ∃ Z : Int, pM s * 2 ^ (pE s - pE b).toNat = Z := ⟨_, rfl⟩
      rw [hZ] at bZ hu
      have fZ : wrap64 (pM s * 2 ^ (pE s - pE b).toNat) = Z := by rw [hZ]; unfold wrap64; omega
      clear hX hZ
      go_enter Try.func25, Try.ntmps25
      go_wp2_with (go_at_call 26; refine (prt_any _ (by omega) (by omega) _).mono ?_; rintro e w' ⟨rfl, rfl⟩)
      all_goals (
        go_ret2
        exact ⟨rfl, rfl⟩)
    · have hu := units_eq a b s h0 h1 g0 g1 s0 s1 hx (pE s) (by omega) (by omega) (by omega) (by omega)
      rw [show (pE s - pE s).toNat = 0 by omega, Int.pow_zero, Int.mul_one] at hu
      have bX := shl_lo (pM a) (pE a - pE s).toNat 0 (by omega) (by omega) (by omega)
      obtain ⟨X, hX⟩ : ∃ X : Int, pM a * 2 ^ (pE a - pE s).toNat = X := ⟨_, rfl⟩
      rw [hX] at bX hu
      have fX : wrap64 (pM a * 2 ^ (pE a - pE s).toNat) = X := by rw [hX]; unfold wrap64; omega
      have bY := shl_lo (pM b) (pE b - pE s).toNat 0 (by omega) (by omega) (by omega)
      obtain ⟨Y, hY⟩ : ∃ Y : Int, pM b * 2 ^ (pE b - pE s).toNat = Y := ⟨_, rfl⟩
      rw [hY] at bY hu
      have fY : wrap64 (pM b * 2 ^ (pE b - pE s).toNat) = Y := by rw [hY]; unfold wrap64; omega
      clear hX hY
      go_enter Try.func25, Try.ntmps25
      go_wp2_with (go_at_call 26; refine (prt_any _ (by omega) (by omega) _).mono ?_; rintro e w' ⟨rfl, rfl⟩)
      all_goals (
        go_ret2
        exact ⟨rfl, rfl⟩)
  · rw [decide_eq_false near]
    clear hx
    rcases (show (pE a ≤ pE b ∧ pE a ≤ pE s) ∨ (pE b < pE a ∧ pE b ≤ pE s) ∨ (pE s < pE a ∧ pE s < pE b) by omega) with c | c | c
    all_goals (
      go_enter Try.func25, Try.ntmps25
      go_wp2_with (go_at_call 26; refine (prt_any _ (by omega) (by omega) _).mono ?_; rintro e w' ⟨rfl, rfl⟩)
      all_goals (
        go_ret2
        exact ⟨rfl, rfl⟩))

theorem fabs_lo (a : Int) (h0 : 0 ≤ a) (h1 : a < 4294967296) : 0 ≤ fabs a ∧ fabs a < 4294967296 := canon_lo _ (by omega) (by omega)

set_option maxHeartbeats 1000000 in
theorem walk_FloatSterbenz (a : Int) (h0 : 0 ≤ a) (h1 : a < 4294967296) (b : Int) (g0 : 0 ≤ b) (g1 : b < 4294967296) (w : World) :
    Calls Try.prog 5 #[.int .u32 a, .int .u32 b] w fun e w' => e = .returned (.bool true) ∧ Below w.heap.size w w' := by
  have la := fabs_lo a h0 h1
  have lb := fabs_lo b g0 g1
  have l1 := fadd_lo (fabs a) (fabs a)
  have l2 := fadd_lo (fabs b) (fabs b)
  have l3 := fsub_lo a b
  cases fa : ffin a
  · skip
    go_enter Try.func5, Try.ntmps5
    go_wp2_with (first
      | (go_at_call 24; refine (n_any _ (by omega) (by omega) _).mono ?_; rintro e w' ⟨rfl, rfl⟩)
      | (go_at_call 16; refine (finite_any _ (by omega) (by omega) _).mono ?_; rintro e w' ⟨rfl, rfl⟩)
      | (go_at_call 22; refine (abs_any _ (by omega) (by omega) _).mono ?_; rintro e w' ⟨rfl, rfl⟩)
      | (go_at_call 20; refine (less_any _ (by omega) (by omega) _ (by omega) (by omega) _).mono ?_; rintro e w' ⟨rfl, rfl⟩)
      | (go_at_call 9; refine (add_any _ (by omega) (by omega) _ (by omega) (by omega) _).mono ?_; rintro e w1 ⟨rfl, hb1⟩)
      | (go_at_call 17; refine (sub_any _ (by omega) (by omega) _ (by omega) (by omega) _).mono ?_; rintro e w1 ⟨rfl, hb1⟩)
      | (go_at_call 18; refine (works_any _).mono ?_; rintro e w1 ⟨rfl, hb1⟩))
    all_goals (
      go_ret
      refine ⟨rfl, ?_⟩
      repeat (first | assumption | exact bel0 _ | refine bel ?_ (by assumption)))
  · cases fb : ffin b
    · skip
      go_enter Try.func5, Try.ntmps5
      go_wp2_with (first
        | (go_at_call 24; refine (n_any _ (by omega) (by omega) _).mono ?_; rintro e w' ⟨rfl, rfl⟩)
        | (go_at_call 16; refine (finite_any _ (by omega) (by omega) _).mono ?_; rintro e w' ⟨rfl, rfl⟩)
        | (go_at_call 22; refine (abs_any _ (by omega) (by omega) _).mono ?_; rintro e w' ⟨rfl, rfl⟩)
        | (go_at_call 20; refine (less_any _ (by omega) (by omega) _ (by omega) (by omega) _).mono ?_; rintro e w' ⟨rfl, rfl⟩)
        | (go_at_call 9; refine (add_any _ (by omega) (by omega) _ (by omega) (by omega) _).mono ?_; rintro e w1 ⟨rfl, hb1⟩)
        | (go_at_call 17; refine (sub_any _ (by omega) (by omega) _ (by omega) (by omega) _).mono ?_; rintro e w1 ⟨rfl, hb1⟩)
        | (go_at_call 18; refine (works_any _).mono ?_; rintro e w1 ⟨rfl, hb1⟩))
      all_goals (
        go_ret
        refine ⟨rfl, ?_⟩
        repeat (first | assumption | exact bel0 _ | refine bel ?_ (by assumption)))
    · by_cases hs : a / 2147483648 = b / 2147483648
      · cases c1 : fless (fadd (fabs a) (fabs a)) (fabs b)
        · cases c2 : fless (fadd (fabs b) (fabs b)) (fabs a)
          · obtain ⟨f1, f2⟩ := sterbenz a b h0 h1 g0 g1 fa fb hs c1 c2
            cases hq : nearB a (fsub a b) b
            · skip
              go_enter Try.func5, Try.ntmps5
              go_wp2_with (first
                | (go_at_call 24; refine (n_any _ (by omega) (by omega) _).mono ?_; rintro e w' ⟨rfl, rfl⟩)
                | (go_at_call 16; refine (finite_any _ (by omega) (by omega) _).mono ?_; rintro e w' ⟨rfl, rfl⟩)
                | (go_at_call 22; refine (abs_any _ (by omega) (by omega) _).mono ?_; rintro e w' ⟨rfl, rfl⟩)
                | (go_at_call 20; refine (less_any _ (by omega) (by omega) _ (by omega) (by omega) _).mono ?_; rintro e w' ⟨rfl, rfl⟩)
                | (go_at_call 9; refine (add_any _ (by omega) (by omega) _ (by omega) (by omega) _).mono ?_; rintro e w1 ⟨rfl, hb1⟩)
                | (go_at_call 17; refine (sub_any _ (by omega) (by omega) _ (by omega) (by omega) _).mono ?_; rintro e w1 ⟨rfl, hb1⟩)
                | (go_at_call 18; refine (works_any _).mono ?_; rintro e w1 ⟨rfl, hb1⟩)
                | (go_at_call 25; refine (exact_any _ _ _ (by omega) (by omega) (by omega) (by omega) (by omega) (by omega) (by assumption) _).mono ?_; rintro e w' ⟨rfl, rfl⟩))
              all_goals (
                go_ret
                refine ⟨rfl, ?_⟩
                repeat (first | assumption | exact bel0 _ | refine bel ?_ (by assumption)))
            · skip
              go_enter Try.func5, Try.ntmps5
              go_wp2_with (first
                | (go_at_call 24; refine (n_any _ (by omega) (by omega) _).mono ?_; rintro e w' ⟨rfl, rfl⟩)
                | (go_at_call 16; refine (finite_any _ (by omega) (by omega) _).mono ?_; rintro e w' ⟨rfl, rfl⟩)
                | (go_at_call 22; refine (abs_any _ (by omega) (by omega) _).mono ?_; rintro e w' ⟨rfl, rfl⟩)
                | (go_at_call 20; refine (less_any _ (by omega) (by omega) _ (by omega) (by omega) _).mono ?_; rintro e w' ⟨rfl, rfl⟩)
                | (go_at_call 9; refine (add_any _ (by omega) (by omega) _ (by omega) (by omega) _).mono ?_; rintro e w1 ⟨rfl, hb1⟩)
                | (go_at_call 17; refine (sub_any _ (by omega) (by omega) _ (by omega) (by omega) _).mono ?_; rintro e w1 ⟨rfl, hb1⟩)
                | (go_at_call 18; refine (works_any _).mono ?_; rintro e w1 ⟨rfl, hb1⟩)
                | (go_at_call 25; refine (exact_any _ _ _ (by omega) (by omega) (by omega) (by omega) (by omega) (by omega) (by assumption) _).mono ?_; rintro e w' ⟨rfl, rfl⟩))
              all_goals (
                go_ret
                refine ⟨rfl, ?_⟩
                repeat (first | assumption | exact bel0 _ | refine bel ?_ (by assumption)))
          · skip
            go_enter Try.func5, Try.ntmps5
            go_wp2_with (first
              | (go_at_call 24; refine (n_any _ (by omega) (by omega) _).mono ?_; rintro e w' ⟨rfl, rfl⟩)
              | (go_at_call 16; refine (finite_any _ (by omega) (by omega) _).mono ?_; rintro e w' ⟨rfl, rfl⟩)
              | (go_at_call 22; refine (abs_any _ (by omega) (by omega) _).mono ?_; rintro e w' ⟨rfl, rfl⟩)
              | (go_at_call 20; refine (less_any _ (by omega) (by omega) _ (by omega) (by omega) _).mono ?_; rintro e w' ⟨rfl, rfl⟩)
              | (go_at_call 9; refine (add_any _ (by omega) (by omega) _ (by omega) (by omega) _).mono ?_; rintro e w1 ⟨rfl, hb1⟩)
              | (go_at_call 17; refine (sub_any _ (by omega) (by omega) _ (by omega) (by omega) _).mono ?_; rintro e w1 ⟨rfl, hb1⟩)
              | (go_at_call 18; refine (works_any _).mono ?_; rintro e w1 ⟨rfl, hb1⟩))
            all_goals (
              go_ret
              refine ⟨rfl, ?_⟩
              repeat (first | assumption | exact bel0 _ | refine bel ?_ (by assumption)))
        · skip
          go_enter Try.func5, Try.ntmps5
          go_wp2_with (first
            | (go_at_call 24; refine (n_any _ (by omega) (by omega) _).mono ?_; rintro e w' ⟨rfl, rfl⟩)
            | (go_at_call 16; refine (finite_any _ (by omega) (by omega) _).mono ?_; rintro e w' ⟨rfl, rfl⟩)
            | (go_at_call 22; refine (abs_any _ (by omega) (by omega) _).mono ?_; rintro e w' ⟨rfl, rfl⟩)
            | (go_at_call 20; refine (less_any _ (by omega) (by omega) _ (by omega) (by omega) _).mono ?_; rintro e w' ⟨rfl, rfl⟩)
            | (go_at_call 9; refine (add_any _ (by omega) (by omega) _ (by omega) (by omega) _).mono ?_; rintro e w1 ⟨rfl, hb1⟩)
            | (go_at_call 17; refine (sub_any _ (by omega) (by omega) _ (by omega) (by omega) _).mono ?_; rintro e w1 ⟨rfl, hb1⟩)
            | (go_at_call 18; refine (works_any _).mono ?_; rintro e w1 ⟨rfl, hb1⟩))
          all_goals (
            go_ret
            refine ⟨rfl, ?_⟩
            repeat (first | assumption | exact bel0 _ | refine bel ?_ (by assumption)))
      · skip
        go_enter Try.func5, Try.ntmps5
        go_wp2_with (first
          | (go_at_call 24; refine (n_any _ (by omega) (by omega) _).mono ?_; rintro e w' ⟨rfl, rfl⟩)
          | (go_at_call 16; refine (finite_any _ (by omega) (by omega) _).mono ?_; rintro e w' ⟨rfl, rfl⟩)
          | (go_at_call 22; refine (abs_any _ (by omega) (by omega) _).mono ?_; rintro e w' ⟨rfl, rfl⟩)
          | (go_at_call 20; refine (less_any _ (by omega) (by omega) _ (by omega) (by omega) _).mono ?_; rintro e w' ⟨rfl, rfl⟩)
          | (go_at_call 9; refine (add_any _ (by omega) (by omega) _ (by omega) (by omega) _).mono ?_; rintro e w1 ⟨rfl, hb1⟩)
          | (go_at_call 17; refine (sub_any _ (by omega) (by omega) _ (by omega) (by omega) _).mono ?_; rintro e w1 ⟨rfl, hb1⟩)
          | (go_at_call 18; refine (works_any _).mono ?_; rintro e w1 ⟨rfl, hb1⟩))
        all_goals (
          go_ret
          refine ⟨rfl, ?_⟩
          repeat (first | assumption | exact bel0 _ | refine bel ?_ (by assumption)))

end Go.Proofs.Ytbeamaaclplabab
