import Derived.Test.YtbeamaaclplabacNearDivP
/- The walks of the statements FloatNearDiv and FloatNearRoot. -/
namespace Go.Proofs.Ytbeamaaclplabac
open Go.RowKit
set_option linter.unusedVariables false

theorem prod_lo (m n : Int) (h1 : -16777216 < m) (h2 : m < 16777216) (h3 : -16777216 < n) (h4 : n < 16777216) : -281474976710656 ≤ m * n ∧ m * n ≤ 281474976710656 := by
  have key : (m * n).natAbs ≤ 16777216 * 16777216 := by
    rw [Int.natAbs_mul]; exact Nat.mul_le_mul (by omega) (by omega)
  omega

set_option maxHeartbeats 1000000 in
theorem walk_NearDiv_main (a : Int) (h0 : 0 ≤ a) (h1 : a < 4294967296) (b : Int) (g0 : 0 ≤ b) (g1 : b < 4294967296) (fa : ffin a = true) (fb : ffin b = true) (fz : ffin (fdiv a b) = true) (kb : pM b ≠ 0) (s0 : 0 ≤ pE a - pE b - pE (fdiv a b)) (s1 : pE a - pE b - pE (fdiv a b) ≤ 36) (w : World) :
    Calls Try.prog 3 #[.int .u32 a, .int .u32 b] w fun e w' => e = .returned (.bool true) ∧ Below w.heap.size w w' := by
  have lz := fdiv_lo a b
  have ea := pE_lo a h0 h1
  have eb := pE_lo b g0 g1
  have ez := pE_lo (fdiv a b) lz.1 lz.2
  have ma := pM_lo a h0 h1
  have mb := pM_lo b g0 g1
  have mz := pM_lo (fdiv a b) lz.1 lz.2
  obtain ⟨s, hs⟩ : ∃ s : Nat, (s : Int) = pE a - pE b - pE (fdiv a b) := ⟨_, Int.toNat_of_nonneg s0⟩
  obtain ⟨X, Y, K, hneg, hpos, hK, hnear⟩ := div_near a b h0 h1 g0 g1 fa fb fz kb s hs
  have hS : pE a - pE b - pE (fdiv a b) = (s : Int) := hs.symm
  have hs36 : s ≤ 36 := by omega
  clear hs
  have hpar : pM (fdiv a b) % 2 = 0 → (pM (fdiv a b)).tmod 2 = 0 := by intro q; rw [Int.tmod_eq_emod]; split <;> omega
  rcases Int.lt_trichotomy (pM b) 0 with c | c | c
  · obtain ⟨hX, hY, hKK⟩ := hneg c
    have bX := shl_lo (-pM a) s 0 (by omega) (by omega) hs36
    have bY := prod_lo (pM (fdiv a b)) (-pM b) (by omega) (by omega) (by omega) (by omega)
    rw [← hX] at bX
    rw [← hY] at bY
    have f1 : wrap64 (-pM a * 2 ^ s) = X := by rw [← hX]; unfold wrap64; omega
    have f2 : wrap64 (pM (fdiv a b) * K) = Y := by rw [hKK, ← hY]; unfold wrap64; omega
    have hKb : -pM b = K := hKK.symm
    clear hneg hpos hX hY hKK
    · skip
      by_cases sg : X - Y < 0
      · rcases hnear with q | ⟨q, q2⟩
        · have hlt : 2 * -(X - Y) < K := by omega
          clear q hpar
          go_enter Try.func3, Try.ntmps3
          go_wp2_with (first
            | (go_at_call 5; refine (div_any _ (by omega) (by omega) _ (by omega) (by omega) _).mono ?_; rintro e w1 ⟨rfl, hb1⟩)
            | (go_at_call 6; refine (prt_any _ (by omega) (by omega) _).mono ?_; rintro e w' ⟨rfl, rfl⟩)
            | (go_at_call 7; refine (finite_any _ (by omega) (by omega) _).mono ?_; rintro e w' ⟨rfl, rfl⟩)
            | (go_at_call 8; refine (works_any _).mono ?_; rintro e w1 ⟨rfl, hb1⟩))
          all_goals (
            go_ret
            refine ⟨rfl, ?_⟩
            repeat (first | assumption | exact bel0 _ | refine bel ?_ (by assumption)))
        · have heq : 2 * -(X - Y) = K := by omega
          have hmt := hpar q2
          clear q hpar
          go_enter Try.func3, Try.ntmps3
          go_wp2_with (first
            | (go_at_call 5; refine (div_any _ (by omega) (by omega) _ (by omega) (by omega) _).mono ?_; rintro e w1 ⟨rfl, hb1⟩)
            | (go_at_call 6; refine (prt_any _ (by omega) (by omega) _).mono ?_; rintro e w' ⟨rfl, rfl⟩)
            | (go_at_call 7; refine (finite_any _ (by omega) (by omega) _).mono ?_; rintro e w' ⟨rfl, rfl⟩)
            | (go_at_call 8; refine (works_any _).mono ?_; rintro e w1 ⟨rfl, hb1⟩))
          all_goals (
            go_ret
            refine ⟨rfl, ?_⟩
            repeat (first | assumption | exact bel0 _ | refine bel ?_ (by assumption)))
      · rcases hnear with q | ⟨q, q2⟩
        · have hlt : 2 * (X - Y) < K := by omega
          clear q hpar
          go_enter Try.func3, Try.ntmps3
          go_wp2_with (first
            | (go_at_call 5; refine (div_any _ (by omega) (by omega) _ (by omega) (by omega) _).mono ?_; rintro e w1 ⟨rfl, hb1⟩)
            | (go_at_call 6; refine (prt_any _ (by omega) (by omega) _).mono ?_; rintro e w' ⟨rfl, rfl⟩)
            | (go_at_call 7; refine (finite_any _ (by omega) (by omega) _).mono ?_; rintro e w' ⟨rfl, rfl⟩)
            | (go_at_call 8; refine (works_any _).mono ?_; rintro e w1 ⟨rfl, hb1⟩))
          all_goals (
            go_ret
            refine ⟨rfl, ?_⟩
            repeat (first | assumption | exact bel0 _ | refine bel ?_ (by assumption)))
        · have heq : 2 * (X - Y) = K := by omega
          have hmt := hpar q2
          clear q hpar
          go_enter Try.func3, Try.ntmps3
          go_wp2_with (first
            | (go_at_call 5; refine (div_any _ (by omega) (by omega) _ (by omega) (by omega) _).mono ?_; rintro e w1 ⟨rfl, hb1⟩)
            | (go_at_call 6; refine (prt_any _ (by omega) (by omega) _).mono ?_; rintro e w' ⟨rfl, rfl⟩)
            | (go_at_call 7; refine (finite_any _ (by omega) (by omega) _).mono ?_; rintro e w' ⟨rfl, rfl⟩)
            | (go_at_call 8; refine (works_any _).mono ?_; rintro e w1 ⟨rfl, hb1⟩))
          all_goals (
            go_ret
            refine ⟨rfl, ?_⟩
            repeat (first | assumption | exact bel0 _ | refine bel ?_ (by assumption)))
  · exact absurd c kb
  · obtain ⟨hX, hY, hKK⟩ := hpos c
    have bX := shl_lo (pM a) s 0 (by omega) (by omega) hs36
    have bY := prod_lo (pM (fdiv a b)) (pM b) (by omega) (by omega) (by omega) (by omega)
    rw [← hX] at bX
    rw [← hY] at bY
    have f1 : wrap64 (pM a * 2 ^ s) = X := by rw [← hX]; unfold wrap64; omega
    have f2 : wrap64 (pM (fdiv a b) * pM b) = Y := by rw [← hY]; unfold wrap64; omega
    rw [hKK] at hnear
    clear hneg hpos hX hY hKK hK
    · skip
      by_cases sg : X - Y < 0
      · rcases hnear with q | ⟨q, q2⟩
        · have hlt : 2 * -(X - Y) < pM b := by omega
          clear q hpar
          go_enter Try.func3, Try.ntmps3
          go_wp2_with (first
            | (go_at_call 5; refine (div_any _ (by omega) (by omega) _ (by omega) (by omega) _).mono ?_; rintro e w1 ⟨rfl, hb1⟩)
            | (go_at_call 6; refine (prt_any _ (by omega) (by omega) _).mono ?_; rintro e w' ⟨rfl, rfl⟩)
            | (go_at_call 7; refine (finite_any _ (by omega) (by omega) _).mono ?_; rintro e w' ⟨rfl, rfl⟩)
            | (go_at_call 8; refine (works_any _).mono ?_; rintro e w1 ⟨rfl, hb1⟩))
          all_goals (
            go_ret
            refine ⟨rfl, ?_⟩
            repeat (first | assumption | exact bel0 _ | refine bel ?_ (by assumption)))
        · have heq : 2 * -(X - Y) = pM b := by omega
          have hmt := hpar q2
          clear q hpar
          go_enter Try.func3, Try.ntmps3
          go_wp2_with (first
            | (go_at_call 5; refine (div_any _ (by omega) (by omega) _ (by omega) (by omega) _).mono ?_; rintro e w1 ⟨rfl, hb1⟩)
            | (go_at_call 6; refine (prt_any _ (by omega) (by omega) _).mono ?_; rintro e w' ⟨rfl, rfl⟩)
            | (go_at_call 7; refine (finite_any _ (by omega) (by omega) _).mono ?_; rintro e w' ⟨rfl, rfl⟩)
            | (go_at_call 8; refine (works_any _).mono ?_; rintro e w1 ⟨rfl, hb1⟩))
          all_goals (
            go_ret
            refine ⟨rfl, ?_⟩
            repeat (first | assumption | exact bel0 _ | refine bel ?_ (by assumption)))
      · rcases hnear with q | ⟨q, q2⟩
        · have hlt : 2 * (X - Y) < pM b := by omega
          clear q hpar
          go_enter Try.func3, Try.ntmps3
          go_wp2_with (first
            | (go_at_call 5; refine (div_any _ (by omega) (by omega) _ (by omega) (by omega) _).mono ?_; rintro e w1 ⟨rfl, hb1⟩)
            | (go_at_call 6; refine (prt_any _ (by omega) (by omega) _).mono ?_; rintro e w' ⟨rfl, rfl⟩)
            | (go_at_call 7; refine (finite_any _ (by omega) (by omega) _).mono ?_; rintro e w' ⟨rfl, rfl⟩)
            | (go_at_call 8; refine (works_any _).mono ?_; rintro e w1 ⟨rfl, hb1⟩))
          all_goals (
            go_ret
            refine ⟨rfl, ?_⟩
            repeat (first | assumption | exact bel0 _ | refine bel ?_ (by assumption)))
        · have heq : 2 * (X - Y) = pM b := by omega
          have hmt := hpar q2
          clear q hpar
          go_enter Try.func3, Try.ntmps3
          go_wp2_with (first
            | (go_at_call 5; refine (div_any _ (by omega) (by omega) _ (by omega) (by omega) _).mono ?_; rintro e w1 ⟨rfl, hb1⟩)
            | (go_at_call 6; refine (prt_any _ (by omega) (by omega) _).mono ?_; rintro e w' ⟨rfl, rfl⟩)
            | (go_at_call 7; refine (finite_any _ (by omega) (by omega) _).mono ?_; rintro e w' ⟨rfl, rfl⟩)
            | (go_at_call 8; refine (works_any _).mono ?_; rintro e w1 ⟨rfl, hb1⟩))
          all_goals (
            go_ret
            refine ⟨rfl, ?_⟩
            repeat (first | assumption | exact bel0 _ | refine bel ?_ (by assumption)))

set_option maxHeartbeats 1000000 in
theorem walk_FloatNearDiv (a : Int) (h0 : 0 ≤ a) (h1 : a < 4294967296) (b : Int) (g0 : 0 ≤ b) (g1 : b < 4294967296) (w : World) :
    Calls Try.prog 3 #[.int .u32 a, .int .u32 b] w fun e w' => e = .returned (.bool true) ∧ Below w.heap.size w w' := by
  have lz := fdiv_lo a b
  have ea := pE_lo a h0 h1
  have eb := pE_lo b g0 g1
  have ez := pE_lo (fdiv a b) lz.1 lz.2
  have ma := pM_lo a h0 h1
  have mb := pM_lo b g0 g1
  have mz := pM_lo (fdiv a b) lz.1 lz.2
  by_cases fa : ffin a = true
  · by_cases fb : ffin b = true
    · by_cases fz : ffin (fdiv a b) = true
      · by_cases kb : pM b = 0
        · skip
          go_enter Try.func3, Try.ntmps3
          go_wp2_with (first
            | (go_at_call 5; refine (div_any _ (by omega) (by omega) _ (by omega) (by omega) _).mono ?_; rintro e w1 ⟨rfl, hb1⟩)
            | (go_at_call 6; refine (prt_any _ (by omega) (by omega) _).mono ?_; rintro e w' ⟨rfl, rfl⟩)
            | (go_at_call 7; refine (finite_any _ (by omega) (by omega) _).mono ?_; rintro e w' ⟨rfl, rfl⟩)
            | (go_at_call 8; refine (works_any _).mono ?_; rintro e w1 ⟨rfl, hb1⟩))
          all_goals (
            go_ret
            refine ⟨rfl, ?_⟩
            repeat (first | assumption | exact bel0 _ | refine bel ?_ (by assumption)))
        · by_cases s0 : 0 ≤ pE a - pE b - pE (fdiv a b)
          · by_cases s1 : pE a - pE b - pE (fdiv a b) ≤ 36
            · exact walk_NearDiv_main a h0 h1 b g0 g1 fa fb fz kb s0 s1 w
            · skip
              go_enter Try.func3, Try.ntmps3
              go_wp2_with (first
                | (go_at_call 5; refine (div_any _ (by omega) (by omega) _ (by omega) (by omega) _).mono ?_; rintro e w1 ⟨rfl, hb1⟩)
                | (go_at_call 6; refine (prt_any _ (by omega) (by omega) _).mono ?_; rintro e w' ⟨rfl, rfl⟩)
                | (go_at_call 7; refine (finite_any _ (by omega) (by omega) _).mono ?_; rintro e w' ⟨rfl, rfl⟩)
                | (go_at_call 8; refine (works_any _).mono ?_; rintro e w1 ⟨rfl, hb1⟩))
              all_goals (
                go_ret
                refine ⟨rfl, ?_⟩
                repeat (first | assumption | exact bel0 _ | refine bel ?_ (by assumption)))
          · skip
            go_enter Try.func3, Try.ntmps3
            go_wp2_with (first
              | (go_at_call 5; refine (div_any _ (by omega) (by omega) _ (by omega) (by omega) _).mono ?_; rintro e w1 ⟨rfl, hb1⟩)
              | (go_at_call 6; refine (prt_any _ (by omega) (by omega) _).mono ?_; rintro e w' ⟨rfl, rfl⟩)
              | (go_at_call 7; refine (finite_any _ (by omega) (by omega) _).mono ?_; rintro e w' ⟨rfl, rfl⟩)
              | (go_at_call 8; refine (works_any _).mono ?_; rintro e w1 ⟨rfl, hb1⟩))
            all_goals (
              go_ret
              refine ⟨rfl, ?_⟩
              repeat (first | assumption | exact bel0 _ | refine bel ?_ (by assumption)))
      · have fz' : ffin (fdiv a b) = false := by simpa using fz
        clear fz
        go_enter Try.func3, Try.ntmps3
        go_wp2_with (first
          | (go_at_call 5; refine (div_any _ (by omega) (by omega) _ (by omega) (by omega) _).mono ?_; rintro e w1 ⟨rfl, hb1⟩)
          | (go_at_call 6; refine (prt_any _ (by omega) (by omega) _).mono ?_; rintro e w' ⟨rfl, rfl⟩)
          | (go_at_call 7; refine (finite_any _ (by omega) (by omega) _).mono ?_; rintro e w' ⟨rfl, rfl⟩)
          | (go_at_call 8; refine (works_any _).mono ?_; rintro e w1 ⟨rfl, hb1⟩))
        all_goals (
          go_ret
          refine ⟨rfl, ?_⟩
          repeat (first | assumption | exact bel0 _ | refine bel ?_ (by assumption)))
    · have fb' : ffin b = false := by simpa using fb
      clear fb
      go_enter Try.func3, Try.ntmps3
      go_wp2_with (first
        | (go_at_call 5; refine (div_any _ (by omega) (by omega) _ (by omega) (by omega) _).mono ?_; rintro e w1 ⟨rfl, hb1⟩)
        | (go_at_call 6; refine (prt_any _ (by omega) (by omega) _).mono ?_; rintro e w' ⟨rfl, rfl⟩)
        | (go_at_call 7; refine (finite_any _ (by omega) (by omega) _).mono ?_; rintro e w' ⟨rfl, rfl⟩)
        | (go_at_call 8; refine (works_any _).mono ?_; rintro e w1 ⟨rfl, hb1⟩))
      all_goals (
        go_ret
        refine ⟨rfl, ?_⟩
        repeat (first | assumption | exact bel0 _ | refine bel ?_ (by assumption)))
  · have fa' : ffin a = false := by simpa using fa
    clear fa
    go_enter Try.func3, Try.ntmps3
    go_wp2_with (first
      | (go_at_call 5; refine (div_any _ (by omega) (by omega) _ (by omega) (by omega) _).mono ?_; rintro e w1 ⟨rfl, hb1⟩)
      | (go_at_call 6; refine (prt_any _ (by omega) (by omega) _).mono ?_; rintro e w' ⟨rfl, rfl⟩)
      | (go_at_call 7; refine (finite_any _ (by omega) (by omega) _).mono ?_; rintro e w' ⟨rfl, rfl⟩)
      | (go_at_call 8; refine (works_any _).mono ?_; rintro e w1 ⟨rfl, hb1⟩))
    all_goals (
      go_ret
      refine ⟨rfl, ?_⟩
      repeat (first | assumption | exact bel0 _ | refine bel ?_ (by assumption)))

set_option maxHeartbeats 1000000 in
theorem walk_FloatNearRoot (a : Int) (h0 : 0 ≤ a) (h1 : a < 4294967296) (w : World) :
    Calls Try.prog 4 #[.int .u32 a] w fun e w' => e = .returned (.bool true) ∧ Below w.heap.size w w' := by
  have lz := fsqrt_lo a
  have ea := pE_lo a h0 h1
  have ez := pE_lo (fsqrt a) lz.1 lz.2
  have ma := pM_lo a h0 h1
  have mz := pM_lo (fsqrt a) lz.1 lz.2
  by_cases fa : ffin a = true
  · by_cases ka : 0 < pM a
    · by_cases s0 : 0 ≤ pE a - 2 * pE (fsqrt a) + 2
      · by_cases s1 : pE a - 2 * pE (fsqrt a) + 2 ≤ 36
        · obtain ⟨s, hs⟩ : ∃ s : Nat, (s : Int) = pE a - 2 * pE (fsqrt a) + 2 := ⟨_, Int.toNat_of_nonneg s0⟩
          obtain ⟨q1, q2, q3⟩ := root_near a h0 h1 fa ka s hs
          have hS : pE a - 2 * pE (fsqrt a) + 2 = (s : Int) := hs.symm
          have hs36 : s ≤ 36 := by omega
          clear hs
          have bX := shl_lo (pM a) s 0 (by omega) (by omega) hs36
          obtain ⟨X, hX⟩ : ∃ X : Int, pM a * 2 ^ s = X := ⟨_, rfl⟩
          rw [hX] at q1 q2 bX
          have f1 : wrap64 (pM a * 2 ^ s) = X := by rw [hX]; unfold wrap64; omega
          obtain ⟨L, hL⟩ : ∃ L : Int, (2 * pM (fsqrt a) - 1) * (2 * pM (fsqrt a) - 1) = L := ⟨_, rfl⟩
          obtain ⟨U, hU⟩ : ∃ U : Int, (2 * pM (fsqrt a) + 1) * (2 * pM (fsqrt a) + 1) = U := ⟨_, rfl⟩
          rw [hL] at q1
          rw [hU] at q2
          have bU : U ≤ 33554433 * 33554433 := by rw [← hU]; exact Int.mul_le_mul (by omega) (by omega) (by omega) (by omega)
          have bL : 0 ≤ L := by rw [← hL]; exact Int.mul_nonneg (by omega) (by omega)
          have f2 : wrap64 ((2 * pM (fsqrt a) - 1) * (2 * pM (fsqrt a) - 1)) = L := by rw [hL]; unfold wrap64; omega
          have f3 : wrap64 ((2 * pM (fsqrt a) + 1) * (2 * pM (fsqrt a) + 1)) = U := by rw [hU]; unfold wrap64; omega
          clear hX hL hU
          go_enter Try.func4, Try.ntmps4
          go_wp2_with (first
            | (go_at_call 9; refine (sqrt_any _ (by omega) (by omega) _).mono ?_; rintro e w1 ⟨rfl, hb1⟩)
            | (go_at_call 6; refine (prt_any _ (by omega) (by omega) _).mono ?_; rintro e w' ⟨rfl, rfl⟩)
            | (go_at_call 7; refine (finite_any _ (by omega) (by omega) _).mono ?_; rintro e w' ⟨rfl, rfl⟩)
            | (go_at_call 8; refine (works_any _).mono ?_; rintro e w1 ⟨rfl, hb1⟩))
          all_goals (
            go_ret
            refine ⟨rfl, ?_⟩
            repeat (first | assumption | exact bel0 _ | refine bel ?_ (by assumption)))
        · skip
          go_enter Try.func4, Try.ntmps4
          go_wp2_with (first
            | (go_at_call 9; refine (sqrt_any _ (by omega) (by omega) _).mono ?_; rintro e w1 ⟨rfl, hb1⟩)
            | (go_at_call 6; refine (prt_any _ (by omega) (by omega) _).mono ?_; rintro e w' ⟨rfl, rfl⟩)
            | (go_at_call 7; refine (finite_any _ (by omega) (by omega) _).mono ?_; rintro e w' ⟨rfl, rfl⟩)
            | (go_at_call 8; refine (works_any _).mono ?_; rintro e w1 ⟨rfl, hb1⟩))
          all_goals (
            go_ret
            refine ⟨rfl, ?_⟩
            repeat (first | assumption | exact bel0 _ | refine bel ?_ (by assumption)))
      · skip
        go_enter Try.func4, Try.ntmps4
        go_wp2_with (first
          | (go_at_call 9; refine (sqrt_any _ (by omega) (by omega) _).mono ?_; rintro e w1 ⟨rfl, hb1⟩)
          | (go_at_call 6; refine (prt_any _ (by omega) (by omega) _).mono ?_; rintro e w' ⟨rfl, rfl⟩)
          | (go_at_call 7; refine (finite_any _ (by omega) (by omega) _).mono ?_; rintro e w' ⟨rfl, rfl⟩)
          | (go_at_call 8; refine (works_any _).mono ?_; rintro e w1 ⟨rfl, hb1⟩))
        all_goals (
          go_ret
          refine ⟨rfl, ?_⟩
          repeat (first | assumption | exact bel0 _ | refine bel ?_ (by assumption)))
    · skip
      go_enter Try.func4, Try.ntmps4
      go_wp2_with (first
        | (go_at_call 9; refine (sqrt_any _ (by omega) (by omega) _).mono ?_; rintro e w1 ⟨rfl, hb1⟩)
        | (go_at_call 6; refine (prt_any _ (by omega) (by omega) _).mono ?_; rintro e w' ⟨rfl, rfl⟩)
        | (go_at_call 7; refine (finite_any _ (by omega) (by omega) _).mono ?_; rintro e w' ⟨rfl, rfl⟩)
        | (go_at_call 8; refine (works_any _).mono ?_; rintro e w1 ⟨rfl, hb1⟩))
      all_goals (
        go_ret
        refine ⟨rfl, ?_⟩
        repeat (first | assumption | exact bel0 _ | refine bel ?_ (by assumption)))
  · have fa' : ffin a = false := by simpa using fa
    clear fa
    go_enter Try.func4, Try.ntmps4
    go_wp2_with (first
      | (go_at_call 9; refine (sqrt_any _ (by omega) (by omega) _).mono ?_; rintro e w1 ⟨rfl, hb1⟩)
      | (go_at_call 6; refine (prt_any _ (by omega) (by omega) _).mono ?_; rintro e w' ⟨rfl, rfl⟩)
      | (go_at_call 7; refine (finite_any _ (by omega) (by omega) _).mono ?_; rintro e w' ⟨rfl, rfl⟩)
      | (go_at_call 8; refine (works_any _).mono ?_; rintro e w1 ⟨rfl, hb1⟩))
    all_goals (
      go_ret
      refine ⟨rfl, ?_⟩
      repeat (first | assumption | exact bel0 _ | refine bel ?_ (by assumption)))

end Go.Proofs.Ytbeamaaclplabac
