import Derived.Test.YtheedniegjcbgaaLexRefRuns
import Derived.Deep.DeepCutAuto
/- The reference: its numbers. -/
namespace Go.Proofs.Ytheedniegjcbgaa
open Go.RowKit
set_option linter.unusedVariables false
set_option linter.unusedSimpArgs false

theorem rdigits_at (s : ByteArray) (hs : s.size ≤ 65536) (x : Int) (i : Nat) (h : x = (i : Int)) (hi : i ≤ s.size) (w : World) :
    Calls Try.prog 50 #[.string s, .int .i64 x] w fun e w' => e = .returned (.int .i64 (pastN pDigit s i)) ∧ w' = w := by
  subst h
  exact rdigits_any s hs i hi w
theorem pastN_stay {p : Int → Bool} {s : ByteArray} {i : Nat} (h : p (peekN s i) = false) : pastN p s i = i := by
  rcases Nat.lt_or_ge i s.size with c | c
  · exact pastN_no c (by rw [← peekN_at c]; exact h)
  · exact pastN_end c
theorem pastN_lt {s : ByteArray} {i : Nat} (h : pDigit (peekN s i) = true) : i < pastN pDigit s i := by
  have c := peek_lt pDigit rfl h
  rw [pastN_yes c (by rw [← peekN_at c]; exact h)]
  exact Nat.lt_of_lt_of_le (Nat.lt_succ_self i) (Nat.le_add_right _ _)
theorem behindN_t {s : ByteArray} {i k : Nat} {kind : Int} (h : (pLetter (peekN s k) || peekN s k == 46) = true) : behindN s i kind k = ⟨0, 0, 62⟩ := by unfold behindN; rw [if_pos h]
theorem behindN_f {s : ByteArray} {i k : Nat} {kind : Int} (h : (pLetter (peekN s k) || peekN s k == 46) = false) : behindN s i kind k = fitN kind k ((k : Int) - i) := by unfold behindN; rw [if_neg (by rw [h]; simp)]
theorem pL0 : pLetter 0 = false := rfl
theorem pD0 : pDigit 0 = false := rfl
theorem pE0 : pExponent 0 = false := rfl
theorem pS0 : pSign 0 = false := rfl

set_option maxRecDepth 100000 in
set_option maxHeartbeats 8000000 in
theorem rnumber_any (s : ByteArray) (hs : s.size ≤ 65536) (i : Nat) (hi : i ≤ s.size) (w : World) :
    Calls Try.prog 42 #[.string s, .int .i64 i] w fun e w' => e = .returned (ret3 (numN s i)) ∧ w' = w := by
  obtain ⟨k, hk⟩ : ∃ k, pastN pDigit s i = k := ⟨_, rfl⟩
  have hle : k ≤ s.size := by rw [← hk]; exact pastN_le hi
  have hge : i ≤ k := by rw [← hk]; exact Nat.le_add_right _ _
  have HK : Hid (pastN pDigit s i = k) := hk
  have P1 := rdigits_any s hs i hi w
  rw [hk] at P1
  have H1 : Hid (Calls Try.prog 50 #[.string s, .int .i64 (i : Int)] w fun e w' => e = .returned (.int .i64 k) ∧ w' = w) := P1
  clear P1 hk
  go_enter Try.func42, Try.ntmps42
  go_upto_region 3 with (first
    | ((with_reducible refine H1.out.mono ?_); rintro e w1 ⟨rfl, rfl⟩))
  rename World => W1
  go_cut [24] (fun cv wx => cv = .bool (peekN s k == 46) ∧ wx = W1)
  case first =>
    by_cases g1 : k < s.size
    · have a1 : (0 : Int) ≤ (((k : Nat)) : Int) := by omega
      have b1 : (((k : Nat)) : Int) < (s.size : Int) := by omega
      go_wp2
      all_goals (go_meet; refine ⟨?_, rfl⟩; rw [peekN_at g1]; try simp [beq_iff_eq, *])
    · have b1 : ¬ ((((k : Nat)) : Int) < (s.size : Int)) := by omega
      go_wp2
      all_goals (go_meet; refine ⟨?_, rfl⟩; rw [peekN_end (by omega)]; try rfl)
  case rest =>
    obtain ⟨rfl, rfl⟩ := hcut
    cases hT1 : (peekN s k == 46)
    · go_upto_region 9 with fail
      rename World => W2
      go_cut [49] (fun cv wx => cv = .bool (pExponent (peekN s (k))) ∧ wx = W2)
      case first =>
        by_cases g2 : k < s.size
        · have a2 : (0 : Int) ≤ (((k : Nat)) : Int) := by omega
          have b2 : (((k : Nat)) : Int) < (s.size : Int) := by omega
          go_wp2
          all_goals (go_meet; refine ⟨?_, rfl⟩; rw [peekN_at g2]; try simp [pExponent, *])
        · have b2 : ¬ ((((k : Nat)) : Int) < (s.size : Int)) := by omega
          go_wp2
          all_goals (go_meet; refine ⟨?_, rfl⟩; rw [peekN_end (by omega)]; try rfl)
      case rest =>
        obtain ⟨rfl, rfl⟩ := hcut
        cases hT2 : (pExponent (peekN s (k)))
        · go_upto_region 18 with fail
          rename World => W3
          go_cut [92] (fun cv wx => cv = .bool (pLetter (peekN s (k)) || peekN s (k) == 46) ∧ wx = W3)
          case first =>
            by_cases g3 : k < s.size
            · have a3 : (0 : Int) ≤ (((k : Nat)) : Int) := by omega
              have b3 : (((k : Nat)) : Int) < (s.size : Int) := by omega
              cases hl3 : pLetter (s[k].toNat : Int)
              · go_wp2_with (go_at_call 40; refine (rLetter_any _ _).mono ?_; rintro e w1 ⟨rfl, rfl⟩; rw [hl3])
                all_goals (go_meet; refine ⟨?_, rfl⟩; rw [peekN_at g3, hl3]; simp [*])
              · go_wp2_with (go_at_call 40; refine (rLetter_any _ _).mono ?_; rintro e w1 ⟨rfl, rfl⟩; rw [hl3])
                all_goals (go_meet; refine ⟨?_, rfl⟩; rw [peekN_at g3, hl3]; simp [*])
            · have b3 : ¬ ((((k : Nat)) : Int) < (s.size : Int)) := by omega
              go_wp2
              all_goals (go_meet; refine ⟨?_, rfl⟩; rw [peekN_end (by omega)]; try rfl)
          case rest =>
            obtain ⟨rfl, rfl⟩ := hcut
            cases hT3 : (pLetter (peekN s (k)) || peekN s (k) == 46)
            · go_wp2
              all_goals (go_ret3; refine ⟨congrArg Ending.returned ?_, rfl⟩; simp [ret3, numN, tailN, expoN, expN, fitN, HK.out, behindN_f hT3, *] <;> omega)
            · go_wp2
              all_goals (go_ret3; refine ⟨congrArg Ending.returned ?_, rfl⟩; simp [ret3, numN, tailN, expoN, expN, fitN, HK.out, behindN_t hT3, *] <;> omega)
        · have t2 : k < s.size := peek_lt pExponent rfl hT2
          go_upto_region 12 with fail
          rename World => W4
          go_cut [67] (fun cv wx => cv = .bool (pSign (peekN s (k + 1))) ∧ wx = W4)
          case first =>
            by_cases g4 : k + 1 < s.size
            · have a4 : (0 : Int) ≤ (((k + 1 : Nat)) : Int) := by omega
              have b4 : (((k + 1 : Nat)) : Int) < (s.size : Int) := by omega
              go_wp2
              all_goals (go_meet; refine ⟨?_, rfl⟩; rw [peekN_at g4]; try simp [pSign, *])
            · have b4 : ¬ ((((k + 1 : Nat)) : Int) < (s.size : Int)) := by omega
              go_wp2
              all_goals (go_meet; refine ⟨?_, rfl⟩; rw [peekN_end (by omega)]; try rfl)
          case rest =>
            obtain ⟨rfl, rfl⟩ := hcut
            cases hT4 : (pSign (peekN s (k + 1)))
            · cases hD5 : pDigit (peekN s (k + 1))
              · have hD5b := hD5
                have F5 : Hid (((pastN pDigit s (k + 1) : Nat) : Int) = (k : Int) + 1) := by show _ = _; rw [pastN_stay hD5]; omega
                go_wp2_with (first
                  | (go_at_call 50; refine (rdigits_at s hs _ (k + 1) (by omega) (by omega) _).mono ?_; rw [F5.out]; rintro e w1 ⟨rfl, rfl⟩))
                all_goals (go_ret3; refine ⟨congrArg Ending.returned ?_, rfl⟩; simp [ret3, numN, tailN, expoN, expN, fitN, HK.out, *] <;> omega)
              · have l5 : k + 1 < s.size := peek_lt pDigit rfl hD5
                obtain ⟨x5, hx5⟩ : ∃ x, pastN pDigit s (k + 1) = x := ⟨_, rfl⟩
                have y5 : x5 ≤ s.size := by rw [← hx5]; exact pastN_le (by omega)
                have z5 : k + 1 < x5 := by rw [← hx5]; exact pastN_lt hD5
                have F5 : Hid (pastN pDigit s (k + 1) = x5) := hx5
                clear hx5
                have q5 : (((x5 : Nat) : Int) == (k : Int) + 1) = false := by rw [beq_eq_false_iff_ne]; omega
                go_upto_region 18 with (first
                  | (go_at_call 50; refine (rdigits_at s hs _ (k + 1) (by omega) (by omega) _).mono ?_; rw [F5.out]; rintro e w1 ⟨rfl, rfl⟩))
                rename World => W6
                go_cut [92] (fun cv wx => cv = .bool (pLetter (peekN s (x5)) || peekN s (x5) == 46) ∧ wx = W6)
                case first =>
                  by_cases g6 : x5 < s.size
                  · have a6 : (0 : Int) ≤ (((x5 : Nat)) : Int) := by omega
                    have b6 : (((x5 : Nat)) : Int) < (s.size : Int) := by omega
                    cases hl6 : pLetter (s[x5].toNat : Int)
                    · go_wp2_with (go_at_call 40; refine (rLetter_any _ _).mono ?_; rintro e w1 ⟨rfl, rfl⟩; rw [hl6])
                      all_goals (go_meet; refine ⟨?_, rfl⟩; rw [peekN_at g6, hl6]; simp [*])
                    · go_wp2_with (go_at_call 40; refine (rLetter_any _ _).mono ?_; rintro e w1 ⟨rfl, rfl⟩; rw [hl6])
                      all_goals (go_meet; refine ⟨?_, rfl⟩; rw [peekN_at g6, hl6]; simp [*])
                  · have b6 : ¬ ((((x5 : Nat)) : Int) < (s.size : Int)) := by omega
                    go_wp2
                    all_goals (go_meet; refine ⟨?_, rfl⟩; rw [peekN_end (by omega)]; try rfl)
                case rest =>
                  obtain ⟨rfl, rfl⟩ := hcut
                  cases hT6 : (pLetter (peekN s (x5)) || peekN s (x5) == 46)
                  · go_wp2
                    all_goals (go_ret3; refine ⟨congrArg Ending.returned ?_, rfl⟩; simp [ret3, numN, tailN, expoN, expN, fitN, HK.out, F5.out, behindN_f hT6, *] <;> omega)
                  · go_wp2
                    all_goals (go_ret3; refine ⟨congrArg Ending.returned ?_, rfl⟩; simp [ret3, numN, tailN, expoN, expN, fitN, HK.out, F5.out, behindN_t hT6, *] <;> omega)
            · have t4 : k + 1 < s.size := peek_lt pSign rfl hT4
              cases hD7 : pDigit (peekN s (k + 2))
              · have hD7b := hD7
                have F7 : Hid (((pastN pDigit s (k + 2) : Nat) : Int) = (k : Int) + 1 + 1) := by show _ = _; rw [pastN_stay hD7]; omega
                go_wp2_with (first
                  | (go_at_call 50; refine (rdigits_at s hs _ (k + 2) (by omega) (by omega) _).mono ?_; rw [F7.out]; rintro e w1 ⟨rfl, rfl⟩))
                all_goals (go_ret3; refine ⟨congrArg Ending.returned ?_, rfl⟩; simp [ret3, numN, tailN, expoN, expN, fitN, HK.out, *] <;> omega)
              · have l7 : k + 2 < s.size := peek_lt pDigit rfl hD7
                obtain ⟨x7, hx7⟩ : ∃ x, pastN pDigit s (k + 2) = x := ⟨_, rfl⟩
                have y7 : x7 ≤ s.size := by rw [← hx7]; exact pastN_le (by omega)
                have z7 : k + 2 < x7 := by rw [← hx7]; exact pastN_lt hD7
                have F7 : Hid (pastN pDigit s (k + 2) = x7) := hx7
                clear hx7
                have q7 : (((x7 : Nat) : Int) == (k : Int) + 1 + 1) = false := by rw [beq_eq_false_iff_ne]; omega
                go_upto_region 18 with (first
                  | (go_at_call 50; refine (rdigits_at s hs _ (k + 2) (by omega) (by omega) _).mono ?_; rw [F7.out]; rintro e w1 ⟨rfl, rfl⟩))
                rename World => W8
                go_cut [92] (fun cv wx => cv = .bool (pLetter (peekN s (x7)) || peekN s (x7) == 46) ∧ wx = W8)
                case first =>
                  by_cases g8 : x7 < s.size
                  · have a8 : (0 : Int) ≤ (((x7 : Nat)) : Int) := by omega
                    have b8 : (((x7 : Nat)) : Int) < (s.size : Int) := by omega
                    cases hl8 : pLetter (s[x7].toNat : Int)
                    · go_wp2_with (go_at_call 40; refine (rLetter_any _ _).mono ?_; rintro e w1 ⟨rfl, rfl⟩; rw [hl8])
                      all_goals (go_meet; refine ⟨?_, rfl⟩; rw [peekN_at g8, hl8]; simp [*])
                    · go_wp2_with (go_at_call 40; refine (rLetter_any _ _).mono ?_; rintro e w1 ⟨rfl, rfl⟩; rw [hl8])
                      all_goals (go_meet; refine ⟨?_, rfl⟩; rw [peekN_at g8, hl8]; simp [*])
                  · have b8 : ¬ ((((x7 : Nat)) : Int) < (s.size : Int)) := by omega
                    go_wp2
                    all_goals (go_meet; refine ⟨?_, rfl⟩; rw [peekN_end (by omega)]; try rfl)
                case rest =>
                  obtain ⟨rfl, rfl⟩ := hcut
                  cases hT8 : (pLetter (peekN s (x7)) || peekN s (x7) == 46)
                  · go_wp2
                    all_goals (go_ret3; refine ⟨congrArg Ending.returned ?_, rfl⟩; simp [ret3, numN, tailN, expoN, expN, fitN, HK.out, F7.out, behindN_f hT8, *] <;> omega)
                  · go_wp2
                    all_goals (go_ret3; refine ⟨congrArg Ending.returned ?_, rfl⟩; simp [ret3, numN, tailN, expoN, expN, fitN, HK.out, F7.out, behindN_t hT8, *] <;> omega)
    · have t1 : k < s.size := peek_lt (fun c => c == 46) rfl hT1
      cases hD9 : pDigit (peekN s (k + 1))
      · have hD9b := hD9
        have F9 : Hid (((pastN pDigit s (k + 1) : Nat) : Int) = (k : Int) + 1) := by show _ = _; rw [pastN_stay hD9]; omega
        go_wp2_with (first
          | (go_at_call 50; refine (rdigits_at s hs _ (k + 1) (by omega) (by omega) _).mono ?_; rw [F9.out]; rintro e w1 ⟨rfl, rfl⟩))
        all_goals (go_ret3; refine ⟨congrArg Ending.returned ?_, rfl⟩; simp [ret3, numN, tailN, expoN, expN, fitN, HK.out, *] <;> omega)
      · have l9 : k + 1 < s.size := peek_lt pDigit rfl hD9
        obtain ⟨x9, hx9⟩ : ∃ x, pastN pDigit s (k + 1) = x := ⟨_, rfl⟩
        have y9 : x9 ≤ s.size := by rw [← hx9]; exact pastN_le (by omega)
        have z9 : k + 1 < x9 := by rw [← hx9]; exact pastN_lt hD9
        have F9 : Hid (pastN pDigit s (k + 1) = x9) := hx9
        clear hx9
        have q9 : (((x9 : Nat) : Int) == (k : Int) + 1) = false := by rw [beq_eq_false_iff_ne]; omega
        go_upto_region 9 with (first
          | (go_at_call 50; refine (rdigits_at s hs _ (k + 1) (by omega) (by omega) _).mono ?_; rw [F9.out]; rintro e w1 ⟨rfl, rfl⟩))
        rename World => W10
        go_cut [49] (fun cv wx => cv = .bool (pExponent (peekN s (x9))) ∧ wx = W10)
        case first =>
          by_cases g10 : x9 < s.size
          · have a10 : (0 : Int) ≤ (((x9 : Nat)) : Int) := by omega
            have b10 : (((x9 : Nat)) : Int) < (s.size : Int) := by omega
            go_wp2
            all_goals (go_meet; refine ⟨?_, rfl⟩; rw [peekN_at g10]; try simp [pExponent, *])
          · have b10 : ¬ ((((x9 : Nat)) : Int) < (s.size : Int)) := by omega
            go_wp2
            all_goals (go_meet; refine ⟨?_, rfl⟩; rw [peekN_end (by omega)]; try rfl)
        case rest =>
          obtain ⟨rfl, rfl⟩ := hcut
          cases hT10 : (pExponent (peekN s (x9)))
          · go_upto_region 18 with fail
            rename World => W11
            go_cut [92] (fun cv wx => cv = .bool (pLetter (peekN s (x9)) || peekN s (x9) == 46) ∧ wx = W11)
            case first =>
              by_cases g11 : x9 < s.size
              · have a11 : (0 : Int) ≤ (((x9 : Nat)) : Int) := by omega
                have b11 : (((x9 : Nat)) : Int) < (s.size : Int) := by omega
                cases hl11 : pLetter (s[x9].toNat : Int)
                · go_wp2_with (go_at_call 40; refine (rLetter_any _ _).mono ?_; rintro e w1 ⟨rfl, rfl⟩; rw [hl11])
                  all_goals (go_meet; refine ⟨?_, rfl⟩; rw [peekN_at g11, hl11]; simp [*])
                · go_wp2_with (go_at_call 40; refine (rLetter_any _ _).mono ?_; rintro e w1 ⟨rfl, rfl⟩; rw [hl11])
                  all_goals (go_meet; refine ⟨?_, rfl⟩; rw [peekN_at g11, hl11]; simp [*])
              · have b11 : ¬ ((((x9 : Nat)) : Int) < (s.size : Int)) := by omega
                go_wp2
                all_goals (go_meet; refine ⟨?_, rfl⟩; rw [peekN_end (by omega)]; try rfl)
            case rest =>
              obtain ⟨rfl, rfl⟩ := hcut
              cases hT11 : (pLetter (peekN s (x9)) || peekN s (x9) == 46)
              · go_wp2
                all_goals (go_ret3; refine ⟨congrArg Ending.returned ?_, rfl⟩; simp [ret3, numN, tailN, expoN, expN, fitN, HK.out, F9.out, behindN_f hT11, *] <;> omega)
              · go_wp2
                all_goals (go_ret3; refine ⟨congrArg Ending.returned ?_, rfl⟩; simp [ret3, numN, tailN, expoN, expN, fitN, HK.out, F9.out, behindN_t hT11, *] <;> omega)
          · have t10 : x9 < s.size := peek_lt pExponent rfl hT10
            go_upto_region 12 with fail
            rename World => W12
            go_cut [67] (fun cv wx => cv = .bool (pSign (peekN s (x9 + 1))) ∧ wx = W12)
            case first =>
              by_cases g12 : x9 + 1 < s.size
              · have a12 : (0 : Int) ≤ (((x9 + 1 : Nat)) : Int) := by omega
                have b12 : (((x9 + 1 : Nat)) : Int) < (s.size : Int) := by omega
                go_wp2
                all_goals (go_meet; refine ⟨?_, rfl⟩; rw [peekN_at g12]; try simp [pSign, *])
              · have b12 : ¬ ((((x9 + 1 : Nat)) : Int) < (s.size : Int)) := by omega
                go_wp2
                all_goals (go_meet; refine ⟨?_, rfl⟩; rw [peekN_end (by omega)]; try rfl)
            case rest =>
              obtain ⟨rfl, rfl⟩ := hcut
              cases hT12 : (pSign (peekN s (x9 + 1)))
              · cases hD13 : pDigit (peekN s (x9 + 1))
                · have hD13b := hD13
                  have F13 : Hid (((pastN pDigit s (x9 + 1) : Nat) : Int) = (x9 : Int) + 1) := by show _ = _; rw [pastN_stay hD13]; omega
                  go_wp2_with (first
                    | (go_at_call 50; refine (rdigits_at s hs _ (x9 + 1) (by omega) (by omega) _).mono ?_; rw [F13.out]; rintro e w1 ⟨rfl, rfl⟩))
                  all_goals (go_ret3; refine ⟨congrArg Ending.returned ?_, rfl⟩; simp [ret3, numN, tailN, expoN, expN, fitN, HK.out, F9.out, *] <;> omega)
                · have l13 : x9 + 1 < s.size := peek_lt pDigit rfl hD13
                  obtain ⟨x13, hx13⟩ : ∃ x, pastN pDigit s (x9 + 1) = x := ⟨_, rfl⟩
                  have y13 : x13 ≤ s.size := by rw [← hx13]; exact pastN_le (by omega)
                  have z13 : x9 + 1 < x13 := by rw [← hx13]; exact pastN_lt hD13
                  have F13 : Hid (pastN pDigit s (x9 + 1) = x13) := hx13
                  clear hx13
                  have q13 : (((x13 : Nat) : Int) == (x9 : Int) + 1) = false := by rw [beq_eq_false_iff_ne]; omega
                  go_upto_region 18 with (first
                    | (go_at_call 50; refine (rdigits_at s hs _ (x9 + 1) (by omega) (by omega) _).mono ?_; rw [F13.out]; rintro e w1 ⟨rfl, rfl⟩))
                  rename World => W14
                  go_cut [92] (fun cv wx => cv = .bool (pLetter (peekN s (x13)) || peekN s (x13) == 46) ∧ wx = W14)
                  case first =>
                    by_cases g14 : x13 < s.size
                    · have a14 : (0 : Int) ≤ (((x13 : Nat)) : Int) := by omega
                      have b14 : (((x13 : Nat)) : Int) < (s.size : Int) := by omega
                      cases hl14 : pLetter (s[x13].toNat : Int)
                      · go_wp2_with (go_at_call 40; refine (rLetter_any _ _).mono ?_; rintro e w1 ⟨rfl, rfl⟩; rw [hl14])
                        all_goals (go_meet; refine ⟨?_, rfl⟩; rw [peekN_at g14, hl14]; simp [*])
                      · go_wp2_with (go_at_call 40; refine (rLetter_any _ _).mono ?_; rintro e w1 ⟨rfl, rfl⟩; rw [hl14])
                        all_goals (go_meet; refine ⟨?_, rfl⟩; rw [peekN_at g14, hl14]; simp [*])
                    · have b14 : ¬ ((((x13 : Nat)) : Int) < (s.size : Int)) := by omega
                      go_wp2
                      all_goals (go_meet; refine ⟨?_, rfl⟩; rw [peekN_end (by omega)]; try rfl)
                  case rest =>
                    obtain ⟨rfl, rfl⟩ := hcut
                    cases hT14 : (pLetter (peekN s (x13)) || peekN s (x13) == 46)
                    · go_wp2
                      all_goals (go_ret3; refine ⟨congrArg Ending.returned ?_, rfl⟩; simp [ret3, numN, tailN, expoN, expN, fitN, HK.out, F9.out, F13.out, behindN_f hT14, *] <;> omega)
                    · go_wp2
                      all_goals (go_ret3; refine ⟨congrArg Ending.returned ?_, rfl⟩; simp [ret3, numN, tailN, expoN, expN, fitN, HK.out, F9.out, F13.out, behindN_t hT14, *] <;> omega)
              · have t12 : x9 + 1 < s.size := peek_lt pSign rfl hT12
                cases hD15 : pDigit (peekN s (x9 + 2))
                · have hD15b := hD15
                  have F15 : Hid (((pastN pDigit s (x9 + 2) : Nat) : Int) = (x9 : Int) + 1 + 1) := by show _ = _; rw [pastN_stay hD15]; omega
                  go_wp2_with (first
                    | (go_at_call 50; refine (rdigits_at s hs _ (x9 + 2) (by omega) (by omega) _).mono ?_; rw [F15.out]; rintro e w1 ⟨rfl, rfl⟩))
                  all_goals (go_ret3; refine ⟨congrArg Ending.returned ?_, rfl⟩; simp [ret3, numN, tailN, expoN, expN, fitN, HK.out, F9.out, *] <;> omega)
                · have l15 : x9 + 2 < s.size := peek_lt pDigit rfl hD15
                  obtain ⟨x15, hx15⟩ : ∃ x, pastN pDigit s (x9 + 2) = x := ⟨_, rfl⟩
                  have y15 : x15 ≤ s.size := by rw [← hx15]; exact pastN_le (by omega)
                  have z15 : x9 + 2 < x15 := by rw [← hx15]; exact pastN_lt hD15
                  have F15 : Hid (pastN pDigit s (x9 + 2) = x15) := hx15
                  clear hx15
                  have q15 : (((x15 : Nat) : Int) == (x9 : Int) + 1 + 1) = false := by rw [beq_eq_false_iff_ne]; omega
                  go_upto_region 18 with (first
                    | (go_at_call 50; refine (rdigits_at s hs _ (x9 + 2) (by omega) (by omega) _).mono ?_; rw [F15.out]; rintro e w1 ⟨rfl, rfl⟩))
                  rename World => W16
                  go_cut [92] (fun cv wx => cv = .bool (pLetter (peekN s (x15)) || peekN s (x15) == 46) ∧ wx = W16)
                  case first =>
                    by_cases g16 : x15 < s.size
                    · have a16 : (0 : Int) ≤ (((x15 : Nat)) : Int) := by omega
                      have b16 : (((x15 : Nat)) : Int) < (s.size : Int) := by omega
                      cases hl16 : pLetter (s[x15].toNat : Int)
                      · go_wp2_with (go_at_call 40; refine (rLetter_any _ _).mono ?_; rintro e w1 ⟨rfl, rfl⟩; rw [hl16])
                        all_goals (go_meet; refine ⟨?_, rfl⟩; rw [peekN_at g16, hl16]; simp [*])
                      · go_wp2_with (go_at_call 40; refine (rLetter_any _ _).mono ?_; rintro e w1 ⟨rfl, rfl⟩; rw [hl16])
                        all_goals (go_meet; refine ⟨?_, rfl⟩; rw [peekN_at g16, hl16]; simp [*])
                    · have b16 : ¬ ((((x15 : Nat)) : Int) < (s.size : Int)) := by omega
                      go_wp2
                      all_goals (go_meet; refine ⟨?_, rfl⟩; rw [peekN_end (by omega)]; try rfl)
                  case rest =>
                    obtain ⟨rfl, rfl⟩ := hcut
                    cases hT16 : (pLetter (peekN s (x15)) || peekN s (x15) == 46)
                    · go_wp2
                      all_goals (go_ret3; refine ⟨congrArg Ending.returned ?_, rfl⟩; simp [ret3, numN, tailN, expoN, expN, fitN, HK.out, F9.out, F15.out, behindN_f hT16, *] <;> omega)
                    · go_wp2
                      all_goals (go_ret3; refine ⟨congrArg Ending.returned ?_, rfl⟩; simp [ret3, numN, tailN, expoN, expN, fitN, HK.out, F9.out, F15.out, behindN_t hT16, *] <;> omega)

end Go.Proofs.Ytheedniegjcbgaa
