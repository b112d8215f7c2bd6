import Derived.Test.YtbeamaaclplababFloatNearP
/- The walk of the statement FloatNear. -/
namespace Go.Proofs.Ytbeamaaclplabab
open Go.RowKit
set_option linter.unusedVariables false

theorem prod_lo (m n : Int) (h1 : -16777216 < m) (h2 : m < 16777216) (h3 : -16777216 < n) (h4 : n < 16777216) : -281474976710656 ≤ m * n ∧ m * n ≤ 281474976710656 := by
  have key : (m * n).natAbs ≤ 16777216 * 16777216 := by
    rw [Int.natAbs_mul]; exact Nat.mul_le_mul (by omega) (by omega)
  omega

theorem shl_exact (S m y : Int) (h1 : -16777216 < m) (h2 : m < 16777216) (hy : 0 ≤ y) (h : m = S * 2 ^ y.toNat) : Op.shift .shl .i64 S .u64 y = pure (.int .i64 m) := by
  by_cases c : y ≤ 64
  · rw [shift_shl .i64 .u64 S y hy c, ← h, show IntKind.i64.wrap m = m by rw [IntKind.wrap_i64]; omega]
  · have hS : S = 0 := by
      rcases Int.lt_trichotomy S 0 with d | d | d
      · exfalso
        have hp : (16777216 : Nat) ≤ 2 ^ y.toNat := Nat.le_trans (show 16777216 ≤ 2 ^ 24 by decide) (Nat.pow_le_pow_right (by decide) (by omega))
        have hp' : (16777216 : Int) ≤ 2 ^ y.toNat := by have := Int.ofNat_le.2 hp; rw [Int.natCast_pow] at this; exact this
        have : S * 2 ^ y.toNat ≤ -1 * 2 ^ y.toNat := Int.mul_le_mul_of_nonneg_right (by omega) (by omega)
        omega
      · exact d
      · exfalso
        have hp : (16777216 : Nat) ≤ 2 ^ y.toNat := Nat.le_trans (show 16777216 ≤ 2 ^ 24 by decide) (Nat.pow_le_pow_right (by decide) (by omega))
        have hp' : (16777216 : Int) ≤ 2 ^ y.toNat := by have := Int.ofNat_le.2 hp; rw [Int.natCast_pow] at this; exact this
        have : 1 * 2 ^ y.toNat ≤ S * 2 ^ y.toNat := Int.mul_le_mul_of_nonneg_right (by omega) (by omega)
        omega
    subst hS
    rw [Int.zero_mul] at h
    subst h
    unfold Op.shift
    rw [if_neg (by omega)]
    simp only [Int.zero_mul]
    rfl

theorem even_fn (m n d : Int) (h1 : -16777216 ≤ m) (h2 : m ≤ 16777216) (h3 : -2305843009213693952 ≤ n) (h4 : n ≤ 2305843009213693952) (hd0 : 0 ≤ d) (hd : d ≤ 36) (hv : evenB m n d.toNat = true) (w : World) :
    Calls Try.prog 29 #[.int .i64 m, .int .i64 n, .int .i64 d] w fun e w' => e = .returned (.bool true) ∧ w' = w := by
  have := even_any m n d.toNat h1 h2 h3 h4 (by omega) hv w
  rwa [Int.toNat_of_nonneg hd0] at this

set_option maxHeartbeats 2000000 in
theorem near_lo (a : Int) (h0 : 0 ≤ a) (h1 : a < 4294967296) (b : Int) (g0 : 0 ≤ b) (g1 : b < 4294967296) (fa : ffin a = true) (fb : ffin b = true) (hjl : pE a ≤ pE b) (w : World) :
    Calls Try.prog 8 #[.int .u32 a, .int .u32 b] w fun e w' => e = .returned (.bool true) ∧ Below w.heap.size w w' := by
  have lz := fmul_lo a b
  have ls := fadd_lo a b
  have ea := pE_lo a h0 h1
  have eb := pE_lo b g0 g1
  have ez := pE_lo (fmul a b) lz.1 lz.2
  have es := pE_lo (fadd a b) ls.1 ls.2
  have ma := pM_lo a h0 h1
  have mb := pM_lo b g0 g1
  have mz := pM_lo (fmul a b) lz.1 lz.2
  have ms := pM_lo (fadd a b) ls.1 ls.2
  obtain ⟨IK, hIK⟩ : ∃ IK : Int, pM a * pM b = IK := ⟨_, rfl⟩
  have bIK := prod_lo (pM a) (pM b) ma.1 ma.2 mb.1 mb.2
  rw [hIK] at bIK
  have f1 : wrap64 (pM a * pM b) = IK := by rw [hIK]; unfold wrap64; omega
  obtain ⟨dd, hdd⟩ : ∃ dd : Int, pE (fmul a b) - pE a - pE b = dd := ⟨_, rfl⟩
  have hE : ffin (fmul a b) = true → 0 ≤ dd → dd ≤ 36 → evenB (pM (fmul a b)) IK dd.toNat = true := by
    intro q1 q2 q3; rw [← hIK]; exact mul_near a b h0 h1 g0 g1 fa fb q1 dd.toNat (by omega)
  have HE : Hid (ffin (fmul a b) = true → 0 ≤ dd → dd ≤ 36 → evenB (pM (fmul a b)) IK dd.toNat = true) := hE
  clear hE hIK
  by_cases far : pE b - pE a ≤ 36
  · have bS := shl_lo (pM b) (pE b - pE a).toNat 0 (by omega) (by omega) (by omega)
    obtain ⟨Q, hQ⟩ : ∃ Q : Int, pM b * 2 ^ (pE b - pE a).toNat = Q := ⟨_, rfl⟩
    rw [hQ] at bS
    have f2 : wrap64 (pM b * 2 ^ (pE b - pE a).toNat) = Q := by rw [hQ]; unfold wrap64; omega
    obtain ⟨S, hS⟩ : ∃ S : Int, pM a + Q = S := ⟨_, rfl⟩
    have bS2 : -1152921504623624192 ≤ S ∧ S ≤ 1152921504623624192 := by omega
    have hadd := fun q => add_near a b h0 h1 g0 g1 fa fb q (pE a) S (by omega) (by rw [← hS, ← hQ]; simp)
    have hS1 : ffin (fadd a b) = true → 0 ≤ pE (fadd a b) - pE a → evenB (pM (fadd a b)) S (pE (fadd a b) - pE a).toNat = true := fun q1 q2 => (hadd q1).1 _ (by omega)
    have hS2 : ffin (fadd a b) = true → 0 ≤ pE a - pE (fadd a b) → Op.shift .shl .i64 S .u64 (pE a - pE (fadd a b)) = pure (.int .i64 (pM (fadd a b))) := by
      intro q1 q2; exact shl_exact _ _ _ ms.1 ms.2 q2 ((hadd q1).2 _ (by omega))
    clear hadd hQ
    by_cases fs : ffin (fadd a b) = true
    · by_cases ol : pE (fadd a b) < pE a
      · have f3 := hS2 fs (by omega)
        clear hS1 hS2
        by_cases mm : ffin (fmul a b) = true ∧ 0 ≤ dd ∧ dd ≤ 36
        · have hEE := HE.out mm.1 mm.2.1 mm.2.2
          obtain ⟨m1, m2, m3⟩ := mm
          go_enter Try.func8, Try.ntmps8
          go_wp2_with (first
            | (go_at_call 26; refine (prt_any _ (by omega) (by omega) _).mono ?_; rintro e w' ⟨rfl, rfl⟩)
            | (go_at_call 16; refine (finite_any _ (by omega) (by omega) _).mono ?_; rintro e w' ⟨rfl, rfl⟩)
            | (go_at_call 10; refine (mul_any _ (by omega) (by omega) _ (by omega) (by omega) _).mono ?_; rintro e w1 ⟨rfl, hb1⟩)
            | (go_at_call 9; refine (add_any _ (by omega) (by omega) _ (by omega) (by omega) _).mono ?_; rintro e w1 ⟨rfl, hb1⟩)
            | (go_at_call 18; refine (works_any _).mono ?_; rintro e w1 ⟨rfl, hb1⟩)
            | (go_at_call 29; refine (even_fn _ _ _ (by omega) (by omega) (by omega) (by omega) (by omega) (by omega) (by assumption) _).mono ?_; rintro e w' ⟨rfl, rfl⟩))
          all_goals (
            go_ret
            refine ⟨rfl, ?_⟩
            repeat (first | assumption | exact bel0 _ | refine bel ?_ (by assumption)))
        · clear HE
          rcases (show ffin (fmul a b) = false ∨ (ffin (fmul a b) = true ∧ dd < 0) ∨ (ffin (fmul a b) = true ∧ 36 < dd) by cases q : ffin (fmul a b) <;> simp [q] at mm ⊢; omega) with q | ⟨q, q2⟩ | ⟨q, q2⟩
          all_goals (
            go_enter Try.func8, Try.ntmps8
            go_wp2_with (first
              | (go_at_call 26; refine (prt_any _ (by omega) (by omega) _).mono ?_; rintro e w' ⟨rfl, rfl⟩)
              | (go_at_call 16; refine (finite_any _ (by omega) (by omega) _).mono ?_; rintro e w' ⟨rfl, rfl⟩)
              | (go_at_call 10; refine (mul_any _ (by omega) (by omega) _ (by omega) (by omega) _).mono ?_; rintro e w1 ⟨rfl, hb1⟩)
              | (go_at_call 9; refine (add_any _ (by omega) (by omega) _ (by omega) (by omega) _).mono ?_; rintro e w1 ⟨rfl, hb1⟩)
              | (go_at_call 18; refine (works_any _).mono ?_; rintro e w1 ⟨rfl, hb1⟩))
            all_goals (
              go_ret
              refine ⟨rfl, ?_⟩
              repeat (first | assumption | exact bel0 _ | refine bel ?_ (by assumption))))
      · have hEv := hS1 fs (by omega)
        clear hS1 hS2
        by_cases mm : ffin (fmul a b) = true ∧ 0 ≤ dd ∧ dd ≤ 36
        · have hEE := HE.out mm.1 mm.2.1 mm.2.2
          obtain ⟨m1, m2, m3⟩ := mm
          go_enter Try.func8, Try.ntmps8
          go_wp2_with (first
            | (go_at_call 26; refine (prt_any _ (by omega) (by omega) _).mono ?_; rintro e w' ⟨rfl, rfl⟩)
            | (go_at_call 16; refine (finite_any _ (by omega) (by omega) _).mono ?_; rintro e w' ⟨rfl, rfl⟩)
            | (go_at_call 10; refine (mul_any _ (by omega) (by omega) _ (by omega) (by omega) _).mono ?_; rintro e w1 ⟨rfl, hb1⟩)
            | (go_at_call 9; refine (add_any _ (by omega) (by omega) _ (by omega) (by omega) _).mono ?_; rintro e w1 ⟨rfl, hb1⟩)
            | (go_at_call 18; refine (works_any _).mono ?_; rintro e w1 ⟨rfl, hb1⟩)
            | (go_at_call 29; refine (even_fn _ _ _ (by omega) (by omega) (by omega) (by omega) (by omega) (by omega) (by assumption) _).mono ?_; rintro e w' ⟨rfl, rfl⟩))
          all_goals (
            go_ret
            refine ⟨rfl, ?_⟩
            repeat (first | assumption | exact bel0 _ | refine bel ?_ (by assumption)))
        · clear HE
          rcases (show ffin (fmul a b) = false ∨ (ffin (fmul a b) = true ∧ dd < 0) ∨ (ffin (fmul a b) = true ∧ 36 < dd) by cases q : ffin (fmul a b) <;> simp [q] at mm ⊢; omega) with q | ⟨q, q2⟩ | ⟨q, q2⟩
          all_goals (
            go_enter Try.func8, Try.ntmps8
            go_wp2_with (first
              | (go_at_call 26; refine (prt_any _ (by omega) (by omega) _).mono ?_; rintro e w' ⟨rfl, rfl⟩)
              | (go_at_call 16; refine (finite_any _ (by omega) (by omega) _).mono ?_; rintro e w' ⟨rfl, rfl⟩)
              | (go_at_call 10; refine (mul_any _ (by omega) (by omega) _ (by omega) (by omega) _).mono ?_; rintro e w1 ⟨rfl, hb1⟩)
              | (go_at_call 9; refine (add_any _ (by omega) (by omega) _ (by omega) (by omega) _).mono ?_; rintro e w1 ⟨rfl, hb1⟩)
              | (go_at_call 18; refine (works_any _).mono ?_; rintro e w1 ⟨rfl, hb1⟩)
              | (go_at_call 29; refine (even_fn _ _ _ (by omega) (by omega) (by omega) (by omega) (by omega) (by omega) (by assumption) _).mono ?_; rintro e w' ⟨rfl, rfl⟩))
            all_goals (
              go_ret
              refine ⟨rfl, ?_⟩
              repeat (first | assumption | exact bel0 _ | refine bel ?_ (by assumption))))
    · have fs' : ffin (fadd a b) = false := by simpa using fs
      clear hS1 hS2 fs
      by_cases mm : ffin (fmul a b) = true ∧ 0 ≤ dd ∧ dd ≤ 36
      · have hEE := HE.out mm.1 mm.2.1 mm.2.2
        obtain ⟨m1, m2, m3⟩ := mm
        go_enter Try.func8, Try.ntmps8
        go_wp2_with (first
          | (go_at_call 26; refine (prt_any _ (by omega) (by omega) _).mono ?_; rintro e w' ⟨rfl, rfl⟩)
          | (go_at_call 16; refine (finite_any _ (by omega) (by omega) _).mono ?_; rintro e w' ⟨rfl, rfl⟩)
          | (go_at_call 10; refine (mul_any _ (by omega) (by omega) _ (by omega) (by omega) _).mono ?_; rintro e w1 ⟨rfl, hb1⟩)
          | (go_at_call 9; refine (add_any _ (by omega) (by omega) _ (by omega) (by omega) _).mono ?_; rintro e w1 ⟨rfl, hb1⟩)
          | (go_at_call 18; refine (works_any _).mono ?_; rintro e w1 ⟨rfl, hb1⟩)
          | (go_at_call 29; refine (even_fn _ _ _ (by omega) (by omega) (by omega) (by omega) (by omega) (by omega) (by assumption) _).mono ?_; rintro e w' ⟨rfl, rfl⟩))
        all_goals (
          go_ret
          refine ⟨rfl, ?_⟩
          repeat (first | assumption | exact bel0 _ | refine bel ?_ (by assumption)))
      · clear HE
        rcases (show ffin (fmul a b) = false ∨ (ffin (fmul a b) = true ∧ dd < 0) ∨ (ffin (fmul a b) = true ∧ 36 < dd) by cases q : ffin (fmul a b) <;> simp [q] at mm ⊢; omega) with q | ⟨q, q2⟩ | ⟨q, q2⟩
        all_goals (
          go_enter Try.func8, Try.ntmps8
          go_wp2_with (first
            | (go_at_call 26; refine (prt_any _ (by omega) (by omega) _).mono ?_; rintro e w' ⟨rfl, rfl⟩)
            | (go_at_call 16; refine (finite_any _ (by omega) (by omega) _).mono ?_; rintro e w' ⟨rfl, rfl⟩)
            | (go_at_call 10; refine (mul_any _ (by omega) (by omega) _ (by omega) (by omega) _).mono ?_; rintro e w1 ⟨rfl, hb1⟩)
            | (go_at_call 9; refine (add_any _ (by omega) (by omega) _ (by omega) (by omega) _).mono ?_; rintro e w1 ⟨rfl, hb1⟩)
            | (go_at_call 18; refine (works_any _).mono ?_; rintro e w1 ⟨rfl, hb1⟩))
          all_goals (
            go_ret
            refine ⟨rfl, ?_⟩
            repeat (first | assumption | exact bel0 _ | refine bel ?_ (by assumption))))
  · by_cases mm : ffin (fmul a b) = true ∧ 0 ≤ dd ∧ dd ≤ 36
    · have hEE := HE.out mm.1 mm.2.1 mm.2.2
      obtain ⟨m1, m2, m3⟩ := mm
      go_enter Try.func8, Try.ntmps8
      go_wp2_with (first
        | (go_at_call 26; refine (prt_any _ (by omega) (by omega) _).mono ?_; rintro e w' ⟨rfl, rfl⟩)
        | (go_at_call 16; refine (finite_any _ (by omega) (by omega) _).mono ?_; rintro e w' ⟨rfl, rfl⟩)
        | (go_at_call 10; refine (mul_any _ (by omega) (by omega) _ (by omega) (by omega) _).mono ?_; rintro e w1 ⟨rfl, hb1⟩)
        | (go_at_call 9; refine (add_any _ (by omega) (by omega) _ (by omega) (by omega) _).mono ?_; rintro e w1 ⟨rfl, hb1⟩)
        | (go_at_call 18; refine (works_any _).mono ?_; rintro e w1 ⟨rfl, hb1⟩)
        | (go_at_call 29; refine (even_fn _ _ _ (by omega) (by omega) (by omega) (by omega) (by omega) (by omega) (by assumption) _).mono ?_; rintro e w' ⟨rfl, rfl⟩))
      all_goals (
        go_ret
        refine ⟨rfl, ?_⟩
        repeat (first | assumption | exact bel0 _ | refine bel ?_ (by assumption)))
    · clear HE
      rcases (show ffin (fmul a b) = false ∨ (ffin (fmul a b) = true ∧ dd < 0) ∨ (ffin (fmul a b) = true ∧ 36 < dd) by cases q : ffin (fmul a b) <;> simp [q] at mm ⊢; omega) with q | ⟨q, q2⟩ | ⟨q, q2⟩
      all_goals (
        go_enter Try.func8, Try.ntmps8
        go_wp2_with (first
          | (go_at_call 26; refine (prt_any _ (by omega) (by omega) _).mono ?_; rintro e w' ⟨rfl, rfl⟩)
          | (go_at_call 16; refine (finite_any _ (by omega) (by omega) _).mono ?_; rintro e w' ⟨rfl, rfl⟩)
          | (go_at_call 10; refine (mul_any _ (by omega) (by omega) _ (by omega) (by omega) _).mono ?_; rintro e w1 ⟨rfl, hb1⟩)
          | (go_at_call 9; refine (add_any _ (by omega) (by omega) _ (by omega) (by omega) _).mono ?_; rintro e w1 ⟨rfl, hb1⟩)
          | (go_at_call 18; refine (works_any _).mono ?_; rintro e w1 ⟨rfl, hb1⟩))
        all_goals (
          go_ret
          refine ⟨rfl, ?_⟩
          repeat (first | assumption | exact bel0 _ | refine bel ?_ (by assumption))))

set_option maxHeartbeats 2000000 in
theorem near_hi (a : Int) (h0 : 0 ≤ a) (h1 : a < 4294967296) (b : Int) (g0 : 0 ≤ b) (g1 : b < 4294967296) (fa : ffin a = true) (fb : ffin b = true) (hjl : pE b < pE a) (w : World) :
    Calls Try.prog 8 #[.int .u32 a, .int .u32 b] w fun e w' => e = .returned (.bool true) ∧ Below w.heap.size w w' := by
  have lz := fmul_lo a b
  have ls := fadd_lo a b
  have ea := pE_lo a h0 h1
  have eb := pE_lo b g0 g1
  have ez := pE_lo (fmul a b) lz.1 lz.2
  have es := pE_lo (fadd a b) ls.1 ls.2
  have ma := pM_lo a h0 h1
  have mb := pM_lo b g0 g1
  have mz := pM_lo (fmul a b) lz.1 lz.2
  have ms := pM_lo (fadd a b) ls.1 ls.2
  obtain ⟨IK, hIK⟩ : ∃ IK : Int, pM a * pM b = IK := ⟨_, rfl⟩
  have bIK := prod_lo (pM a) (pM b) ma.1 ma.2 mb.1 mb.2
  rw [hIK] at bIK
  have f1 : wrap64 (pM a * pM b) = IK := by rw [hIK]; unfold wrap64; omega
  obtain ⟨dd, hdd⟩ : ∃ dd : Int, pE (fmul a b) - pE a - pE b = dd := ⟨_, rfl⟩
  have hE : ffin (fmul a b) = true → 0 ≤ dd → dd ≤ 36 → evenB (pM (fmul a b)) IK dd.toNat = true := by
    intro q1 q2 q3; rw [← hIK]; exact mul_near a b h0 h1 g0 g1 fa fb q1 dd.toNat (by omega)
  have HE : Hid (ffin (fmul a b) = true → 0 ≤ dd → dd ≤ 36 → evenB (pM (fmul a b)) IK dd.toNat = true) := hE
  clear hE hIK
  by_cases far : pE a - pE b ≤ 36
  · have bS := shl_lo (pM a) (pE a - pE b).toNat 0 (by omega) (by omega) (by omega)
    obtain ⟨Q, hQ⟩ : ∃ Q : Int, pM a * 2 ^ (pE a - pE b).toNat = Q := ⟨_, rfl⟩
    rw [hQ] at bS
    have f2 : wrap64 (pM a * 2 ^ (pE a - pE b).toNat) = Q := by rw [hQ]; unfold wrap64; omega
    obtain ⟨S, hS⟩ : ∃ S : Int, Q + pM b = S := ⟨_, rfl⟩
    have bS2 : -1152921504623624192 ≤ S ∧ S ≤ 1152921504623624192 := by omega
    have hadd := fun q => add_near a b h0 h1 g0 g1 fa fb q (pE b) S (by omega) (by rw [← hS, ← hQ]; simp)
    have hS1 : ffin (fadd a b) = true → 0 ≤ pE (fadd a b) - pE b → evenB (pM (fadd a b)) S (pE (fadd a b) - pE b).toNat = true := fun q1 q2 => (hadd q1).1 _ (by omega)
    have hS2 : ffin (fadd a b) = true → 0 ≤ pE b - pE (fadd a b) → Op.shift .shl .i64 S .u64 (pE b - pE (fadd a b)) = pure (.int .i64 (pM (fadd a b))) := by
      intro q1 q2; exact shl_exact _ _ _ ms.1 ms.2 q2 ((hadd q1).2 _ (by omega))
    clear hadd hQ
    by_cases fs : ffin (fadd a b) = true
    · by_cases ol : pE (fadd a b) < pE b
      · have f3 := hS2 fs (by omega)
        clear hS1 hS2
        by_cases mm : ffin (fmul a b) = true ∧ 0 ≤ dd ∧ dd ≤ 36
        · have hEE := HE.out mm.1 mm.2.1 mm.2.2
          obtain ⟨m1, m2, m3⟩ := mm
          go_enter Try.func8, Try.ntmps8
          go_wp2_with (first
            | (go_at_call 26; refine (prt_any _ (by omega) (by omega) _).mono ?_; rintro e w' ⟨rfl, rfl⟩)
            | (go_at_call 16; refine (finite_any _ (by omega) (by omega) _).mono ?_; rintro e w' ⟨rfl, rfl⟩)
            | (go_at_call 10; refine (mul_any _ (by omega) (by omega) _ (by omega) (by omega) _).mono ?_; rintro e w1 ⟨rfl, hb1⟩)
            | (go_at_call 9; refine (add_any _ (by omega) (by omega) _ (by omega) (by omega) _).mono ?_; rintro e w1 ⟨rfl, hb1⟩)
            | (go_at_call 18; refine (works_any _).mono ?_; rintro e w1 ⟨rfl, hb1⟩)
            | (go_at_call 29; refine (even_fn _ _ _ (by omega) (by omega) (by omega) (by omega) (by omega) (by omega) (by assumption) _).mono ?_; rintro e w' ⟨rfl, rfl⟩))
          all_goals (
            go_ret
            refine ⟨rfl, ?_⟩
            repeat (first | assumption | exact bel0 _ | refine bel ?_ (by assumption)))
        · clear HE
          rcases (show ffin (fmul a b) = false ∨ (ffin (fmul a b) = true ∧ dd < 0) ∨ (ffin (fmul a b) = true ∧ 36 < dd) by cases q : ffin (fmul a b) <;> simp [q] at mm ⊢; omega) with q | ⟨q, q2⟩ | ⟨q, q2⟩
          all_goals (
            go_enter Try.func8, Try.ntmps8
            go_wp2_with (first
              | (go_at_call 26; refine (prt_any _ (by omega) (by omega) _).mono ?_; rintro e w' ⟨rfl, rfl⟩)
              | (go_at_call 16; refine (finite_any _ (by omega) (by omega) _).mono ?_; rintro e w' ⟨rfl, rfl⟩)
              | (go_at_call 10; refine (mul_any _ (by omega) (by omega) _ (by omega) (by omega) _).mono ?_; rintro e w1 ⟨rfl, hb1⟩)
              | (go_at_call 9; refine (add_any _ (by omega) (by omega) _ (by omega) (by omega) _).mono ?_; rintro e w1 ⟨rfl, hb1⟩)
              | (go_at_call 18; refine (works_any _).mono ?_; rintro e w1 ⟨rfl, hb1⟩))
            all_goals (
              go_ret
              refine ⟨rfl, ?_⟩
              repeat (first | assumption | exact bel0 _ | refine bel ?_ (by assumption))))
      · have hEv := hS1 fs (by omega)
        clear hS1 hS2
        by_cases mm : ffin (fmul a b) = true ∧ 0 ≤ dd ∧ dd ≤ 36
        · have hEE := HE.out mm.1 mm.2.1 mm.2.2
          obtain ⟨m1, m2, m3⟩ := mm
          go_enter Try.func8, Try.ntmps8
          go_wp2_with (first
            | (go_at_call 26; refine (prt_any _ (by omega) (by omega) _).mono ?_; rintro e w' ⟨rfl, rfl⟩)
            | (go_at_call 16; refine (finite_any _ (by omega) (by omega) _).mono ?_; rintro e w' ⟨rfl, rfl⟩)
            | (go_at_call 10; refine (mul_any _ (by omega) (by omega) _ (by omega) (by omega) _).mono ?_; rintro e w1 ⟨rfl, hb1⟩)
            | (go_at_call 9; refine (add_any _ (by omega) (by omega) _ (by omega) (by omega) _).mono ?_; rintro e w1 ⟨rfl, hb1⟩)
            | (go_at_call 18; refine (works_any _).mono ?_; rintro e w1 ⟨rfl, hb1⟩)
            | (go_at_call 29; refine (even_fn _ _ _ (by omega) (by omega) (by omega) (by omega) (by omega) (by omega) (by assumption) _).mono ?_; rintro e w' ⟨rfl, rfl⟩))
          all_goals (
            go_ret
            refine ⟨rfl, ?_⟩
            repeat (first | assumption | exact bel0 _ | refine bel ?_ (by assumption)))
        · clear HE
          rcases (show ffin (fmul a b) = false ∨ (ffin (fmul a b) = true ∧ dd < 0) ∨ (ffin (fmul a b) = true ∧ 36 < dd) by cases q : ffin (fmul a b) <;> simp [q] at mm ⊢; omega) with q | ⟨q, q2⟩ | ⟨q, q2⟩
          all_goals (
            go_enter Try.func8, Try.ntmps8
            go_wp2_with (first
              | (go_at_call 26; refine (prt_any _ (by omega) (by omega) _).mono ?_; rintro e w' ⟨rfl, rfl⟩)
              | (go_at_call 16; refine (finite_any _ (by omega) (by omega) _).mono ?_; rintro e w' ⟨rfl, rfl⟩)
              | (go_at_call 10; refine (mul_any _ (by omega) (by omega) _ (by omega) (by omega) _).mono ?_; rintro e w1 ⟨rfl, hb1⟩)
              | (go_at_call 9; refine (add_any _ (by omega) (by omega) _ (by omega) (by omega) _).mono ?_; rintro e w1 ⟨rfl, hb1⟩)
              | (go_at_call 18; refine (works_any _).mono ?_; rintro e w1 ⟨rfl, hb1⟩)
              | (go_at_call 29; refine (even_fn _ _ _ (by omega) (by omega) (by omega) (by omega) (by omega) (by omega) (by assumption) _).mono ?_; rintro e w' ⟨rfl, rfl⟩))
            all_goals (
              go_ret
              refine ⟨rfl, ?_⟩
              repeat (first | assumption | exact bel0 _ | refine bel ?_ (by assumption))))
    · have fs' : ffin (fadd a b) = false := by simpa using fs
      clear hS1 hS2 fs
      by_cases mm : ffin (fmul a b) = true ∧ 0 ≤ dd ∧ dd ≤ 36
      · have hEE := HE.out mm.1 mm.2.1 mm.2.2
        obtain ⟨m1, m2, m3⟩ := mm
        go_enter Try.func8, Try.ntmps8
        go_wp2_with (first
          | (go_at_call 26; refine (prt_any _ (by omega) (by omega) _).mono ?_; rintro e w' ⟨rfl, rfl⟩)
          | (go_at_call 16; refine (finite_any _ (by omega) (by omega) _).mono ?_; rintro e w' ⟨rfl, rfl⟩)
          | (go_at_call 10; refine (mul_any _ (by omega) (by omega) _ (by omega) (by omega) _).mono ?_; rintro e w1 ⟨rfl, hb1⟩)
          | (go_at_call 9; refine (add_any _ (by omega) (by omega) _ (by omega) (by omega) _).mono ?_; rintro e w1 ⟨rfl, hb1⟩)
          | (go_at_call 18; refine (works_any _).mono ?_; rintro e w1 ⟨rfl, hb1⟩)
          | (go_at_call 29; refine (even_fn _ _ _ (by omega) (by omega) (by omega) (by omega) (by omega) (by omega) (by assumption) _).mono ?_; rintro e w' ⟨rfl, rfl⟩))
        all_goals (
          go_ret
          refine ⟨rfl, ?_⟩
          repeat (first | assumption | exact bel0 _ | refine bel ?_ (by assumption)))
      · clear HE
        rcases (show ffin (fmul a b) = false ∨ (ffin (fmul a b) = true ∧ dd < 0) ∨ (ffin (fmul a b) = true ∧ 36 < dd) by cases q : ffin (fmul a b) <;> simp [q] at mm ⊢; omega) with q | ⟨q, q2⟩ | ⟨q, q2⟩
        all_goals (
          go_enter Try.func8, Try.ntmps8
          go_wp2_with (first
            | (go_at_call 26; refine (prt_any _ (by omega) (by omega) _).mono ?_; rintro e w' ⟨rfl, rfl⟩)
            | (go_at_call 16; refine (finite_any _ (by omega) (by omega) _).mono ?_; rintro e w' ⟨rfl, rfl⟩)
            | (go_at_call 10; refine (mul_any _ (by omega) (by omega) _ (by omega) (by omega) _).mono ?_; rintro e w1 ⟨rfl, hb1⟩)
            | (go_at_call 9; refine (add_any _ (by omega) (by omega) _ (by omega) (by omega) _).mono ?_; rintro e w1 ⟨rfl, hb1⟩)
            | (go_at_call 18; refine (works_any _).mono ?_; rintro e w1 ⟨rfl, hb1⟩))
          all_goals (
            go_ret
            refine ⟨rfl, ?_⟩
            repeat (first | assumption | exact bel0 _ | refine bel ?_ (by assumption))))
  · by_cases mm : ffin (fmul a b) = true ∧ 0 ≤ dd ∧ dd ≤ 36
    · have hEE := HE.out mm.1 mm.2.1 mm.2.2
      obtain ⟨m1, m2, m3⟩ := mm
      go_enter Try.func8, Try.ntmps8
      go_wp2_with (first
        | (go_at_call 26; refine (prt_any _ (by omega) (by omega) _).mono ?_; rintro e w' ⟨rfl, rfl⟩)
        | (go_at_call 16; refine (finite_any _ (by omega) (by omega) _).mono ?_; rintro e w' ⟨rfl, rfl⟩)
        | (go_at_call 10; refine (mul_any _ (by omega) (by omega) _ (by omega) (by omega) _).mono ?_; rintro e w1 ⟨rfl, hb1⟩)
        | (go_at_call 9; refine (add_any _ (by omega) (by omega) _ (by omega) (by omega) _).mono ?_; rintro e w1 ⟨rfl, hb1⟩)
        | (go_at_call 18; refine (works_any _).mono ?_; rintro e w1 ⟨rfl, hb1⟩)
        | (go_at_call 29; refine (even_fn _ _ _ (by omega) (by omega) (by omega) (by omega) (by omega) (by omega) (by assumption) _).mono ?_; rintro e w' ⟨rfl, rfl⟩))
      all_goals (
        go_ret
        refine ⟨rfl, ?_⟩
        repeat (first | assumption | exact bel0 _ | refine bel ?_ (by assumption)))
    · clear HE
      rcases (show ffin (fmul a b) = false ∨ (ffin (fmul a b) = true ∧ dd < 0) ∨ (ffin (fmul a b) = true ∧ 36 < dd) by cases q : ffin (fmul a b) <;> simp [q] at mm ⊢; omega) with q | ⟨q, q2⟩ | ⟨q, q2⟩
      all_goals (
        go_enter Try.func8, Try.ntmps8
        go_wp2_with (first
          | (go_at_call 26; refine (prt_any _ (by omega) (by omega) _).mono ?_; rintro e w' ⟨rfl, rfl⟩)
          | (go_at_call 16; refine (finite_any _ (by omega) (by omega) _).mono ?_; rintro e w' ⟨rfl, rfl⟩)
          | (go_at_call 10; refine (mul_any _ (by omega) (by omega) _ (by omega) (by omega) _).mono ?_; rintro e w1 ⟨rfl, hb1⟩)
          | (go_at_call 9; refine (add_any _ (by omega) (by omega) _ (by omega) (by omega) _).mono ?_; rintro e w1 ⟨rfl, hb1⟩)
          | (go_at_call 18; refine (works_any _).mono ?_; rintro e w1 ⟨rfl, hb1⟩))
        all_goals (
          go_ret
          refine ⟨rfl, ?_⟩
          repeat (first | assumption | exact bel0 _ | refine bel ?_ (by assumption))))

set_option maxHeartbeats 400000 in
theorem walk_FloatNear (a : Int) (h0 : 0 ≤ a) (h1 : a < 4294967296) (b : Int) (g0 : 0 ≤ b) (g1 : b < 4294967296) (w : World) :
    Calls Try.prog 8 #[.int .u32 a, .int .u32 b] w fun e w' => e = .returned (.bool true) ∧ Below w.heap.size w w' := by
  by_cases fa : ffin a = true
  · by_cases fb : ffin b = true
    · by_cases c : pE b < pE a
      · exact near_hi a h0 h1 b g0 g1 fa fb c w
      · exact near_lo a h0 h1 b g0 g1 fa fb (by omega) w
    · have fb' : ffin b = false := by simpa using fb
      clear fb
      go_enter Try.func8, Try.ntmps8
      go_wp2_with (first
        | (go_at_call 26; refine (prt_any _ (by omega) (by omega) _).mono ?_; rintro e w' ⟨rfl, rfl⟩)
        | (go_at_call 16; refine (finite_any _ (by omega) (by omega) _).mono ?_; rintro e w' ⟨rfl, rfl⟩)
        | (go_at_call 10; refine (mul_any _ (by omega) (by omega) _ (by omega) (by omega) _).mono ?_; rintro e w1 ⟨rfl, hb1⟩)
        | (go_at_call 9; refine (add_any _ (by omega) (by omega) _ (by omega) (by omega) _).mono ?_; rintro e w1 ⟨rfl, hb1⟩)
        | (go_at_call 18; refine (works_any _).mono ?_; rintro e w1 ⟨rfl, hb1⟩))
      all_goals (
        go_ret
        refine ⟨rfl, ?_⟩
        repeat (first | assumption | exact bel0 _ | refine bel ?_ (by assumption)))
  · have fa' : ffin a = false := by simpa using fa
    clear fa
    go_enter Try.func8, Try.ntmps8
    go_wp2_with (first
      | (go_at_call 26; refine (prt_any _ (by omega) (by omega) _).mono ?_; rintro e w' ⟨rfl, rfl⟩)
      | (go_at_call 16; refine (finite_any _ (by omega) (by omega) _).mono ?_; rintro e w' ⟨rfl, rfl⟩)
      | (go_at_call 10; refine (mul_any _ (by omega) (by omega) _ (by omega) (by omega) _).mono ?_; rintro e w1 ⟨rfl, hb1⟩)
      | (go_at_call 9; refine (add_any _ (by omega) (by omega) _ (by omega) (by omega) _).mono ?_; rintro e w1 ⟨rfl, hb1⟩)
      | (go_at_call 18; refine (works_any _).mono ?_; rintro e w1 ⟨rfl, hb1⟩))
    all_goals (
      go_ret
      refine ⟨rfl, ?_⟩
      repeat (first | assumption | exact bel0 _ | refine bel ?_ (by assumption)))

end Go.Proofs.Ytbeamaaclplabab
