import Derived.Test.YtbeamaaclplababKeepP
import Derived.Test.YtbeamaaclplababFloatWorks
/- The walk of the statement FloatKeeps. -/
namespace Go.Proofs.Ytbeamaaclplabab
open Go.RowKit
set_option linter.unusedVariables false

theorem feq_self (a : Int) (h0 : 0 ≤ a) : feq a a = !nan a := by
  have h := feq_iff a a h0 h0
  cases hn : nan a
  · rw [hn] at h; simp only [iff_true, and_self] at h; rw [h]; rfl
  · rw [hn] at h; simp only [Bool.true_eq_false, false_and, iff_false] at h
    cases e : feq a a
    · rfl
    · exact absurd e h

set_option maxHeartbeats 400000 in
theorem isnan_any (a : Int) (h0 : 0 ≤ a) (h1 : a < 4294967296) (w : World) :
    Calls Try.prog 19 #[.int .u32 a] w fun e w' => e = .returned (.bool (nan a)) ∧ w' = w := by
  have hf := feq_self a h0
  cases hn : nan a
  all_goals (
    rw [hn] at hf
    go_enter Try.func19, Try.ntmps19
    go_wp2_with (go_at_call 13; refine (equal_any _ (by omega) (by omega) _ (by omega) (by omega) _).mono ?_; rintro e w' ⟨rfl, rfl⟩)
    go_ret
    exact ⟨rfl, rfl⟩)

set_option maxHeartbeats 400000 in
theorem least_any (a : Int) (h0 : 0 ≤ a) (h1 : a < 4294967296) (b : Int) (g0 : 0 ≤ b) (g1 : b < 4294967296) (w : World) :
    Calls Try.prog 21 #[.int .u32 a, .int .u32 b] w fun e w' => e = .returned (.bool (lst a b)) ∧ w' = w := by
  unfold lst
  cases hl : fless a b <;> cases he : feq a b
  all_goals (
    go_enter Try.func21, Try.ntmps21
    go_wp2_with (first
      | (go_at_call 13; refine (equal_any _ (by omega) (by omega) _ (by omega) (by omega) _).mono ?_; rintro e w' ⟨rfl, rfl⟩)
      | (go_at_call 20; refine (less_any _ (by omega) (by omega) _ (by omega) (by omega) _).mono ?_; rintro e w' ⟨rfl, rfl⟩))
    go_ret
    exact ⟨rfl, rfl⟩)

theorem fabs_lo (a : Int) (h0 : 0 ≤ a) (h1 : a < 4294967296) : 0 ≤ fabs a ∧ fabs a < 4294967296 := canon_lo _ (by omega) (by omega)
theorem fabs_ng (c : Int) (h0 : 0 ≤ c) (h1 : c < 4294967296) : ng (fabs c).toNat = false := by
  unfold fabs canon; split
  · decide
  · unfold ng; simp; omega

/-- What the statement asks, of A not above B. -/
theorem keeps_facts (A : Int) (h0 : 0 ≤ A) (h1 : A < 4294967296) (B : Int) (g0 : 0 ≤ B) (g1 : B < 4294967296) (c : Int) (e0 : 0 ≤ c) (e1 : c < 4294967296) (na : nan A = false) (nb : nan B = false) (hle : sv A.toNat ≤ sv B.toNat) :
    (nan (fadd A c) = false → nan (fadd B c) = false → lst (fadd A c) (fadd B c) = true) ∧
    (fless 0 (fabs c) = true → nan (fmul A (fabs c)) = false → nan (fmul B (fabs c)) = false → lst (fmul A (fabs c)) (fmul B (fabs c)) = true) ∧
    (nan (fsqrt A) = false → nan (fsqrt B) = false → lst (fsqrt A) (fsqrt B) = true) := by
  have la := fabs_lo c e0 e1
  refine ⟨?_, ?_, ?_⟩
  · intro nx ny; exact lst_of _ _ (fadd_lo _ _).1 (fadd_lo _ _).1 nx ny (add_keeps A B c h0 g0 e0 na nb hle nx ny)
  · intro hl nx ny
    obtain ⟨-, k1, k2⟩ := (fless_iff 0 (fabs c) (by decide) la.1).1 hl
    have z : sv (0 : Int).toNat = 0 := by decide
    rw [z] at k2
    exact lst_of _ _ (fmul_lo _ _).1 (fmul_lo _ _).1 nx ny (mul_keeps A B (fabs c) h0 g0 la.1 na nb k1 hle (fabs_ng c e0 e1) k2 nx ny)
  · intro nx ny; exact lst_of _ _ (fsqrt_lo _).1 (fsqrt_lo _).1 nx ny (sqrt_keeps A B h0 g0 na nb hle nx ny)

set_option maxHeartbeats 4000000 in
theorem keep_s (a : Int) (h0 : 0 ≤ a) (h1 : a < 4294967296) (b : Int) (g0 : 0 ≤ b) (g1 : b < 4294967296) (c : Int) (e0 : 0 ≤ c) (e1 : c < 4294967296) (na : nan a = false) (nb : nan b = false) (hs : fless b a = true) (hle : sv b.toNat ≤ sv a.toNat) (w : World) :
    Calls Try.prog 4 #[.int .u32 a, .int .u32 b, .int .u32 c] w fun e w' => e = .returned (.bool true) ∧ Below w.heap.size w w' := by
  have la := fabs_lo c e0 e1
  have x1 := fadd_lo a c
  have x2 := fadd_lo b c
  have x3 := fmul_lo a (fabs c)
  have x4 := fmul_lo b (fabs c)
  have x5 := fsqrt_lo a
  have x6 := fsqrt_lo b
  obtain ⟨F1, F2, F3⟩ := keeps_facts b g0 g1 a h0 h1 c e0 e1 nb na hle
  clear hle
  have C1 : nan (fadd b c) = true ∨ (nan (fadd b c) = false ∧ nan (fadd a c) = true) ∨ (nan (fadd b c) = false ∧ nan (fadd a c) = false ∧ lst (fadd b c) (fadd a c) = true) := by
    cases p : nan (fadd b c) <;> cases q : nan (fadd a c) <;> simp_all
  have C2 : fless 0 (fabs c) = false ∨ (fless 0 (fabs c) = true ∧ nan (fmul b (fabs c)) = true) ∨ (fless 0 (fabs c) = true ∧ nan (fmul b (fabs c)) = false ∧ nan (fmul a (fabs c)) = true) ∨ (fless 0 (fabs c) = true ∧ nan (fmul b (fabs c)) = false ∧ nan (fmul a (fabs c)) = false ∧ lst (fmul b (fabs c)) (fmul a (fabs c)) = true) := by
    cases z : fless 0 (fabs c) <;> cases p : nan (fmul b (fabs c)) <;> cases q : nan (fmul a (fabs c)) <;> simp_all
  have C3 : nan (fsqrt b) = true ∨ (nan (fsqrt b) = false ∧ nan (fsqrt a) = true) ∨ (nan (fsqrt b) = false ∧ nan (fsqrt a) = false ∧ lst (fsqrt b) (fsqrt a) = true) := by
    cases p : nan (fsqrt b) <;> cases q : nan (fsqrt a) <;> simp_all
  clear F1 F2 F3
  rcases C1 with c1 | ⟨c1, c1'⟩ | ⟨c1, c1', c1''⟩ <;> rcases C2 with c2 | ⟨c2, c2'⟩ | ⟨c2, c2', c2''⟩ | ⟨c2, c2', c2'', c2'''⟩ <;> rcases C3 with c3 | ⟨c3, c3'⟩ | ⟨c3, c3', c3''⟩
  all_goals (
    go_enter Try.func4, Try.ntmps4
    go_wp2_with (first
      | (go_at_call 19; refine (isnan_any _ (by omega) (by omega) _).mono ?_; rintro e w' ⟨rfl, rfl⟩)
      | (go_at_call 21; refine (least_any _ (by omega) (by omega) _ (by omega) (by omega) _).mono ?_; rintro e w' ⟨rfl, rfl⟩)
      | (go_at_call 20; refine (less_any _ (by omega) (by omega) _ (by omega) (by omega) _).mono ?_; rintro e w' ⟨rfl, rfl⟩)
      | (go_at_call 22; refine (abs_any _ (by omega) (by omega) _).mono ?_; rintro e w' ⟨rfl, rfl⟩)
      | (go_at_call 9; refine (add_any _ (by omega) (by omega) _ (by omega) (by omega) _).mono ?_; rintro e w1 ⟨rfl, hb1⟩)
      | (go_at_call 10; refine (mul_any _ (by omega) (by omega) _ (by omega) (by omega) _).mono ?_; rintro e w1 ⟨rfl, hb1⟩)
      | (go_at_call 23; refine (sqrt_any _ (by omega) (by omega) _).mono ?_; rintro e w1 ⟨rfl, hb1⟩)
      | (go_at_call 18; refine (works_any _).mono ?_; rintro e w1 ⟨rfl, hb1⟩))
    all_goals (
      go_ret
      refine ⟨rfl, ?_⟩
      repeat (first | (with_reducible assumption) | (with_reducible exact bel0 _) | (with_reducible refine bel ?_ (by with_reducible assumption)))))

set_option maxHeartbeats 4000000 in
theorem keep_n (a : Int) (h0 : 0 ≤ a) (h1 : a < 4294967296) (b : Int) (g0 : 0 ≤ b) (g1 : b < 4294967296) (c : Int) (e0 : 0 ≤ c) (e1 : c < 4294967296) (na : nan a = false) (nb : nan b = false) (hs : fless b a = false) (hle : sv a.toNat ≤ sv b.toNat) (w : World) :
    Calls Try.prog 4 #[.int .u32 a, .int .u32 b, .int .u32 c] w fun e w' => e = .returned (.bool true) ∧ Below w.heap.size w w' := by
  have la := fabs_lo c e0 e1
  have x1 := fadd_lo a c
  have x2 := fadd_lo b c
  have x3 := fmul_lo a (fabs c)
  have x4 := fmul_lo b (fabs c)
  have x5 := fsqrt_lo a
  have x6 := fsqrt_lo b
  obtain ⟨F1, F2, F3⟩ := keeps_facts a h0 h1 b g0 g1 c e0 e1 na nb hle
  clear hle
  have C1 : nan (fadd a c) = true ∨ (nan (fadd a c) = false ∧ nan (fadd b c) = true) ∨ (nan (fadd a c) = false ∧ nan (fadd b c) = false ∧ lst (fadd a c) (fadd b c) = true) := by
    cases p : nan (fadd a c) <;> cases q : nan (fadd b c) <;> simp_all
  have C2 : fless 0 (fabs c) = false ∨ (fless 0 (fabs c) = true ∧ nan (fmul a (fabs c)) = true) ∨ (fless 0 (fabs c) = true ∧ nan (fmul a (fabs c)) = false ∧ nan (fmul b (fabs c)) = true) ∨ (fless 0 (fabs c) = true ∧ nan (fmul a (fabs c)) = false ∧ nan (fmul b (fabs c)) = false ∧ lst (fmul a (fabs c)) (fmul b (fabs c)) = true) := by
    cases z : fless 0 (fabs c) <;> cases p : nan (fmul a (fabs c)) <;> cases q : nan (fmul b (fabs c)) <;> simp_all
  have C3 : nan (fsqrt a) = true ∨ (nan (fsqrt a) = false ∧ nan (fsqrt b) = true) ∨ (nan (fsqrt a) = false ∧ nan (fsqrt b) = false ∧ lst (fsqrt a) (fsqrt b) = true) := by
    cases p : nan (fsqrt a) <;> cases q : nan (fsqrt b) <;> simp_all
  clear F1 F2 F3
  rcases C1 with c1 | ⟨c1, c1'⟩ | ⟨c1, c1', c1''⟩ <;> rcases C2 with c2 | ⟨c2, c2'⟩ | ⟨c2, c2', c2''⟩ | ⟨c2, c2', c2'', c2'''⟩ <;> rcases C3 with c3 | ⟨c3, c3'⟩ | ⟨c3, c3', c3''⟩
  all_goals (
    go_enter Try.func4, Try.ntmps4
    go_wp2_with (first
      | (go_at_call 19; refine (isnan_any _ (by omega) (by omega) _).mono ?_; rintro e w' ⟨rfl, rfl⟩)
      | (go_at_call 21; refine (least_any _ (by omega) (by omega) _ (by omega) (by omega) _).mono ?_; rintro e w' ⟨rfl, rfl⟩)
      | (go_at_call 20; refine (less_any _ (by omega) (by omega) _ (by omega) (by omega) _).mono ?_; rintro e w' ⟨rfl, rfl⟩)
      | (go_at_call 22; refine (abs_any _ (by omega) (by omega) _).mono ?_; rintro e w' ⟨rfl, rfl⟩)
      | (go_at_call 9; refine (add_any _ (by omega) (by omega) _ (by omega) (by omega) _).mono ?_; rintro e w1 ⟨rfl, hb1⟩)
      | (go_at_call 10; refine (mul_any _ (by omega) (by omega) _ (by omega) (by omega) _).mono ?_; rintro e w1 ⟨rfl, hb1⟩)
      | (go_at_call 23; refine (sqrt_any _ (by omega) (by omega) _).mono ?_; rintro e w1 ⟨rfl, hb1⟩)
      | (go_at_call 18; refine (works_any _).mono ?_; rintro e w1 ⟨rfl, hb1⟩))
    all_goals (
      go_ret
      refine ⟨rfl, ?_⟩
      repeat (first | (with_reducible assumption) | (with_reducible exact bel0 _) | (with_reducible refine bel ?_ (by with_reducible assumption)))))

set_option maxHeartbeats 400000 in
theorem walk_FloatKeeps (a : Int) (h0 : 0 ≤ a) (h1 : a < 4294967296) (b : Int) (g0 : 0 ≤ b) (g1 : b < 4294967296) (c : Int) (e0 : 0 ≤ c) (e1 : c < 4294967296) (w : World) :
    Calls Try.prog 4 #[.int .u32 a, .int .u32 b, .int .u32 c] w fun e w' => e = .returned (.bool true) ∧ Below w.heap.size w w' := by
  cases na : nan a
  · cases nb : nan b
    · cases hs : fless b a
      · refine keep_n a h0 h1 b g0 g1 c e0 e1 na nb hs ?_ w
        have h := fless_iff b a g0 h0
        rw [hs] at h
        simp only [Bool.false_eq_true, false_iff, na, nb, true_and] at h
        omega
      · refine keep_s a h0 h1 b g0 g1 c e0 e1 na nb hs ?_ w
        have h := (fless_iff b a g0 h0).1 hs
        omega
    · skip
      go_enter Try.func4, Try.ntmps4
      go_wp2_with (first
        | (go_at_call 19; refine (isnan_any _ (by omega) (by omega) _).mono ?_; rintro e w' ⟨rfl, rfl⟩)
        | (go_at_call 21; refine (least_any _ (by omega) (by omega) _ (by omega) (by omega) _).mono ?_; rintro e w' ⟨rfl, rfl⟩)
        | (go_at_call 20; refine (less_any _ (by omega) (by omega) _ (by omega) (by omega) _).mono ?_; rintro e w' ⟨rfl, rfl⟩)
        | (go_at_call 22; refine (abs_any _ (by omega) (by omega) _).mono ?_; rintro e w' ⟨rfl, rfl⟩)
        | (go_at_call 9; refine (add_any _ (by omega) (by omega) _ (by omega) (by omega) _).mono ?_; rintro e w1 ⟨rfl, hb1⟩)
        | (go_at_call 10; refine (mul_any _ (by omega) (by omega) _ (by omega) (by omega) _).mono ?_; rintro e w1 ⟨rfl, hb1⟩)
        | (go_at_call 23; refine (sqrt_any _ (by omega) (by omega) _).mono ?_; rintro e w1 ⟨rfl, hb1⟩)
        | (go_at_call 18; refine (works_any _).mono ?_; rintro e w1 ⟨rfl, hb1⟩))
      all_goals (
        go_ret
        refine ⟨rfl, ?_⟩
        repeat (first | (with_reducible assumption) | (with_reducible exact bel0 _) | (with_reducible refine bel ?_ (by with_reducible assumption))))
  · skip
    go_enter Try.func4, Try.ntmps4
    go_wp2_with (first
      | (go_at_call 19; refine (isnan_any _ (by omega) (by omega) _).mono ?_; rintro e w' ⟨rfl, rfl⟩)
      | (go_at_call 21; refine (least_any _ (by omega) (by omega) _ (by omega) (by omega) _).mono ?_; rintro e w' ⟨rfl, rfl⟩)
      | (go_at_call 20; refine (less_any _ (by omega) (by omega) _ (by omega) (by omega) _).mono ?_; rintro e w' ⟨rfl, rfl⟩)
      | (go_at_call 22; refine (abs_any _ (by omega) (by omega) _).mono ?_; rintro e w' ⟨rfl, rfl⟩)
      | (go_at_call 9; refine (add_any _ (by omega) (by omega) _ (by omega) (by omega) _).mono ?_; rintro e w1 ⟨rfl, hb1⟩)
      | (go_at_call 10; refine (mul_any _ (by omega) (by omega) _ (by omega) (by omega) _).mono ?_; rintro e w1 ⟨rfl, hb1⟩)
      | (go_at_call 23; refine (sqrt_any _ (by omega) (by omega) _).mono ?_; rintro e w1 ⟨rfl, hb1⟩)
      | (go_at_call 18; refine (works_any _).mono ?_; rintro e w1 ⟨rfl, hb1⟩))
    all_goals (
      go_ret
      refine ⟨rfl, ?_⟩
      repeat (first | (with_reducible assumption) | (with_reducible exact bel0 _) | (with_reducible refine bel ?_ (by with_reducible assumption))))

end Go.Proofs.Ytbeamaaclplabab
