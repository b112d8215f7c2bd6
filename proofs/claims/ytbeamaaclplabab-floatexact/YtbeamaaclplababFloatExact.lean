import Derived.Test.YtbeamaaclplababExactQ
import Derived.Handy
import Derived.Deep.QuietTactic
import Derived.BigQuiet
/- The walk of the statement FloatExact. -/
namespace Go.Proofs.Ytbeamaaclplabab
open Go.RowKit
set_option linter.unusedVariables false

set_option maxHeartbeats 400000 in
theorem fixed_any (a : Int) (h0 : 0 ≤ a) (h1 : a < 4294967296) (w : World) :
    Calls Try.prog 28 #[.int .u32 a] w fun e w' => e = .returned (.int .u32 (if a = 2147483648 then 0 else a)) ∧ w' = w := by
  by_cases c : a = 2147483648
  · rw [if_pos c]
    go_enter Try.func28, Try.ntmps28
    go_wp2
    go_ret
    exact ⟨rfl, rfl⟩
  · rw [if_neg c]
    go_enter Try.func28, Try.ntmps28
    go_wp2
    go_ret
    exact ⟨rfl, rfl⟩

theorem bel_dN (w : World) (o : Obj) (n : Nat) : Below w.heap.size w ((w.alloc o).drewN n) := by
  have h := (Below.refl w.heap.size w).alloc (Nat.le_refl _) o
  exact ⟨h.os, h.tape, h.output, h.size, h.block⟩
theorem fabs_lo (a : Int) (h0 : 0 ≤ a) (h1 : a < 4294967296) : 0 ≤ fabs a ∧ fabs a < 4294967296 := canon_lo _ (by omega) (by omega)
theorem prod_lo (m n : Int) (h1 : -16777216 < m) (h2 : m < 16777216) (h3 : -16777216 < n) (h4 : n < 16777216) : -281474976710656 ≤ m * n ∧ m * n ≤ 281474976710656 := by
  have key : (m * n).natAbs ≤ 16777216 * 16777216 := by
    rw [Int.natAbs_mul]; exact Nat.mul_le_mul (by omega) (by omega)
  omega
theorem pq_lo (p q : Int) (h1 : p.natAbs ≤ 4096) (h2 : q.natAbs ≤ 4096) : -16777216 ≤ p * q ∧ p * q ≤ 16777216 := by
  have key : (p * q).natAbs ≤ 4096 * 4096 := by rw [Int.natAbs_mul]; exact Nat.mul_le_mul h1 h2
  omega

set_option maxHeartbeats 2000000 in
theorem ex_a (a : Int) (h0 : 0 ≤ a) (h1 : a < 4294967296) (b : Int) (g0 : 0 ≤ b) (g1 : b < 4294967296) (p : Int) (p0 : -9223372036854775808 ≤ p) (p1 : p ≤ 9223372036854775807) (q : Int) (q0 : -9223372036854775808 ≤ q) (q1 : q ≤ 9223372036854775807) (X Y : Int) (X0 : 0 ≤ X) (X1 : X < 4294967296) (Y0 : 0 ≤ Y) (Y1 : Y < 4294967296) (hX : bits .and .u32 a 4294963200 = X) (hY : bits .and .u32 b 4294963200 = Y) (fx : ffin X = false) (w : World) :
    Calls Try.prog 7 #[.agg #[.int .u32 a, .int .u32 b, .int .i64 p, .int .i64 q]] w fun e w' => e = .returned (.bool true) ∧ Below w.heap.size w w' := by
  have la := fabs_lo a h0 h1
  have lz := fmul_lo X Y
  have lzz := fabs_lo (fmul X Y) lz.1 lz.2
  have laa := fmul_lo a a
  have lsq := fsqrt_lo (fmul a a)
  obtain ⟨P, hP⟩ : ∃ P : Int, p.tmod 4097 = P := ⟨_, rfl⟩
  obtain ⟨Q, hQ⟩ : ∃ Q : Int, q.tmod 4097 = Q := ⟨_, rfl⟩
  have bP : P.natAbs ≤ 4096 := by rw [← hP, Int.tmod_eq_emod]; split <;> omega
  have bQ : Q.natAbs ≤ 4096 := by rw [← hQ, Int.tmod_eq_emod]; split <;> omega
  have bP2 : -4096 ≤ P ∧ P ≤ 4096 := by omega
  have bQ2 : -4096 ≤ Q ∧ Q ≤ 4096 := by omega
  have bPQ := pq_lo P Q bP bQ
  have w1 := ffrom_add P Q bP bQ
  have w2 := ffrom_mul P Q bP bQ
  obtain ⟨PQ, hPQ⟩ : ∃ PQ : Int, P * Q = PQ := ⟨_, rfl⟩
  rw [hPQ] at bPQ w2
  have f9 : wrap64 (P * Q) = PQ := by rw [hPQ]; unfold wrap64; omega
  have lP := ffrom_lo P
  have lQ := ffrom_lo Q
  have lm := fmul_lo (ffrom P) (ffrom Q)
  clear hPQ bP bQ
  cases k1 : fless (fabs a) 562036736
  · cases k2 : fless 1568669696 (fabs a)
    · cases k3 : ffin (fabs a)
      · skip
        go_enter Try.func7, Try.ntmps7
        go_wp2
        go_quiet (fail)
        go_wp2_with (first
          | (go_at_call 10; refine (mul_any _ (by omega) (by omega) _ (by omega) (by omega) _).mono ?_; rintro e w1 ⟨rfl, hb1⟩)
          | (go_at_call 22; refine (abs_any _ (by omega) (by omega) _).mono ?_; rintro e w' ⟨rfl, rfl⟩)
          | (go_at_call 16; refine (finite_any _ (by omega) (by omega) _).mono ?_; rintro e w' ⟨rfl, rfl⟩)
          | (go_at_call 20; refine (less_any _ (by omega) (by omega) _ (by omega) (by omega) _).mono ?_; rintro e w' ⟨rfl, rfl⟩)
          | (go_at_call 26; refine (prt_any _ (by omega) (by omega) _).mono ?_; rintro e w' ⟨rfl, rfl⟩)
          | (go_at_call 23; refine (sqrt_any _ (by omega) (by omega) _).mono ?_; rintro e w1 ⟨rfl, hb1⟩)
          | (go_at_call 27; refine (from_any _ (by omega) (by omega) _).mono ?_; rintro e w' ⟨rfl, rfl⟩)
          | (go_at_call 9; refine (add_any _ (by omega) (by omega) _ (by omega) (by omega) _).mono ?_; rintro e w1 ⟨rfl, hb1⟩)
          | (go_at_call 28; refine (fixed_any _ (by omega) (by omega) _).mono ?_; rintro e w' ⟨rfl, rfl⟩)
          | (go_at_call 18; refine (works_any _).mono ?_; rintro e w1 ⟨rfl, hb1⟩))
        all_goals (
          go_ret
          refine ⟨rfl, ?_⟩
          repeat (with_reducible refine bel ?_ (by with_reducible assumption))
          exact bel_dN _ _ _)
      · have hsq := fsqrt_sq a h0 h1 k1 k2 k3
        go_enter Try.func7, Try.ntmps7
        go_wp2
        go_quiet (fail)
        go_wp2_with (first
          | (go_at_call 10; refine (mul_any _ (by omega) (by omega) _ (by omega) (by omega) _).mono ?_; rintro e w1 ⟨rfl, hb1⟩)
          | (go_at_call 22; refine (abs_any _ (by omega) (by omega) _).mono ?_; rintro e w' ⟨rfl, rfl⟩)
          | (go_at_call 16; refine (finite_any _ (by omega) (by omega) _).mono ?_; rintro e w' ⟨rfl, rfl⟩)
          | (go_at_call 20; refine (less_any _ (by omega) (by omega) _ (by omega) (by omega) _).mono ?_; rintro e w' ⟨rfl, rfl⟩)
          | (go_at_call 26; refine (prt_any _ (by omega) (by omega) _).mono ?_; rintro e w' ⟨rfl, rfl⟩)
          | (go_at_call 23; refine (sqrt_any _ (by omega) (by omega) _).mono ?_; rintro e w1 ⟨rfl, hb1⟩)
          | (go_at_call 27; refine (from_any _ (by omega) (by omega) _).mono ?_; rintro e w' ⟨rfl, rfl⟩)
          | (go_at_call 9; refine (add_any _ (by omega) (by omega) _ (by omega) (by omega) _).mono ?_; rintro e w1 ⟨rfl, hb1⟩)
          | (go_at_call 28; refine (fixed_any _ (by omega) (by omega) _).mono ?_; rintro e w' ⟨rfl, rfl⟩)
          | (go_at_call 18; refine (works_any _).mono ?_; rintro e w1 ⟨rfl, hb1⟩))
        all_goals (
          go_ret
          refine ⟨rfl, ?_⟩
          repeat (with_reducible refine bel ?_ (by with_reducible assumption))
          exact bel_dN _ _ _)
    · skip
      go_enter Try.func7, Try.ntmps7
      go_wp2
      go_quiet (fail)
      go_wp2_with (first
        | (go_at_call 10; refine (mul_any _ (by omega) (by omega) _ (by omega) (by omega) _).mono ?_; rintro e w1 ⟨rfl, hb1⟩)
        | (go_at_call 22; refine (abs_any _ (by omega) (by omega) _).mono ?_; rintro e w' ⟨rfl, rfl⟩)
        | (go_at_call 16; refine (finite_any _ (by omega) (by omega) _).mono ?_; rintro e w' ⟨rfl, rfl⟩)
        | (go_at_call 20; refine (less_any _ (by omega) (by omega) _ (by omega) (by omega) _).mono ?_; rintro e w' ⟨rfl, rfl⟩)
        | (go_at_call 26; refine (prt_any _ (by omega) (by omega) _).mono ?_; rintro e w' ⟨rfl, rfl⟩)
        | (go_at_call 23; refine (sqrt_any _ (by omega) (by omega) _).mono ?_; rintro e w1 ⟨rfl, hb1⟩)
        | (go_at_call 27; refine (from_any _ (by omega) (by omega) _).mono ?_; rintro e w' ⟨rfl, rfl⟩)
        | (go_at_call 9; refine (add_any _ (by omega) (by omega) _ (by omega) (by omega) _).mono ?_; rintro e w1 ⟨rfl, hb1⟩)
        | (go_at_call 28; refine (fixed_any _ (by omega) (by omega) _).mono ?_; rintro e w' ⟨rfl, rfl⟩)
        | (go_at_call 18; refine (works_any _).mono ?_; rintro e w1 ⟨rfl, hb1⟩))
      all_goals (
        go_ret
        refine ⟨rfl, ?_⟩
        repeat (with_reducible refine bel ?_ (by with_reducible assumption))
        exact bel_dN _ _ _)
  · skip
    go_enter Try.func7, Try.ntmps7
    go_wp2
    go_quiet (fail)
    go_wp2_with (first
      | (go_at_call 10; refine (mul_any _ (by omega) (by omega) _ (by omega) (by omega) _).mono ?_; rintro e w1 ⟨rfl, hb1⟩)
      | (go_at_call 22; refine (abs_any _ (by omega) (by omega) _).mono ?_; rintro e w' ⟨rfl, rfl⟩)
      | (go_at_call 16; refine (finite_any _ (by omega) (by omega) _).mono ?_; rintro e w' ⟨rfl, rfl⟩)
      | (go_at_call 20; refine (less_any _ (by omega) (by omega) _ (by omega) (by omega) _).mono ?_; rintro e w' ⟨rfl, rfl⟩)
      | (go_at_call 26; refine (prt_any _ (by omega) (by omega) _).mono ?_; rintro e w' ⟨rfl, rfl⟩)
      | (go_at_call 23; refine (sqrt_any _ (by omega) (by omega) _).mono ?_; rintro e w1 ⟨rfl, hb1⟩)
      | (go_at_call 27; refine (from_any _ (by omega) (by omega) _).mono ?_; rintro e w' ⟨rfl, rfl⟩)
      | (go_at_call 9; refine (add_any _ (by omega) (by omega) _ (by omega) (by omega) _).mono ?_; rintro e w1 ⟨rfl, hb1⟩)
      | (go_at_call 28; refine (fixed_any _ (by omega) (by omega) _).mono ?_; rintro e w' ⟨rfl, rfl⟩)
      | (go_at_call 18; refine (works_any _).mono ?_; rintro e w1 ⟨rfl, hb1⟩))
    all_goals (
      go_ret
      refine ⟨rfl, ?_⟩
      repeat (with_reducible refine bel ?_ (by with_reducible assumption))
      exact bel_dN _ _ _)

set_option maxHeartbeats 2000000 in
theorem ex_b (a : Int) (h0 : 0 ≤ a) (h1 : a < 4294967296) (b : Int) (g0 : 0 ≤ b) (g1 : b < 4294967296) (p : Int) (p0 : -9223372036854775808 ≤ p) (p1 : p ≤ 9223372036854775807) (q : Int) (q0 : -9223372036854775808 ≤ q) (q1 : q ≤ 9223372036854775807) (X Y : Int) (X0 : 0 ≤ X) (X1 : X < 4294967296) (Y0 : 0 ≤ Y) (Y1 : Y < 4294967296) (hX : bits .and .u32 a 4294963200 = X) (hY : bits .and .u32 b 4294963200 = Y) (fx : ffin X = true) (fy : ffin Y = false) (w : World) :
    Calls Try.prog 7 #[.agg #[.int .u32 a, .int .u32 b, .int .i64 p, .int .i64 q]] w fun e w' => e = .returned (.bool true) ∧ Below w.heap.size w w' := by
  have la := fabs_lo a h0 h1
  have lz := fmul_lo X Y
  have lzz := fabs_lo (fmul X Y) lz.1 lz.2
  have laa := fmul_lo a a
  have lsq := fsqrt_lo (fmul a a)
  obtain ⟨P, hP⟩ : ∃ P : Int, p.tmod 4097 = P := ⟨_, rfl⟩
  obtain ⟨Q, hQ⟩ : ∃ Q : Int, q.tmod 4097 = Q := ⟨_, rfl⟩
  have bP : P.natAbs ≤ 4096 := by rw [← hP, Int.tmod_eq_emod]; split <;> omega
  have bQ : Q.natAbs ≤ 4096 := by rw [← hQ, Int.tmod_eq_emod]; split <;> omega
  have bP2 : -4096 ≤ P ∧ P ≤ 4096 := by omega
  have bQ2 : -4096 ≤ Q ∧ Q ≤ 4096 := by omega
  have bPQ := pq_lo P Q bP bQ
  have w1 := ffrom_add P Q bP bQ
  have w2 := ffrom_mul P Q bP bQ
  obtain ⟨PQ, hPQ⟩ : ∃ PQ : Int, P * Q = PQ := ⟨_, rfl⟩
  rw [hPQ] at bPQ w2
  have f9 : wrap64 (P * Q) = PQ := by rw [hPQ]; unfold wrap64; omega
  have lP := ffrom_lo P
  have lQ := ffrom_lo Q
  have lm := fmul_lo (ffrom P) (ffrom Q)
  clear hPQ bP bQ
  cases k1 : fless (fabs a) 562036736
  · cases k2 : fless 1568669696 (fabs a)
    · cases k3 : ffin (fabs a)
      · skip
        go_enter Try.func7, Try.ntmps7
        go_wp2
        go_quiet (fail)
        go_wp2_with (first
          | (go_at_call 10; refine (mul_any _ (by omega) (by omega) _ (by omega) (by omega) _).mono ?_; rintro e w1 ⟨rfl, hb1⟩)
          | (go_at_call 22; refine (abs_any _ (by omega) (by omega) _).mono ?_; rintro e w' ⟨rfl, rfl⟩)
          | (go_at_call 16; refine (finite_any _ (by omega) (by omega) _).mono ?_; rintro e w' ⟨rfl, rfl⟩)
          | (go_at_call 20; refine (less_any _ (by omega) (by omega) _ (by omega) (by omega) _).mono ?_; rintro e w' ⟨rfl, rfl⟩)
          | (go_at_call 26; refine (prt_any _ (by omega) (by omega) _).mono ?_; rintro e w' ⟨rfl, rfl⟩)
          | (go_at_call 23; refine (sqrt_any _ (by omega) (by omega) _).mono ?_; rintro e w1 ⟨rfl, hb1⟩)
          | (go_at_call 27; refine (from_any _ (by omega) (by omega) _).mono ?_; rintro e w' ⟨rfl, rfl⟩)
          | (go_at_call 9; refine (add_any _ (by omega) (by omega) _ (by omega) (by omega) _).mono ?_; rintro e w1 ⟨rfl, hb1⟩)
          | (go_at_call 28; refine (fixed_any _ (by omega) (by omega) _).mono ?_; rintro e w' ⟨rfl, rfl⟩)
          | (go_at_call 18; refine (works_any _).mono ?_; rintro e w1 ⟨rfl, hb1⟩))
        all_goals (
          go_ret
          refine ⟨rfl, ?_⟩
          repeat (with_reducible refine bel ?_ (by with_reducible assumption))
          exact bel_dN _ _ _)
      · have hsq := fsqrt_sq a h0 h1 k1 k2 k3
        go_enter Try.func7, Try.ntmps7
        go_wp2
        go_quiet (fail)
        go_wp2_with (first
          | (go_at_call 10; refine (mul_any _ (by omega) (by omega) _ (by omega) (by omega) _).mono ?_; rintro e w1 ⟨rfl, hb1⟩)
          | (go_at_call 22; refine (abs_any _ (by omega) (by omega) _).mono ?_; rintro e w' ⟨rfl, rfl⟩)
          | (go_at_call 16; refine (finite_any _ (by omega) (by omega) _).mono ?_; rintro e w' ⟨rfl, rfl⟩)
          | (go_at_call 20; refine (less_any _ (by omega) (by omega) _ (by omega) (by omega) _).mono ?_; rintro e w' ⟨rfl, rfl⟩)
          | (go_at_call 26; refine (prt_any _ (by omega) (by omega) _).mono ?_; rintro e w' ⟨rfl, rfl⟩)
          | (go_at_call 23; refine (sqrt_any _ (by omega) (by omega) _).mono ?_; rintro e w1 ⟨rfl, hb1⟩)
          | (go_at_call 27; refine (from_any _ (by omega) (by omega) _).mono ?_; rintro e w' ⟨rfl, rfl⟩)
          | (go_at_call 9; refine (add_any _ (by omega) (by omega) _ (by omega) (by omega) _).mono ?_; rintro e w1 ⟨rfl, hb1⟩)
          | (go_at_call 28; refine (fixed_any _ (by omega) (by omega) _).mono ?_; rintro e w' ⟨rfl, rfl⟩)
          | (go_at_call 18; refine (works_any _).mono ?_; rintro e w1 ⟨rfl, hb1⟩))
        all_goals (
          go_ret
          refine ⟨rfl, ?_⟩
          repeat (with_reducible refine bel ?_ (by with_reducible assumption))
          exact bel_dN _ _ _)
    · skip
      go_enter Try.func7, Try.ntmps7
      go_wp2
      go_quiet (fail)
      go_wp2_with (first
        | (go_at_call 10; refine (mul_any _ (by omega) (by omega) _ (by omega) (by omega) _).mono ?_; rintro e w1 ⟨rfl, hb1⟩)
        | (go_at_call 22; refine (abs_any _ (by omega) (by omega) _).mono ?_; rintro e w' ⟨rfl, rfl⟩)
        | (go_at_call 16; refine (finite_any _ (by omega) (by omega) _).mono ?_; rintro e w' ⟨rfl, rfl⟩)
        | (go_at_call 20; refine (less_any _ (by omega) (by omega) _ (by omega) (by omega) _).mono ?_; rintro e w' ⟨rfl, rfl⟩)
        | (go_at_call 26; refine (prt_any _ (by omega) (by omega) _).mono ?_; rintro e w' ⟨rfl, rfl⟩)
        | (go_at_call 23; refine (sqrt_any _ (by omega) (by omega) _).mono ?_; rintro e w1 ⟨rfl, hb1⟩)
        | (go_at_call 27; refine (from_any _ (by omega) (by omega) _).mono ?_; rintro e w' ⟨rfl, rfl⟩)
        | (go_at_call 9; refine (add_any _ (by omega) (by omega) _ (by omega) (by omega) _).mono ?_; rintro e w1 ⟨rfl, hb1⟩)
        | (go_at_call 28; refine (fixed_any _ (by omega) (by omega) _).mono ?_; rintro e w' ⟨rfl, rfl⟩)
        | (go_at_call 18; refine (works_any _).mono ?_; rintro e w1 ⟨rfl, hb1⟩))
      all_goals (
        go_ret
        refine ⟨rfl, ?_⟩
        repeat (with_reducible refine bel ?_ (by with_reducible assumption))
        exact bel_dN _ _ _)
  · skip
    go_enter Try.func7, Try.ntmps7
    go_wp2
    go_quiet (fail)
    go_wp2_with (first
      | (go_at_call 10; refine (mul_any _ (by omega) (by omega) _ (by omega) (by omega) _).mono ?_; rintro e w1 ⟨rfl, hb1⟩)
      | (go_at_call 22; refine (abs_any _ (by omega) (by omega) _).mono ?_; rintro e w' ⟨rfl, rfl⟩)
      | (go_at_call 16; refine (finite_any _ (by omega) (by omega) _).mono ?_; rintro e w' ⟨rfl, rfl⟩)
      | (go_at_call 20; refine (less_any _ (by omega) (by omega) _ (by omega) (by omega) _).mono ?_; rintro e w' ⟨rfl, rfl⟩)
      | (go_at_call 26; refine (prt_any _ (by omega) (by omega) _).mono ?_; rintro e w' ⟨rfl, rfl⟩)
      | (go_at_call 23; refine (sqrt_any _ (by omega) (by omega) _).mono ?_; rintro e w1 ⟨rfl, hb1⟩)
      | (go_at_call 27; refine (from_any _ (by omega) (by omega) _).mono ?_; rintro e w' ⟨rfl, rfl⟩)
      | (go_at_call 9; refine (add_any _ (by omega) (by omega) _ (by omega) (by omega) _).mono ?_; rintro e w1 ⟨rfl, hb1⟩)
      | (go_at_call 28; refine (fixed_any _ (by omega) (by omega) _).mono ?_; rintro e w' ⟨rfl, rfl⟩)
      | (go_at_call 18; refine (works_any _).mono ?_; rintro e w1 ⟨rfl, hb1⟩))
    all_goals (
      go_ret
      refine ⟨rfl, ?_⟩
      repeat (with_reducible refine bel ?_ (by with_reducible assumption))
      exact bel_dN _ _ _)

set_option maxHeartbeats 2000000 in
theorem ex_c (a : Int) (h0 : 0 ≤ a) (h1 : a < 4294967296) (b : Int) (g0 : 0 ≤ b) (g1 : b < 4294967296) (p : Int) (p0 : -9223372036854775808 ≤ p) (p1 : p ≤ 9223372036854775807) (q : Int) (q0 : -9223372036854775808 ≤ q) (q1 : q ≤ 9223372036854775807) (X Y : Int) (X0 : 0 ≤ X) (X1 : X < 4294967296) (Y0 : 0 ≤ Y) (Y1 : Y < 4294967296) (hX : bits .and .u32 a 4294963200 = X) (hY : bits .and .u32 b 4294963200 = Y) (fx : ffin X = true) (fy : ffin Y = true) (fz : ffin (fmul X Y) = false) (w : World) :
    Calls Try.prog 7 #[.agg #[.int .u32 a, .int .u32 b, .int .i64 p, .int .i64 q]] w fun e w' => e = .returned (.bool true) ∧ Below w.heap.size w w' := by
  have la := fabs_lo a h0 h1
  have lz := fmul_lo X Y
  have lzz := fabs_lo (fmul X Y) lz.1 lz.2
  have laa := fmul_lo a a
  have lsq := fsqrt_lo (fmul a a)
  obtain ⟨P, hP⟩ : ∃ P : Int, p.tmod 4097 = P := ⟨_, rfl⟩
  obtain ⟨Q, hQ⟩ : ∃ Q : Int, q.tmod 4097 = Q := ⟨_, rfl⟩
  have bP : P.natAbs ≤ 4096 := by rw [← hP, Int.tmod_eq_emod]; split <;> omega
  have bQ : Q.natAbs ≤ 4096 := by rw [← hQ, Int.tmod_eq_emod]; split <;> omega
  have bP2 : -4096 ≤ P ∧ P ≤ 4096 := by omega
  have bQ2 : -4096 ≤ Q ∧ Q ≤ 4096 := by omega
  have bPQ := pq_lo P Q bP bQ
  have w1 := ffrom_add P Q bP bQ
  have w2 := ffrom_mul P Q bP bQ
  obtain ⟨PQ, hPQ⟩ : ∃ PQ : Int, P * Q = PQ := ⟨_, rfl⟩
  rw [hPQ] at bPQ w2
  have f9 : wrap64 (P * Q) = PQ := by rw [hPQ]; unfold wrap64; omega
  have lP := ffrom_lo P
  have lQ := ffrom_lo Q
  have lm := fmul_lo (ffrom P) (ffrom Q)
  clear hPQ bP bQ
  cases k1 : fless (fabs a) 562036736
  · cases k2 : fless 1568669696 (fabs a)
    · cases k3 : ffin (fabs a)
      · skip
        go_enter Try.func7, Try.ntmps7
        go_wp2
        go_quiet (fail)
        go_wp2_with (first
          | (go_at_call 10; refine (mul_any _ (by omega) (by omega) _ (by omega) (by omega) _).mono ?_; rintro e w1 ⟨rfl, hb1⟩)
          | (go_at_call 22; refine (abs_any _ (by omega) (by omega) _).mono ?_; rintro e w' ⟨rfl, rfl⟩)
          | (go_at_call 16; refine (finite_any _ (by omega) (by omega) _).mono ?_; rintro e w' ⟨rfl, rfl⟩)
          | (go_at_call 20; refine (less_any _ (by omega) (by omega) _ (by omega) (by omega) _).mono ?_; rintro e w' ⟨rfl, rfl⟩)
          | (go_at_call 26; refine (prt_any _ (by omega) (by omega) _).mono ?_; rintro e w' ⟨rfl, rfl⟩)
          | (go_at_call 23; refine (sqrt_any _ (by omega) (by omega) _).mono ?_; rintro e w1 ⟨rfl, hb1⟩)
          | (go_at_call 27; refine (from_any _ (by omega) (by omega) _).mono ?_; rintro e w' ⟨rfl, rfl⟩)
          | (go_at_call 9; refine (add_any _ (by omega) (by omega) _ (by omega) (by omega) _).mono ?_; rintro e w1 ⟨rfl, hb1⟩)
          | (go_at_call 28; refine (fixed_any _ (by omega) (by omega) _).mono ?_; rintro e w' ⟨rfl, rfl⟩)
          | (go_at_call 18; refine (works_any _).mono ?_; rintro e w1 ⟨rfl, hb1⟩))
        all_goals (
          go_ret
          refine ⟨rfl, ?_⟩
          repeat (with_reducible refine bel ?_ (by with_reducible assumption))
          exact bel_dN _ _ _)
      · have hsq := fsqrt_sq a h0 h1 k1 k2 k3
        go_enter Try.func7, Try.ntmps7
        go_wp2
        go_quiet (fail)
        go_wp2_with (first
          | (go_at_call 10; refine (mul_any _ (by omega) (by omega) _ (by omega) (by omega) _).mono ?_; rintro e w1 ⟨rfl, hb1⟩)
          | (go_at_call 22; refine (abs_any _ (by omega) (by omega) _).mono ?_; rintro e w' ⟨rfl, rfl⟩)
          | (go_at_call 16; refine (finite_any _ (by omega) (by omega) _).mono ?_; rintro e w' ⟨rfl, rfl⟩)
          | (go_at_call 20; refine (less_any _ (by omega) (by omega) _ (by omega) (by omega) _).mono ?_; rintro e w' ⟨rfl, rfl⟩)
          | (go_at_call 26; refine (prt_any _ (by omega) (by omega) _).mono ?_; rintro e w' ⟨rfl, rfl⟩)
          | (go_at_call 23; refine (sqrt_any _ (by omega) (by omega) _).mono ?_; rintro e w1 ⟨rfl, hb1⟩)
          | (go_at_call 27; refine (from_any _ (by omega) (by omega) _).mono ?_; rintro e w' ⟨rfl, rfl⟩)
          | (go_at_call 9; refine (add_any _ (by omega) (by omega) _ (by omega) (by omega) _).mono ?_; rintro e w1 ⟨rfl, hb1⟩)
          | (go_at_call 28; refine (fixed_any _ (by omega) (by omega) _).mono ?_; rintro e w' ⟨rfl, rfl⟩)
          | (go_at_call 18; refine (works_any _).mono ?_; rintro e w1 ⟨rfl, hb1⟩))
        all_goals (
          go_ret
          refine ⟨rfl, ?_⟩
          repeat (with_reducible refine bel ?_ (by with_reducible assumption))
          exact bel_dN _ _ _)
    · skip
      go_enter Try.func7, Try.ntmps7
      go_wp2
      go_quiet (fail)
      go_wp2_with (first
        | (go_at_call 10; refine (mul_any _ (by omega) (by omega) _ (by omega) (by omega) _).mono ?_; rintro e w1 ⟨rfl, hb1⟩)
        | (go_at_call 22; refine (abs_any _ (by omega) (by omega) _).mono ?_; rintro e w' ⟨rfl, rfl⟩)
        | (go_at_call 16; refine (finite_any _ (by omega) (by omega) _).mono ?_; rintro e w' ⟨rfl, rfl⟩)
        | (go_at_call 20; refine (less_any _ (by omega) (by omega) _ (by omega) (by omega) _).mono ?_; rintro e w' ⟨rfl, rfl⟩)
        | (go_at_call 26; refine (prt_any _ (by omega) (by omega) _).mono ?_; rintro e w' ⟨rfl, rfl⟩)
        | (go_at_call 23; refine (sqrt_any _ (by omega) (by omega) _).mono ?_; rintro e w1 ⟨rfl, hb1⟩)
        | (go_at_call 27; refine (from_any _ (by omega) (by omega) _).mono ?_; rintro e w' ⟨rfl, rfl⟩)
        | (go_at_call 9; refine (add_any _ (by omega) (by omega) _ (by omega) (by omega) _).mono ?_; rintro e w1 ⟨rfl, hb1⟩)
        | (go_at_call 28; refine (fixed_any _ (by omega) (by omega) _).mono ?_; rintro e w' ⟨rfl, rfl⟩)
        | (go_at_call 18; refine (works_any _).mono ?_; rintro e w1 ⟨rfl, hb1⟩))
      all_goals (
        go_ret
        refine ⟨rfl, ?_⟩
        repeat (with_reducible refine bel ?_ (by with_reducible assumption))
        exact bel_dN _ _ _)
  · skip
    go_enter Try.func7, Try.ntmps7
    go_wp2
    go_quiet (fail)
    go_wp2_with (first
      | (go_at_call 10; refine (mul_any _ (by omega) (by omega) _ (by omega) (by omega) _).mono ?_; rintro e w1 ⟨rfl, hb1⟩)
      | (go_at_call 22; refine (abs_any _ (by omega) (by omega) _).mono ?_; rintro e w' ⟨rfl, rfl⟩)
      | (go_at_call 16; refine (finite_any _ (by omega) (by omega) _).mono ?_; rintro e w' ⟨rfl, rfl⟩)
      | (go_at_call 20; refine (less_any _ (by omega) (by omega) _ (by omega) (by omega) _).mono ?_; rintro e w' ⟨rfl, rfl⟩)
      | (go_at_call 26; refine (prt_any _ (by omega) (by omega) _).mono ?_; rintro e w' ⟨rfl, rfl⟩)
      | (go_at_call 23; refine (sqrt_any _ (by omega) (by omega) _).mono ?_; rintro e w1 ⟨rfl, hb1⟩)
      | (go_at_call 27; refine (from_any _ (by omega) (by omega) _).mono ?_; rintro e w' ⟨rfl, rfl⟩)
      | (go_at_call 9; refine (add_any _ (by omega) (by omega) _ (by omega) (by omega) _).mono ?_; rintro e w1 ⟨rfl, hb1⟩)
      | (go_at_call 28; refine (fixed_any _ (by omega) (by omega) _).mono ?_; rintro e w' ⟨rfl, rfl⟩)
      | (go_at_call 18; refine (works_any _).mono ?_; rintro e w1 ⟨rfl, hb1⟩))
    all_goals (
      go_ret
      refine ⟨rfl, ?_⟩
      repeat (with_reducible refine bel ?_ (by with_reducible assumption))
      exact bel_dN _ _ _)

set_option maxHeartbeats 2000000 in
theorem ex_d (a : Int) (h0 : 0 ≤ a) (h1 : a < 4294967296) (b : Int) (g0 : 0 ≤ b) (g1 : b < 4294967296) (p : Int) (p0 : -9223372036854775808 ≤ p) (p1 : p ≤ 9223372036854775807) (q : Int) (q0 : -9223372036854775808 ≤ q) (q1 : q ≤ 9223372036854775807) (X Y : Int) (X0 : 0 ≤ X) (X1 : X < 4294967296) (Y0 : 0 ≤ Y) (Y1 : Y < 4294967296) (hX : bits .and .u32 a 4294963200 = X) (hY : bits .and .u32 b 4294963200 = Y) (fx : ffin X = true) (fy : ffin Y = true) (fz : ffin (fmul X Y) = true) (hl : fless (fabs (fmul X Y)) 8388608 = true) (w : World) :
    Calls Try.prog 7 #[.agg #[.int .u32 a, .int .u32 b, .int .i64 p, .int .i64 q]] w fun e w' => e = .returned (.bool true) ∧ Below w.heap.size w w' := by
  have la := fabs_lo a h0 h1
  have lz := fmul_lo X Y
  have lzz := fabs_lo (fmul X Y) lz.1 lz.2
  have laa := fmul_lo a a
  have lsq := fsqrt_lo (fmul a a)
  obtain ⟨P, hP⟩ : ∃ P : Int, p.tmod 4097 = P := ⟨_, rfl⟩
  obtain ⟨Q, hQ⟩ : ∃ Q : Int, q.tmod 4097 = Q := ⟨_, rfl⟩
  have bP : P.natAbs ≤ 4096 := by rw [← hP, Int.tmod_eq_emod]; split <;> omega
  have bQ : Q.natAbs ≤ 4096 := by rw [← hQ, Int.tmod_eq_emod]; split <;> omega
  have bP2 : -4096 ≤ P ∧ P ≤ 4096 := by omega
  have bQ2 : -4096 ≤ Q ∧ Q ≤ 4096 := by omega
  have bPQ := pq_lo P Q bP bQ
  have w1 := ffrom_add P Q bP bQ
  have w2 := ffrom_mul P Q bP bQ
  obtain ⟨PQ, hPQ⟩ : ∃ PQ : Int, P * Q = PQ := ⟨_, rfl⟩
  rw [hPQ] at bPQ w2
  have f9 : wrap64 (P * Q) = PQ := by rw [hPQ]; unfold wrap64; omega
  have lP := ffrom_lo P
  have lQ := ffrom_lo Q
  have lm := fmul_lo (ffrom P) (ffrom Q)
  clear hPQ bP bQ
  cases k1 : fless (fabs a) 562036736
  · cases k2 : fless 1568669696 (fabs a)
    · cases k3 : ffin (fabs a)
      · skip
        go_enter Try.func7, Try.ntmps7
        go_wp2
        go_quiet (fail)
        go_wp2_with (first
          | (go_at_call 10; refine (mul_any _ (by omega) (by omega) _ (by omega) (by omega) _).mono ?_; rintro e w1 ⟨rfl, hb1⟩)
          | (go_at_call 22; refine (abs_any _ (by omega) (by omega) _).mono ?_; rintro e w' ⟨rfl, rfl⟩)
          | (go_at_call 16; refine (finite_any _ (by omega) (by omega) _).mono ?_; rintro e w' ⟨rfl, rfl⟩)
          | (go_at_call 20; refine (less_any _ (by omega) (by omega) _ (by omega) (by omega) _).mono ?_; rintro e w' ⟨rfl, rfl⟩)
          | (go_at_call 26; refine (prt_any _ (by omega) (by omega) _).mono ?_; rintro e w' ⟨rfl, rfl⟩)
          | (go_at_call 23; refine (sqrt_any _ (by omega) (by omega) _).mono ?_; rintro e w1 ⟨rfl, hb1⟩)
          | (go_at_call 27; refine (from_any _ (by omega) (by omega) _).mono ?_; rintro e w' ⟨rfl, rfl⟩)
          | (go_at_call 9; refine (add_any _ (by omega) (by omega) _ (by omega) (by omega) _).mono ?_; rintro e w1 ⟨rfl, hb1⟩)
          | (go_at_call 28; refine (fixed_any _ (by omega) (by omega) _).mono ?_; rintro e w' ⟨rfl, rfl⟩)
          | (go_at_call 18; refine (works_any _).mono ?_; rintro e w1 ⟨rfl, hb1⟩))
        all_goals (
          go_ret
          refine ⟨rfl, ?_⟩
          repeat (with_reducible refine bel ?_ (by with_reducible assumption))
          exact bel_dN _ _ _)
      · have hsq := fsqrt_sq a h0 h1 k1 k2 k3
        go_enter Try.func7, Try.ntmps7
        go_wp2
        go_quiet (fail)
        go_wp2_with (first
          | (go_at_call 10; refine (mul_any _ (by omega) (by omega) _ (by omega) (by omega) _).mono ?_; rintro e w1 ⟨rfl, hb1⟩)
          | (go_at_call 22; refine (abs_any _ (by omega) (by omega) _).mono ?_; rintro e w' ⟨rfl, rfl⟩)
          | (go_at_call 16; refine (finite_any _ (by omega) (by omega) _).mono ?_; rintro e w' ⟨rfl, rfl⟩)
          | (go_at_call 20; refine (less_any _ (by omega) (by omega) _ (by omega) (by omega) _).mono ?_; rintro e w' ⟨rfl, rfl⟩)
          | (go_at_call 26; refine (prt_any _ (by omega) (by omega) _).mono ?_; rintro e w' ⟨rfl, rfl⟩)
          | (go_at_call 23; refine (sqrt_any _ (by omega) (by omega) _).mono ?_; rintro e w1 ⟨rfl, hb1⟩)
          | (go_at_call 27; refine (from_any _ (by omega) (by omega) _).mono ?_; rintro e w' ⟨rfl, rfl⟩)
          | (go_at_call 9; refine (add_any _ (by omega) (by omega) _ (by omega) (by omega) _).mono ?_; rintro e w1 ⟨rfl, hb1⟩)
          | (go_at_call 28; refine (fixed_any _ (by omega) (by omega) _).mono ?_; rintro e w' ⟨rfl, rfl⟩)
          | (go_at_call 18; refine (works_any _).mono ?_; rintro e w1 ⟨rfl, hb1⟩))
        all_goals (
          go_ret
          refine ⟨rfl, ?_⟩
          repeat (with_reducible refine bel ?_ (by with_reducible assumption))
          exact bel_dN _ _ _)
    · skip
      go_enter Try.func7, Try.ntmps7
      go_wp2
      go_quiet (fail)
      go_wp2_with (first
        | (go_at_call 10; refine (mul_any _ (by omega) (by omega) _ (by omega) (by omega) _).mono ?_; rintro e w1 ⟨rfl, hb1⟩)
        | (go_at_call 22; refine (abs_any _ (by omega) (by omega) _).mono ?_; rintro e w' ⟨rfl, rfl⟩)
        | (go_at_call 16; refine (finite_any _ (by omega) (by omega) _).mono ?_; rintro e w' ⟨rfl, rfl⟩)
        | (go_at_call 20; refine (less_any _ (by omega) (by omega) _ (by omega) (by omega) _).mono ?_; rintro e w' ⟨rfl, rfl⟩)
        | (go_at_call 26; refine (prt_any _ (by omega) (by omega) _).mono ?_; rintro e w' ⟨rfl, rfl⟩)
        | (go_at_call 23; refine (sqrt_any _ (by omega) (by omega) _).mono ?_; rintro e w1 ⟨rfl, hb1⟩)
        | (go_at_call 27; refine (from_any _ (by omega) (by omega) _).mono ?_; rintro e w' ⟨rfl, rfl⟩)
        | (go_at_call 9; refine (add_any _ (by omega) (by omega) _ (by omega) (by omega) _).mono ?_; rintro e w1 ⟨rfl, hb1⟩)
        | (go_at_call 28; refine (fixed_any _ (by omega) (by omega) _).mono ?_; rintro e w' ⟨rfl, rfl⟩)
        | (go_at_call 18; refine (works_any _).mono ?_; rintro e w1 ⟨rfl, hb1⟩))
      all_goals (
        go_ret
        refine ⟨rfl, ?_⟩
        repeat (with_reducible refine bel ?_ (by with_reducible assumption))
        exact bel_dN _ _ _)
  · skip
    go_enter Try.func7, Try.ntmps7
    go_wp2
    go_quiet (fail)
    go_wp2_with (first
      | (go_at_call 10; refine (mul_any _ (by omega) (by omega) _ (by omega) (by omega) _).mono ?_; rintro e w1 ⟨rfl, hb1⟩)
      | (go_at_call 22; refine (abs_any _ (by omega) (by omega) _).mono ?_; rintro e w' ⟨rfl, rfl⟩)
      | (go_at_call 16; refine (finite_any _ (by omega) (by omega) _).mono ?_; rintro e w' ⟨rfl, rfl⟩)
      | (go_at_call 20; refine (less_any _ (by omega) (by omega) _ (by omega) (by omega) _).mono ?_; rintro e w' ⟨rfl, rfl⟩)
      | (go_at_call 26; refine (prt_any _ (by omega) (by omega) _).mono ?_; rintro e w' ⟨rfl, rfl⟩)
      | (go_at_call 23; refine (sqrt_any _ (by omega) (by omega) _).mono ?_; rintro e w1 ⟨rfl, hb1⟩)
      | (go_at_call 27; refine (from_any _ (by omega) (by omega) _).mono ?_; rintro e w' ⟨rfl, rfl⟩)
      | (go_at_call 9; refine (add_any _ (by omega) (by omega) _ (by omega) (by omega) _).mono ?_; rintro e w1 ⟨rfl, hb1⟩)
      | (go_at_call 28; refine (fixed_any _ (by omega) (by omega) _).mono ?_; rintro e w' ⟨rfl, rfl⟩)
      | (go_at_call 18; refine (works_any _).mono ?_; rintro e w1 ⟨rfl, hb1⟩))
    all_goals (
      go_ret
      refine ⟨rfl, ?_⟩
      repeat (with_reducible refine bel ?_ (by with_reducible assumption))
      exact bel_dN _ _ _)

set_option maxHeartbeats 2000000 in
theorem ex_e (a : Int) (h0 : 0 ≤ a) (h1 : a < 4294967296) (b : Int) (g0 : 0 ≤ b) (g1 : b < 4294967296) (p : Int) (p0 : -9223372036854775808 ≤ p) (p1 : p ≤ 9223372036854775807) (q : Int) (q0 : -9223372036854775808 ≤ q) (q1 : q ≤ 9223372036854775807) (X Y : Int) (X0 : 0 ≤ X) (X1 : X < 4294967296) (Y0 : 0 ≤ Y) (Y1 : Y < 4294967296) (hX : bits .and .u32 a 4294963200 = X) (hY : bits .and .u32 b 4294963200 = Y) (fx : ffin X = true) (fy : ffin Y = true) (fz : ffin (fmul X Y) = true) (hl : fless (fabs (fmul X Y)) 8388608 = false) (x12 : X % 4096 = 0) (y12 : Y % 4096 = 0) (w : World) :
    Calls Try.prog 7 #[.agg #[.int .u32 a, .int .u32 b, .int .i64 p, .int .i64 q]] w fun e w' => e = .returned (.bool true) ∧ Below w.heap.size w w' := by
  have la := fabs_lo a h0 h1
  have lz := fmul_lo X Y
  have lzz := fabs_lo (fmul X Y) lz.1 lz.2
  have laa := fmul_lo a a
  have lsq := fsqrt_lo (fmul a a)
  obtain ⟨P, hP⟩ : ∃ P : Int, p.tmod 4097 = P := ⟨_, rfl⟩
  obtain ⟨Q, hQ⟩ : ∃ Q : Int, q.tmod 4097 = Q := ⟨_, rfl⟩
  have bP : P.natAbs ≤ 4096 := by rw [← hP, Int.tmod_eq_emod]; split <;> omega
  have bQ : Q.natAbs ≤ 4096 := by rw [← hQ, Int.tmod_eq_emod]; split <;> omega
  have bP2 : -4096 ≤ P ∧ P ≤ 4096 := by omega
  have bQ2 : -4096 ≤ Q ∧ Q ≤ 4096 := by omega
  have bPQ := pq_lo P Q bP bQ
  have w1 := ffrom_add P Q bP bQ
  have w2 := ffrom_mul P Q bP bQ
  obtain ⟨PQ, hPQ⟩ : ∃ PQ : Int, P * Q = PQ := ⟨_, rfl⟩
  rw [hPQ] at bPQ w2
  have f9 : wrap64 (P * Q) = PQ := by rw [hPQ]; unfold wrap64; omega
  have lP := ffrom_lo P
  have lQ := ffrom_lo Q
  have lm := fmul_lo (ffrom P) (ffrom Q)
  clear hPQ bP bQ
  have eX := pE_lo X X0 X1
  have eY := pE_lo Y Y0 Y1
  have eZ := pE_lo (fmul X Y) lz.1 lz.2
  have mX := pM_lo X X0 X1
  have mY := pM_lo Y Y0 Y1
  have mZ := pM_lo (fmul X Y) lz.1 lz.2
  obtain ⟨u, hu, hd, hxy⟩ := mul12 X Y X0 X1 Y0 Y1 x12 y12 fx fy fz hl
  have bXY := prod_lo (pM X) (pM Y) mX.1 mX.2 mY.1 mY.2
  obtain ⟨XY, hXY⟩ : ∃ XY : Int, pM X * pM Y = XY := ⟨_, rfl⟩
  rw [hXY] at bXY hxy
  have f5 : wrap64 (pM X * pM Y) = XY := by rw [hXY]; unfold wrap64; omega
  have f6 : wrap64 (pM (fmul X Y) * 2 ^ u) = XY := by rw [← hxy]; unfold wrap64; omega
  have hd2 : (- -(u : Int)) = (u : Int) := by omega
  clear hXY hxy
  cases k1 : fless (fabs a) 562036736
  · cases k2 : fless 1568669696 (fabs a)
    · cases k3 : ffin (fabs a)
      · skip
        go_enter Try.func7, Try.ntmps7
        go_wp2
        go_quiet (fail)
        go_wp2_with (first
          | (go_at_call 10; refine (mul_any _ (by omega) (by omega) _ (by omega) (by omega) _).mono ?_; rintro e w1 ⟨rfl, hb1⟩)
          | (go_at_call 22; refine (abs_any _ (by omega) (by omega) _).mono ?_; rintro e w' ⟨rfl, rfl⟩)
          | (go_at_call 16; refine (finite_any _ (by omega) (by omega) _).mono ?_; rintro e w' ⟨rfl, rfl⟩)
          | (go_at_call 20; refine (less_any _ (by omega) (by omega) _ (by omega) (by omega) _).mono ?_; rintro e w' ⟨rfl, rfl⟩)
          | (go_at_call 26; refine (prt_any _ (by omega) (by omega) _).mono ?_; rintro e w' ⟨rfl, rfl⟩)
          | (go_at_call 23; refine (sqrt_any _ (by omega) (by omega) _).mono ?_; rintro e w1 ⟨rfl, hb1⟩)
          | (go_at_call 27; refine (from_any _ (by omega) (by omega) _).mono ?_; rintro e w' ⟨rfl, rfl⟩)
          | (go_at_call 9; refine (add_any _ (by omega) (by omega) _ (by omega) (by omega) _).mono ?_; rintro e w1 ⟨rfl, hb1⟩)
          | (go_at_call 28; refine (fixed_any _ (by omega) (by omega) _).mono ?_; rintro e w' ⟨rfl, rfl⟩)
          | (go_at_call 18; refine (works_any _).mono ?_; rintro e w1 ⟨rfl, hb1⟩))
        all_goals (
          go_ret
          refine ⟨rfl, ?_⟩
          repeat (with_reducible refine bel ?_ (by with_reducible assumption))
          exact bel_dN _ _ _)
      · have hsq := fsqrt_sq a h0 h1 k1 k2 k3
        go_enter Try.func7, Try.ntmps7
        go_wp2
        go_quiet (fail)
        go_wp2_with (first
          | (go_at_call 10; refine (mul_any _ (by omega) (by omega) _ (by omega) (by omega) _).mono ?_; rintro e w1 ⟨rfl, hb1⟩)
          | (go_at_call 22; refine (abs_any _ (by omega) (by omega) _).mono ?_; rintro e w' ⟨rfl, rfl⟩)
          | (go_at_call 16; refine (finite_any _ (by omega) (by omega) _).mono ?_; rintro e w' ⟨rfl, rfl⟩)
          | (go_at_call 20; refine (less_any _ (by omega) (by omega) _ (by omega) (by omega) _).mono ?_; rintro e w' ⟨rfl, rfl⟩)
          | (go_at_call 26; refine (prt_any _ (by omega) (by omega) _).mono ?_; rintro e w' ⟨rfl, rfl⟩)
          | (go_at_call 23; refine (sqrt_any _ (by omega) (by omega) _).mono ?_; rintro e w1 ⟨rfl, hb1⟩)
          | (go_at_call 27; refine (from_any _ (by omega) (by omega) _).mono ?_; rintro e w' ⟨rfl, rfl⟩)
          | (go_at_call 9; refine (add_any _ (by omega) (by omega) _ (by omega) (by omega) _).mono ?_; rintro e w1 ⟨rfl, hb1⟩)
          | (go_at_call 28; refine (fixed_any _ (by omega) (by omega) _).mono ?_; rintro e w' ⟨rfl, rfl⟩)
          | (go_at_call 18; refine (works_any _).mono ?_; rintro e w1 ⟨rfl, hb1⟩))
        all_goals (
          go_ret
          refine ⟨rfl, ?_⟩
          repeat (with_reducible refine bel ?_ (by with_reducible assumption))
          exact bel_dN _ _ _)
    · skip
      go_enter Try.func7, Try.ntmps7
      go_wp2
      go_quiet (fail)
      go_wp2_with (first
        | (go_at_call 10; refine (mul_any _ (by omega) (by omega) _ (by omega) (by omega) _).mono ?_; rintro e w1 ⟨rfl, hb1⟩)
        | (go_at_call 22; refine (abs_any _ (by omega) (by omega) _).mono ?_; rintro e w' ⟨rfl, rfl⟩)
        | (go_at_call 16; refine (finite_any _ (by omega) (by omega) _).mono ?_; rintro e w' ⟨rfl, rfl⟩)
        | (go_at_call 20; refine (less_any _ (by omega) (by omega) _ (by omega) (by omega) _).mono ?_; rintro e w' ⟨rfl, rfl⟩)
        | (go_at_call 26; refine (prt_any _ (by omega) (by omega) _).mono ?_; rintro e w' ⟨rfl, rfl⟩)
        | (go_at_call 23; refine (sqrt_any _ (by omega) (by omega) _).mono ?_; rintro e w1 ⟨rfl, hb1⟩)
        | (go_at_call 27; refine (from_any _ (by omega) (by omega) _).mono ?_; rintro e w' ⟨rfl, rfl⟩)
        | (go_at_call 9; refine (add_any _ (by omega) (by omega) _ (by omega) (by omega) _).mono ?_; rintro e w1 ⟨rfl, hb1⟩)
        | (go_at_call 28; refine (fixed_any _ (by omega) (by omega) _).mono ?_; rintro e w' ⟨rfl, rfl⟩)
        | (go_at_call 18; refine (works_any _).mono ?_; rintro e w1 ⟨rfl, hb1⟩))
      all_goals (
        go_ret
        refine ⟨rfl, ?_⟩
        repeat (with_reducible refine bel ?_ (by with_reducible assumption))
        exact bel_dN _ _ _)
  · skip
    go_enter Try.func7, Try.ntmps7
    go_wp2
    go_quiet (fail)
    go_wp2_with (first
      | (go_at_call 10; refine (mul_any _ (by omega) (by omega) _ (by omega) (by omega) _).mono ?_; rintro e w1 ⟨rfl, hb1⟩)
      | (go_at_call 22; refine (abs_any _ (by omega) (by omega) _).mono ?_; rintro e w' ⟨rfl, rfl⟩)
      | (go_at_call 16; refine (finite_any _ (by omega) (by omega) _).mono ?_; rintro e w' ⟨rfl, rfl⟩)
      | (go_at_call 20; refine (less_any _ (by omega) (by omega) _ (by omega) (by omega) _).mono ?_; rintro e w' ⟨rfl, rfl⟩)
      | (go_at_call 26; refine (prt_any _ (by omega) (by omega) _).mono ?_; rintro e w' ⟨rfl, rfl⟩)
      | (go_at_call 23; refine (sqrt_any _ (by omega) (by omega) _).mono ?_; rintro e w1 ⟨rfl, hb1⟩)
      | (go_at_call 27; refine (from_any _ (by omega) (by omega) _).mono ?_; rintro e w' ⟨rfl, rfl⟩)
      | (go_at_call 9; refine (add_any _ (by omega) (by omega) _ (by omega) (by omega) _).mono ?_; rintro e w1 ⟨rfl, hb1⟩)
      | (go_at_call 28; refine (fixed_any _ (by omega) (by omega) _).mono ?_; rintro e w' ⟨rfl, rfl⟩)
      | (go_at_call 18; refine (works_any _).mono ?_; rintro e w1 ⟨rfl, hb1⟩))
    all_goals (
      go_ret
      refine ⟨rfl, ?_⟩
      repeat (with_reducible refine bel ?_ (by with_reducible assumption))
      exact bel_dN _ _ _)

theorem walk_FloatExact (a : Int) (h0 : 0 ≤ a) (h1 : a < 4294967296) (b : Int) (g0 : 0 ≤ b) (g1 : b < 4294967296) (p : Int) (p0 : -9223372036854775808 ≤ p) (p1 : p ≤ 9223372036854775807) (q : Int) (q0 : -9223372036854775808 ≤ q) (q1 : q ≤ 9223372036854775807) (w : World) :
    Calls Try.prog 7 #[.agg #[.int .u32 a, .int .u32 b, .int .i64 p, .int .i64 q]] w fun e w' => e = .returned (.bool true) ∧ Below w.heap.size w w' := by
  have hX := and_high a h0 h1
  have hY := and_high b g0 g1
  obtain ⟨X, hXX⟩ : ∃ X : Int, a / 4096 * 4096 = X := ⟨_, rfl⟩
  obtain ⟨Y, hYY⟩ : ∃ Y : Int, b / 4096 * 4096 = Y := ⟨_, rfl⟩
  rw [hXX] at hX
  rw [hYY] at hY
  have bX : 0 ≤ X ∧ X < 4294967296 ∧ X % 4096 = 0 := by omega
  have bY : 0 ≤ Y ∧ Y < 4294967296 ∧ Y % 4096 = 0 := by omega
  cases fx : ffin X
  · exact ex_a a h0 h1 b g0 g1 p p0 p1 q q0 q1 X Y bX.1 bX.2.1 bY.1 bY.2.1 hX hY fx w
  · cases fy : ffin Y
    · exact ex_b a h0 h1 b g0 g1 p p0 p1 q q0 q1 X Y bX.1 bX.2.1 bY.1 bY.2.1 hX hY fx fy w
    · cases fz : ffin (fmul X Y)
      · exact ex_c a h0 h1 b g0 g1 p p0 p1 q q0 q1 X Y bX.1 bX.2.1 bY.1 bY.2.1 hX hY fx fy fz w
      · cases hl : fless (fabs (fmul X Y)) 8388608
        · exact ex_e a h0 h1 b g0 g1 p p0 p1 q q0 q1 X Y bX.1 bX.2.1 bY.1 bY.2.1 hX hY fx fy fz hl bX.2.2 bY.2.2 w
        · exact ex_d a h0 h1 b g0 g1 p p0 p1 q q0 q1 X Y bX.1 bX.2.1 bY.1 bY.2.1 hX hY fx fy fz hl w

end Go.Proofs.Ytbeamaaclplabab
