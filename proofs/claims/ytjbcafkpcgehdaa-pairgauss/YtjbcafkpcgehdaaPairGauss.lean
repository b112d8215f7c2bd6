import Derived.Test.YtjbcafkpcgehdaaPairLaws2
import Derived.Test.YtjbcafkpcgehdaaGaussP
import Derived.Deep.QuietTactic
import Derived.BigQuiet
/- The statement PairGauss: its walk. -/
namespace Go.Proofs.Ytjbcafkpcgehdaa
open Go.RowKit
set_option linter.unusedVariables false

set_option maxHeartbeats 400000 in
theorem whole_any (a : Int) (a0 : -9223372036854775808 ≤ a) (a1 : a ≤ 9223372036854775807) (b : Int) (b0 : -9223372036854775808 ≤ b) (b1 : b ≤ 9223372036854775807) (w : World) :
    Calls Try.prog 31 #[.int .i64 a, .int .i64 b] w fun e w' => e = .returned (.agg #[.int .u32 (ffrom a), .int .u32 (ffrom b)]) ∧ ∃ o, w' = w.alloc o := by
  have l1 := ffrom_lo a
  have l2 := ffrom_lo b
  go_enter Try.func31, Try.ntmps31
  go_wp2_with (go_at_call 32; refine (rfrom_any _ (by assumption) (by assumption) _).mono ?_; rintro e w' ⟨rfl, rfl⟩)
  go_returns
  exact ⟨rfl, _, rfl⟩

theorem gauss_norm (A B C D : Int) : (A * C - B * D) * (A * C - B * D) + (A * D + B * C) * (A * D + B * C) = (A * A + B * B) * (C * C + D * D) := by grind

theorem gauss_facts (A B C D : Int) (hA : -2047 ≤ A ∧ A ≤ 2047) (hB : -2047 ≤ B ∧ B ≤ 2047) (hC : -2047 ≤ C ∧ C ≤ 2047) (hD : -2047 ≤ D ∧ D ≤ 2047) :
    alk (fsub (fmul (ffrom A) (ffrom C)) (fmul (ffrom B) (ffrom D))) (ffrom (A * C - B * D)) ∧ alk (fadd (fmul (ffrom A) (ffrom D)) (fmul (ffrom B) (ffrom C))) (ffrom (A * D + B * C)) ∧
    ((A * A + B * B) * (C * C + D * D) < 16777216 → fadd (fmul (fsub (fmul (ffrom A) (ffrom C)) (fmul (ffrom B) (ffrom D))) (fsub (fmul (ffrom A) (ffrom C)) (fmul (ffrom B) (ffrom D)))) (fmul (fadd (fmul (ffrom A) (ffrom D)) (fmul (ffrom B) (ffrom C))) (fadd (fmul (ffrom A) (ffrom D)) (fmul (ffrom B) (ffrom C)))) = ffrom ((A * A + B * B) * (C * C + D * D))) := by
  have nA := isN_from A (by omega)
  have nB := isN_from B (by omega)
  have nC := isN_from C (by omega)
  have nD := isN_from D (by omega)
  have b1 := mul_small A C hA.1 hA.2 hC.1 hC.2
  have b2 := mul_small B D hB.1 hB.2 hD.1 hD.2
  have b3 := mul_small A D hA.1 hA.2 hD.1 hD.2
  have b4 := mul_small B C hB.1 hB.2 hC.1 hC.2
  have x1 := isN_sub (isN_mul nA nC (by omega)).1 (isN_mul nB nD (by omega)).1 (by omega)
  have x2 := isN_add (isN_mul nA nD (by omega)).1 (isN_mul nB nC (by omega)).1 (by omega)
  refine ⟨isN_alk x1 (isN_from _ (by omega)), isN_alk x2 (isN_from _ (by omega)), fun h => ?_⟩
  rw [isN_square x1 x2 (by rw [gauss_norm]; omega), gauss_norm]

theorem tmod_small (a : Int) : -2047 ≤ a.tmod 2048 ∧ a.tmod 2048 ≤ 2047 := by
  have h1 := Int.tmod_lt_of_pos a (show (0 : Int) < 2048 by decide)
  have h2 : -2048 < a.tmod 2048 := Int.lt_tmod_of_pos a (by decide)
  omega

set_option maxHeartbeats 2000000 in
theorem walk_PairGauss (a : Int) (a0 : -9223372036854775808 ≤ a) (a1 : a ≤ 9223372036854775807) (b : Int) (b0 : -9223372036854775808 ≤ b) (b1 : b ≤ 9223372036854775807)
    (c : Int) (c0 : -9223372036854775808 ≤ c) (c1 : c ≤ 9223372036854775807) (d : Int) (d0 : -9223372036854775808 ≤ d) (d1 : d ≤ 9223372036854775807) (w : World) :
    Calls Try.prog 8 #[.agg #[.int .i64 a, .int .i64 b, .int .i64 c, .int .i64 d]] w fun e w' => e = .returned (.bool true) ∧ Below w.heap.size w w' := by
  have hA := tmod_small a
  have hB := tmod_small b
  have hC := tmod_small c
  have hD := tmod_small d
  go_enter Try.func8, Try.ntmps8
  go_wp2
  go_quiet (fail)
  generalize a.tmod 2048 = A at *
  generalize b.tmod 2048 = B at *
  generalize c.tmod 2048 = C at *
  generalize d.tmod 2048 = D at *
  obtain ⟨h1, h2, h3⟩ := gauss_facts A B C D hA hB hC hD
  have p1 := mul_small A C hA.1 hA.2 hC.1 hC.2
  have p2 := mul_small B D hB.1 hB.2 hD.1 hD.2
  have p3 := mul_small A D hA.1 hA.2 hD.1 hD.2
  have p4 := mul_small B C hB.1 hB.2 hC.1 hC.2
  have p5 := mul_small A A hA.1 hA.2 hA.1 hA.2
  have p6 := mul_small B B hB.1 hB.2 hB.1 hB.2
  have p7 := mul_small C C hC.1 hC.2 hC.1 hC.2
  have p8 := mul_small D D hD.1 hD.2 hD.1 hD.2
  have p9 : -70231405854724 ≤ (A * A + B * B) * (C * C + D * D) ∧ (A * A + B * B) * (C * C + D * D) ≤ 70231405854724 := by
    have : ((A * A + B * B) * (C * C + D * D)).natAbs ≤ 8380418 * 8380418 := by rw [Int.natAbs_mul]; exact Nat.mul_le_mul (by omega) (by omega)
    omega
  have H1 : Hid (alk (fsub (fmul (ffrom A) (ffrom C)) (fmul (ffrom B) (ffrom D))) (ffrom (A * C - B * D))) := h1
  have H2 : Hid (alk (fadd (fmul (ffrom A) (ffrom D)) (fmul (ffrom B) (ffrom C))) (ffrom (A * D + B * C))) := h2
  have lx := fsub_lo (fmul (ffrom A) (ffrom C)) (fmul (ffrom B) (ffrom D))
  have ly := fadd_lo (fmul (ffrom A) (ffrom D)) (fmul (ffrom B) (ffrom C))
  generalize hX : fsub (fmul (ffrom A) (ffrom C)) (fmul (ffrom B) (ffrom D)) = X at *
  generalize hY : fadd (fmul (ffrom A) (ffrom D)) (fmul (ffrom B) (ffrom C)) = Y at *
  have ls := fadd_lo (fmul X X) (fmul Y Y)
  clear h1 h2
  have lA := ffrom_lo A
  have lB := ffrom_lo B
  have lC := ffrom_lo C
  have lD := ffrom_lo D
  have lu := ffrom_lo (A * C - B * D)
  have lv := ffrom_lo (A * D + B * C)
  obtain ⟨hA0, hA1⟩ := hA
  obtain ⟨hB0, hB1⟩ := hB
  obtain ⟨hC0, hC1⟩ := hC
  obtain ⟨hD0, hD1⟩ := hD
  by_cases hp : (A * A + B * B) * (C * C + D * D) < 16777216
  · have h4 := h3 hp
    clear h3
    go_wp2_with (first
      | (go_at_call 31; refine (whole_any _ (by omega) (by omega) _ (by omega) (by omega) _).mono ?_; rintro e w' ⟨rfl, o, rfl⟩)
      | (go_at_call 20; refine (pmul_any _ (by omega) (by omega) _ (by omega) (by omega) _ (by omega) (by omega) _ (by omega) (by omega) _).mono ?_; rintro e w1 ⟨rfl, hb⟩; have HB : Below w.heap.size w w1 := bel (by first | (refine below_dn _ _ ?_; go_grown; done) | (go_grown; done)) hb)
      | (go_at_call 30; refine (alike_any _ (by omega) (by omega) _ (by omega) (by omega) (by first | exact H1.out | exact H2.out) _).mono ?_; rintro e w' ⟨rfl, rfl⟩)
      | (go_at_call 22; refine (psquare_any _ (by omega) (by omega) _ (by omega) (by omega) _).mono ?_; rintro e w2 ⟨rfl, hb⟩; have HB : Below w.heap.size w w2 := bel (bel HB (by go_grown)) hb)
      | (go_at_call 32; refine (rfrom_any _ (by omega) (by omega) _).mono ?_; rintro e w' ⟨rfl, rfl⟩)
      | (go_at_call 19; refine (pworks_any _).mono ?_; rintro e w3 ⟨rfl, hb⟩; have HB : Below w.heap.size w w3 := (by first | exact bel HB hb | exact bel (bel HB (by go_grown)) hb)))
    go_ret
    exact ⟨rfl, HB⟩
  · clear h3
    go_wp2_with (first
      | (go_at_call 31; refine (whole_any _ (by omega) (by omega) _ (by omega) (by omega) _).mono ?_; rintro e w' ⟨rfl, o, rfl⟩)
      | (go_at_call 20; refine (pmul_any _ (by omega) (by omega) _ (by omega) (by omega) _ (by omega) (by omega) _ (by omega) (by omega) _).mono ?_; rintro e w1 ⟨rfl, hb⟩; have HB : Below w.heap.size w w1 := bel (by first | (refine below_dn _ _ ?_; go_grown; done) | (go_grown; done)) hb)
      | (go_at_call 30; refine (alike_any _ (by omega) (by omega) _ (by omega) (by omega) (by first | exact H1.out | exact H2.out) _).mono ?_; rintro e w' ⟨rfl, rfl⟩)
      | (go_at_call 22; refine (psquare_any _ (by omega) (by omega) _ (by omega) (by omega) _).mono ?_; rintro e w2 ⟨rfl, hb⟩; have HB : Below w.heap.size w w2 := bel (bel HB (by go_grown)) hb)
      | (go_at_call 32; refine (rfrom_any _ (by omega) (by omega) _).mono ?_; rintro e w' ⟨rfl, rfl⟩)
      | (go_at_call 19; refine (pworks_any _).mono ?_; rintro e w3 ⟨rfl, hb⟩; have HB : Below w.heap.size w w3 := (by first | exact bel HB hb | exact bel (bel HB (by go_grown)) hb)))
    go_ret
    exact ⟨rfl, HB⟩

end Go.Proofs.Ytjbcafkpcgehdaa
