import Derived.Test.YtnogokikiekcbaaSchSure
import Derived.Test.YtnogokikiekcbaaSchRefW
import Derived.Test.YtnogokikiekcbaaSchWaveP
/- The statement SchedWave: its walk. -/
namespace Go.Proofs.Ytnogokikiekcbaa
open Go.RowKit
set_option linter.unusedVariables false
set_option linter.unusedSimpArgs false

set_option maxRecDepth 100000 in
set_option maxHeartbeats 2000000 in
theorem walk_SchedWave (x : Int) (h0 : 0 ≤ x) (h1 : x < 4294967296) (w : World) :
    Calls Try.prog 5 #[.int .u32 x] w fun e w' => e = .returned (.bool true) ∧ Below w.heap.size w w' := by
  have HB : Below w.heap.size w w := bel0 w
  have e0 := less_sign x h0 h1
  obtain ⟨a, ha⟩ : ∃ a, x % 2147483648 = a := ⟨_, rfl⟩
  rw [ha] at e0
  have a0 : 0 ≤ a := by omega
  have a1 : a < 2147483648 := by omega
  have e1 : IntKind.i64.wrap a = a := by rw [IntKind.wrap_i64]; omega
  have e2 : IntKind.u32.wrap a = a := by rw [IntKind.wrap_u32']; omega
  clear ha
  by_cases hgt : 1065353216 < a
  · go_enter Try.func5, Try.ntmps5
    go_wp2_with ((go_at_call 10; (with_reducible refine (works_any14 _).mono ?_); rintro e wx ⟨rfl, hbx⟩; have HB : Below w.heap.size w wx := bel HB hbx))
    go_ret
    exact ⟨rfl, HB⟩
  · have hpa : Pat a := ⟨a0, by omega⟩
    obtain ⟨hfn, hls0⟩ := wave_bound a0 (show a ≤ 1065353216 by omega)
    have HT : Hid (1056964608 < a → wave (fsub 1065353216 a) = fneg (wave a)) := fun h => wave_turn h (by omega)
    have HWa : Hid (∀ v : World, Calls Try.prog 17 #[.int .u32 a] v fun e w' => e = .returned (.int .u32 (wave a)) ∧ Below v.heap.size v w') := fun v => wave_any a hpa v
    have HW0 : Hid (∀ v : World, Calls Try.prog 17 #[.int .u32 0] v fun e w' => e = .returned (.int .u32 1065353216) ∧ Below v.heap.size v w') := fun v => by have := wave_any 0 pat_0 v; rw [wave_ends.1] at this; exact this
    have HW1 : Hid (∀ v : World, Calls Try.prog 17 #[.int .u32 1065353216] v fun e w' => e = .returned (.int .u32 3212836864) ∧ Below v.heap.size v w') := fun v => by have := wave_any 1065353216 pat_1 v; rw [wave_ends.2.1] at this; exact this
    have HWh : Hid (∀ v : World, Calls Try.prog 17 #[.int .u32 1056964608] v fun e w' => e = .returned (.int .u32 0) ∧ Below v.heap.size v w') := fun v => by have := wave_any 1056964608 pat_h v; rw [wave_ends.2.2] at this; exact this
    have hpq : Pat (wave a) := hfn.1
    obtain ⟨y, hy⟩ : ∃ y, wave a = y := ⟨_, rfl⟩
    rw [hy] at HWa hls0 hpq HT
    have e3 : IntKind.i64.wrap y = y := by have := hpq.1; have := hpq.2; rw [IntKind.wrap_i64]; omega
    obtain ⟨z, hab⟩ : ∃ z, fabs y = z := ⟨_, rfl⟩
    have hpz : Pat z := by
      rw [← hab]; unfold fabs canon Pat
      split
      · decide
      · omega
    rw [hab] at hls0
    have hls : fless 1065353216 z = false := hls0
    clear hls0 hfn hy
    by_cases hgh : 1056964608 < a
    · have ht := HT.out hgh
      obtain ⟨s, hsb⟩ : ∃ s, fsub 1065353216 a = s := ⟨_, rfl⟩
      have hps : Pat s := by rw [← hsb]; exact pat_sub _ _
      rw [hsb] at ht
      have e4 : IntKind.u32.wrap s = s := by have := hps.1; have := hps.2; rw [IntKind.wrap_u32']; omega
      have HWm : Hid (∀ v : World, Calls Try.prog 17 #[.int .u32 s] v fun e w' => e = .returned (.int .u32 (fneg y)) ∧ Below v.heap.size v w') := fun v => by have := wave_any s hps v; rw [ht] at this; exact this
      have hpn := pat_neg hpq
      have e5 : IntKind.i64.wrap (fneg y) = fneg y := by have := hpn.1; have := hpn.2; rw [IntKind.wrap_i64]; omega
      clear HT ht
      go_enter Try.func5, Try.ntmps5
      go_wp2_with (first
    | (go_at_call 17; (with_reducible refine (HWa.out _).mono ?_); rintro e wx ⟨rfl, hbx⟩; have HB : Below w.heap.size w wx := bel HB hbx)
    | (go_at_call 17; (with_reducible refine (HW0.out _).mono ?_); rintro e wx ⟨rfl, hbx⟩; have HB : Below w.heap.size w wx := bel HB hbx)
    | (go_at_call 17; (with_reducible refine (HW1.out _).mono ?_); rintro e wx ⟨rfl, hbx⟩; have HB : Below w.heap.size w wx := bel HB hbx)
    | (go_at_call 17; (with_reducible refine (HWh.out _).mono ?_); rintro e wx ⟨rfl, hbx⟩; have HB : Below w.heap.size w wx := bel HB hbx)
    | (go_at_call 17; (with_reducible refine (HWm.out _).mono ?_); rintro e wx ⟨rfl, hbx⟩; have HB : Below w.heap.size w wx := bel HB hbx)
    | (go_at_call 20; refine (r_abs (by with_reducible first | assumption | exact pat_add _ _ | exact pat_sub _ _ | exact pat_mul _ _ | exact pat_div _ _ | exact pat_sqrt _ | exact pat_from _ | exact pat_rat _ _ | exact pat_qrt _ | exact pat_qrN _ _ | exact pat_0 | exact pat_1 | exact pat_h) _).mono ?_; rintro e wx ⟨rfl, hbx⟩; have HB : Below w.heap.size w wx := (by first | exact bel HB hbx | exact bel (by go_grown) hbx); rw [hab])
    | (go_at_call 19; refine (r_less (by with_reducible first | assumption | exact pat_add _ _ | exact pat_sub _ _ | exact pat_mul _ _ | exact pat_div _ _ | exact pat_sqrt _ | exact pat_from _ | exact pat_rat _ _ | exact pat_qrt _ | exact pat_qrN _ _ | exact pat_0 | exact pat_1 | exact pat_h) (by with_reducible first | assumption | exact pat_add _ _ | exact pat_sub _ _ | exact pat_mul _ _ | exact pat_div _ _ | exact pat_sqrt _ | exact pat_from _ | exact pat_rat _ _ | exact pat_qrt _ | exact pat_qrN _ _ | exact pat_0 | exact pat_1 | exact pat_h) _).mono ?_; rintro e wx ⟨rfl, hbx⟩; have HB : Below w.heap.size w wx := (by first | exact bel HB hbx | exact bel (by go_grown) hbx); rw [hls])
    | (go_at_call 21; refine (r_sub (by with_reducible first | assumption | exact pat_add _ _ | exact pat_sub _ _ | exact pat_mul _ _ | exact pat_div _ _ | exact pat_sqrt _ | exact pat_from _ | exact pat_rat _ _ | exact pat_qrt _ | exact pat_qrN _ _ | exact pat_0 | exact pat_1 | exact pat_h) (by with_reducible first | assumption | exact pat_add _ _ | exact pat_sub _ _ | exact pat_mul _ _ | exact pat_div _ _ | exact pat_sqrt _ | exact pat_from _ | exact pat_rat _ _ | exact pat_qrt _ | exact pat_qrN _ _ | exact pat_0 | exact pat_1 | exact pat_h) _).mono ?_; rintro e wx ⟨rfl, hbx⟩; have HB : Below w.heap.size w wx := (by first | exact bel HB hbx | exact bel (by go_grown) hbx); rw [hsb])
    | (go_at_call 22; refine (r_neg (by with_reducible first | assumption | exact pat_add _ _ | exact pat_sub _ _ | exact pat_mul _ _ | exact pat_div _ _ | exact pat_sqrt _ | exact pat_from _ | exact pat_rat _ _ | exact pat_qrt _ | exact pat_qrN _ _ | exact pat_0 | exact pat_1 | exact pat_h) _).mono ?_; rintro e wx ⟨rfl, hbx⟩; have HB : Below w.heap.size w wx := (by first | exact bel HB hbx | exact bel (by go_grown) hbx))
    | (go_at_call 10; (with_reducible refine (works_any14 _).mono ?_); rintro e wx ⟨rfl, hbx⟩; have HB : Below w.heap.size w wx := bel HB hbx))
      go_ret
      exact ⟨rfl, HB⟩
    · clear HT
      go_enter Try.func5, Try.ntmps5
      go_wp2_with (first
    | (go_at_call 17; (with_reducible refine (HWa.out _).mono ?_); rintro e wx ⟨rfl, hbx⟩; have HB : Below w.heap.size w wx := bel HB hbx)
    | (go_at_call 17; (with_reducible refine (HW0.out _).mono ?_); rintro e wx ⟨rfl, hbx⟩; have HB : Below w.heap.size w wx := bel HB hbx)
    | (go_at_call 17; (with_reducible refine (HW1.out _).mono ?_); rintro e wx ⟨rfl, hbx⟩; have HB : Below w.heap.size w wx := bel HB hbx)
    | (go_at_call 17; (with_reducible refine (HWh.out _).mono ?_); rintro e wx ⟨rfl, hbx⟩; have HB : Below w.heap.size w wx := bel HB hbx)
    | (go_at_call 20; refine (r_abs (by with_reducible first | assumption | exact pat_add _ _ | exact pat_sub _ _ | exact pat_mul _ _ | exact pat_div _ _ | exact pat_sqrt _ | exact pat_from _ | exact pat_rat _ _ | exact pat_qrt _ | exact pat_qrN _ _ | exact pat_0 | exact pat_1 | exact pat_h) _).mono ?_; rintro e wx ⟨rfl, hbx⟩; have HB : Below w.heap.size w wx := (by first | exact bel HB hbx | exact bel (by go_grown) hbx); rw [hab])
    | (go_at_call 19; refine (r_less (by with_reducible first | assumption | exact pat_add _ _ | exact pat_sub _ _ | exact pat_mul _ _ | exact pat_div _ _ | exact pat_sqrt _ | exact pat_from _ | exact pat_rat _ _ | exact pat_qrt _ | exact pat_qrN _ _ | exact pat_0 | exact pat_1 | exact pat_h) (by with_reducible first | assumption | exact pat_add _ _ | exact pat_sub _ _ | exact pat_mul _ _ | exact pat_div _ _ | exact pat_sqrt _ | exact pat_from _ | exact pat_rat _ _ | exact pat_qrt _ | exact pat_qrN _ _ | exact pat_0 | exact pat_1 | exact pat_h) _).mono ?_; rintro e wx ⟨rfl, hbx⟩; have HB : Below w.heap.size w wx := (by first | exact bel HB hbx | exact bel (by go_grown) hbx); rw [hls])
    | (go_at_call 10; (with_reducible refine (works_any14 _).mono ?_); rintro e wx ⟨rfl, hbx⟩; have HB : Below w.heap.size w wx := bel HB hbx))
      go_ret
      exact ⟨rfl, HB⟩

end Go.Proofs.Ytnogokikiekcbaa
