import Derived.Test.YtnogokikiekcbaaSchSure
import Derived.Test.YtnogokikiekcbaaSchRefW
/- The statement SchedWaves: its walk. -/
namespace Go.Proofs.Ytnogokikiekcbaa
open Go.RowKit
set_option linter.unusedVariables false
set_option linter.unusedSimpArgs false

set_option maxRecDepth 100000 in
set_option maxHeartbeats 1000000 in
theorem walk_SchedWaves (x : Int) (h0 : 0 ≤ x) (h1 : x < 4294967296) (w : World) :
    Calls Try.prog 4 #[.int .u32 x] w fun e w' => e = .returned (.bool true) ∧ Below w.heap.size w w' := by
  have HB : Below w.heap.size w w := bel0 w
  have hp : Pat x := ⟨h0, h1⟩
  have e1 : IntKind.i64.wrap x = x := by rw [IntKind.wrap_i64]; omega
  have hq := pat_wave hp
  have e2 : IntKind.i64.wrap (wave x) = wave x := by have := hq.1; have := hq.2; rw [IntKind.wrap_i64]; omega
  go_enter Try.func4, Try.ntmps4
  go_wp2_with (first
    | (go_at_call 17; refine (wave_any _ (by with_reducible first | assumption | exact pat_add _ _ | exact pat_sub _ _ | exact pat_mul _ _ | exact pat_div _ _ | exact pat_sqrt _ | exact pat_from _ | exact pat_rat _ _ | exact pat_qrt _ | exact pat_qrN _ _ | exact pat_0 | exact pat_1 | exact pat_h) _).mono ?_; rintro e wx ⟨rfl, hbx⟩; have HB : Below w.heap.size w wx := (by first | exact bel HB hbx | exact bel (by go_grown) hbx))
    | (go_at_call 18; refine (rwave_any _ (by with_reducible first | assumption | exact pat_add _ _ | exact pat_sub _ _ | exact pat_mul _ _ | exact pat_div _ _ | exact pat_sqrt _ | exact pat_from _ | exact pat_rat _ _ | exact pat_qrt _ | exact pat_qrN _ _ | exact pat_0 | exact pat_1 | exact pat_h) _).mono ?_; rintro e wx ⟨rfl, hbx⟩; have HB : Below w.heap.size w wx := (by first | exact bel HB hbx | exact bel (by go_grown) hbx))
    | (go_at_call 10; (with_reducible refine (works_any14 _).mono ?_); rintro e wx ⟨rfl, hbx⟩; have HB : Below w.heap.size w wx := bel HB hbx))
  go_ret
  exact ⟨rfl, HB⟩

end Go.Proofs.Ytnogokikiekcbaa
