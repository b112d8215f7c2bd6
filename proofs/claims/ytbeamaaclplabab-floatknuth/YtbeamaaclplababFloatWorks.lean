import Derived.Test.YtbeamaaclplababFloatRoot
import Derived.Test.YtbeamaaclplababFloatOrd
/- The head of the statements of layer 2. -/
namespace Go.Proofs.Ytbeamaaclplabab
open Go.RowKit
set_option linter.unusedVariables false

set_option maxHeartbeats 400000 in
theorem works_any (w : World) : Calls Try.prog 18 #[] w fun e w' => e = .returned (.bool true) ∧ Below w.heap.size w w' := by
  have c1 : fadd 1065353216 864026624 = 1065353216 := by decide +kernel
  have c2 : fmul 1073741824 1077936128 = 1086324736 := by decide +kernel
  have c3 : fdiv 1065353216 1077936128 = 1051372203 := by decide +kernel
  have c4 : fsqrt 1073741824 = 1068827891 := by decide +kernel
  have c5 : ffrom 16777217 = 1266679808 := by decide +kernel
  have c6 : fless 0 1065353216 = true := by decide +kernel
  go_enter Try.func18, Try.ntmps18
  go_wp2_with (first
    | (go_at_call 9; refine (add_any _ (by omega) (by omega) _ (by omega) (by omega) _).mono ?_; rintro e w1 ⟨rfl, hb1⟩)
    | (go_at_call 10; refine (mul_any _ (by omega) (by omega) _ (by omega) (by omega) _).mono ?_; rintro e w2 ⟨rfl, hb2⟩)
    | (go_at_call 15; refine (div_any _ (by omega) (by omega) _ (by omega) (by omega) _).mono ?_; rintro e w3 ⟨rfl, hb3⟩)
    | (go_at_call 23; refine (sqrt_any _ (by omega) (by omega) _).mono ?_; rintro e w4 ⟨rfl, hb4⟩)
    | (go_at_call 27; refine (from_any _ (by omega) (by omega) _).mono ?_; rintro e w' ⟨rfl, rfl⟩)
    | (go_at_call 20; refine (less_any _ (by omega) (by omega) _ (by omega) (by omega) _).mono ?_; rintro e w' ⟨rfl, rfl⟩))
  go_ret
  exact ⟨rfl, bel (bel (bel hb1 hb2) hb3) hb4⟩

end Go.Proofs.Ytbeamaaclplabab
