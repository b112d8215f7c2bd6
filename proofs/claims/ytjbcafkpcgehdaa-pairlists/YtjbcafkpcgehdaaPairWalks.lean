import Derived.Test.YtjbcafkpcgehdaaRawOps
import Derived.WalkLawsBesides
import Derived.Deep.RegionWith
import Derived.Deep.QuietTactic
import Derived.BigQuiet
import Derived.Handy
/- The walks of package pair: what a number is, and how it is told. -/
namespace Go.Proofs.Ytjbcafkpcgehdaa
open Go.RowKit
set_option linter.unusedVariables false

set_option maxHeartbeats 400000 in
theorem ppart_any (a : Int) (h0 : 0 ≤ a) (h1 : a < 4294967296) (w : World) :
    Calls Try.prog 39 #[.int .u32 a] w fun e w' => e = .returned (.float .f32 a.toNat) ∧ w' = w := by
  have hx := from_bits a w
  go_enter Try.func39, Try.ntmps39
  go_wp2
  go_ret
  exact ⟨rfl, rfl⟩

set_option maxHeartbeats 400000 in
theorem ptold_any (b : Nat) (h1 : b < 4294967296) (w : World) :
    Calls Try.prog 42 #[.float .f32 b] w fun e w' => e = .returned (.int .u32 (canon b)) ∧ w' = w := by
  have hx := to_bits b w
  have hs : fsel 1065353216 b b = canon b := by unfold fsel; simp
  go_enter Try.func42, Try.ntmps42
  go_wp2_with (go_at_call 52; refine (select_any _ (by omega) (by omega) _ (by omega) (by omega) _ (by omega) (by omega) _).mono ?_; rintro e w' ⟨rfl, rfl⟩)
  go_ret
  exact ⟨rfl, rfl⟩

set_option maxHeartbeats 400000 in
theorem pparts_any (x y : Nat) (hx : x < 4294967296) (hy : y < 4294967296) (w : World) :
    Calls Try.prog 33 #[.complex .f32 x y] w fun e w' => e = .returned (.agg #[.int .u32 (canon x), .int .u32 (canon y)]) ∧ ∃ o, w' = w.alloc o := by
  go_enter Try.func33, Try.ntmps33
  go_wp2_with (go_at_call 42; refine (ptold_any _ (by assumption) _).mono ?_; rintro e w' ⟨rfl, rfl⟩)
  go_returns
  exact ⟨rfl, _, rfl⟩

set_option maxHeartbeats 400000 in
theorem pvalue_any (a : Int) (h0 : 0 ≤ a) (h1 : a < 4294967296) (b : Int) (g0 : 0 ≤ b) (g1 : b < 4294967296) (w : World) :
    Calls Try.prog 34 #[.agg #[.int .u32 a, .int .u32 b]] w fun e w' => e = .returned (.complex .f32 a.toNat b.toNat) ∧ ∃ o n, w' = (w.alloc o).drewN n := by
  go_enter Try.func34, Try.ntmps34
  go_wp2
  go_quiet (first | (go_at_call 39; refine Calls.quiet_of_same (ppart_any _ (by omega) (by omega) _)))
  go_wp2
  go_ret
  exact ⟨rfl, _, _, rfl⟩

end Go.Proofs.Ytjbcafkpcgehdaa
