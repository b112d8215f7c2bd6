import Derived.Test.YtpidcmfmdgppbaaSlices
import Derived.Deep.QuietTactic
import Derived.BigQuiet
/- Lists of layer 4: the walks. -/
namespace Go.Proofs.Ytpidcmfmdgppbaa
open Go.RowKit
set_option linter.unusedVariables false

theorem two_step (X : Nat → Int) (k j : Nat) : (if j = k * 2 + 1 then Value.int .u32 (X (2 * k + 1)) else if j = k * 2 then .int .u32 (X (2 * k)) else .int .u32 (if j < 2 * k then X j else 0)) = .int .u32 (if j < 2 * (k + 1) then X j else 0) := by
  by_cases h1 : j = k * 2 + 1
  · rw [if_pos h1, if_pos (by omega), h1, Nat.mul_comm]
  · rw [if_neg h1]
    by_cases h2 : j = k * 2
    · rw [if_pos h2, if_pos (by omega), h2, Nat.mul_comm]
    · rw [if_neg h2]
      by_cases h3 : j < 2 * k
      · rw [if_pos h3, if_pos (by omega)]
      · rw [if_neg h3, if_neg (by omega)]

theorem two_step2 (X : Nat → Int) (k j : Nat) : (if j = 2 * k + 1 then Value.int .u32 (X (2 * k + 1)) else if j = 2 * k then .int .u32 (X (2 * k)) else .int .u32 (if j < 2 * k then X j else 0)) = .int .u32 (if j < 2 * (k + 1) then X j else 0) := by
  have := two_step X k j
  rw [Nat.mul_comm k 2] at this; exact this

end Go.Proofs.Ytpidcmfmdgppbaa
