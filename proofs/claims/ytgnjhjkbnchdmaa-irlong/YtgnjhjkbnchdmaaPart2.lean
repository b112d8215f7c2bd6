import Derived.Test.YtgnjhjkbnchdmaaPart1
/- latheref16.Row, by program (tool/layer16). -/
namespace Go.Proofs.Ytgnjhjkbnchdmaa
open Go.RowKit
set_option linter.unusedVariables false
set_option linter.unusedSimpArgs false

set_option maxRecDepth 100000 in
set_option maxHeartbeats 2000000 in
theorem rrow_1 (w : World) : Calls Try.prog 33 #[.int .i64 1] w fun e w' => e = .returned (.tuple #[.string ⟨#[110, 45, 45, 45, 45]⟩, .bool true]) ∧ w' = w := by
  go_enter Try.func33, Try.ntmps33
  go_wp2
  go_ret2
  exact ⟨rfl, rfl⟩

set_option maxRecDepth 100000 in
set_option maxHeartbeats 2000000 in
theorem rrow_2 (w : World) : Calls Try.prog 33 #[.int .i64 2] w fun e w' => e = .returned (.tuple #[.string ⟨#[119, 45, 45, 45, 105]⟩, .bool true]) ∧ w' = w := by
  go_enter Try.func33, Try.ntmps33
  go_wp2
  go_ret2
  exact ⟨rfl, rfl⟩

set_option maxRecDepth 100000 in
set_option maxHeartbeats 2000000 in
theorem rrow_3 (w : World) : Calls Try.prog 33 #[.int .i64 3] w fun e w' => e = .returned (.tuple #[.string ⟨#[97, 99, 45, 45, 45]⟩, .bool true]) ∧ w' = w := by
  go_enter Try.func33, Try.ntmps33
  go_wp2
  go_ret2
  exact ⟨rfl, rfl⟩

set_option maxRecDepth 100000 in
set_option maxHeartbeats 2000000 in
theorem rrow_4 (w : World) : Calls Try.prog 33 #[.int .i64 4] w fun e w' => e = .returned (.tuple #[.string ⟨#[100, 120, 120, 45, 45]⟩, .bool true]) ∧ w' = w := by
  go_enter Try.func33, Try.ntmps33
  go_wp2
  go_ret2
  exact ⟨rfl, rfl⟩

set_option maxRecDepth 100000 in
set_option maxHeartbeats 2000000 in
theorem rrow_5 (w : World) : Calls Try.prog 33 #[.int .i64 5] w fun e w' => e = .returned (.tuple #[.string ⟨#[100, 120, 120, 45, 45]⟩, .bool true]) ∧ w' = w := by
  go_enter Try.func33, Try.ntmps33
  go_wp2
  go_ret2
  exact ⟨rfl, rfl⟩

set_option maxRecDepth 100000 in
set_option maxHeartbeats 2000000 in
theorem rrow_6 (w : World) : Calls Try.prog 33 #[.int .i64 6] w fun e w' => e = .returned (.tuple #[.string ⟨#[100, 120, 120, 45, 45]⟩, .bool true]) ∧ w' = w := by
  go_enter Try.func33, Try.ntmps33
  go_wp2
  go_ret2
  exact ⟨rfl, rfl⟩

set_option maxRecDepth 100000 in
set_option maxHeartbeats 2000000 in
theorem rrow_7 (w : World) : Calls Try.prog 33 #[.int .i64 7] w fun e w' => e = .returned (.tuple #[.string ⟨#[100, 120, 120, 45, 45]⟩, .bool true]) ∧ w' = w := by
  go_enter Try.func33, Try.ntmps33
  go_wp2
  go_ret2
  exact ⟨rfl, rfl⟩

set_option maxRecDepth 100000 in
set_option maxHeartbeats 2000000 in
theorem rrow_8 (w : World) : Calls Try.prog 33 #[.int .i64 8] w fun e w' => e = .returned (.tuple #[.string ⟨#[100, 120, 120, 45, 45]⟩, .bool true]) ∧ w' = w := by
  go_enter Try.func33, Try.ntmps33
  go_wp2
  go_ret2
  exact ⟨rfl, rfl⟩

set_option maxRecDepth 100000 in
set_option maxHeartbeats 2000000 in
theorem rrow_9 (w : World) : Calls Try.prog 33 #[.int .i64 9] w fun e w' => e = .returned (.tuple #[.string ⟨#[100, 120, 120, 45, 45]⟩, .bool true]) ∧ w' = w := by
  go_enter Try.func33, Try.ntmps33
  go_wp2
  go_ret2
  exact ⟨rfl, rfl⟩

set_option maxRecDepth 100000 in
set_option maxHeartbeats 2000000 in
theorem rrow_10 (w : World) : Calls Try.prog 33 #[.int .i64 10] w fun e w' => e = .returned (.tuple #[.string ⟨#[100, 120, 120, 45, 45]⟩, .bool true]) ∧ w' = w := by
  go_enter Try.func33, Try.ntmps33
  go_wp2
  go_ret2
  exact ⟨rfl, rfl⟩

set_option maxRecDepth 100000 in
set_option maxHeartbeats 2000000 in
theorem rrow_11 (w : World) : Calls Try.prog 33 #[.int .i64 11] w fun e w' => e = .returned (.tuple #[.string ⟨#[100, 120, 45, 45, 45]⟩, .bool true]) ∧ w' = w := by
  go_enter Try.func33, Try.ntmps33
  go_wp2
  go_ret2
  exact ⟨rfl, rfl⟩

set_option maxRecDepth 100000 in
set_option maxHeartbeats 2000000 in
theorem rrow_12 (w : World) : Calls Try.prog 33 #[.int .i64 12] w fun e w' => e = .returned (.tuple #[.string ⟨#[100, 120, 45, 45, 45]⟩, .bool true]) ∧ w' = w := by
  go_enter Try.func33, Try.ntmps33
  go_wp2
  go_ret2
  exact ⟨rfl, rfl⟩

end Go.Proofs.Ytgnjhjkbnchdmaa
/- latheref16.Row, by program (tool/layer16). -/
namespace Go.Proofs.Ytgnjhjkbnchdmaa
open Go.RowKit
set_option linter.unusedVariables false
set_option linter.unusedSimpArgs false

set_option maxRecDepth 100000 in
set_option maxHeartbeats 2000000 in
theorem rrow_13 (w : World) : Calls Try.prog 33 #[.int .i64 13] w fun e w' => e = .returned (.tuple #[.string ⟨#[100, 120, 45, 45, 45]⟩, .bool true]) ∧ w' = w := by
  go_enter Try.func33, Try.ntmps33
  go_wp2
  go_ret2
  exact ⟨rfl, rfl⟩

set_option maxRecDepth 100000 in
set_option maxHeartbeats 2000000 in
theorem rrow_14 (w : World) : Calls Try.prog 33 #[.int .i64 14] w fun e w' => e = .returned (.tuple #[.string ⟨#[100, 120, 45, 45, 45]⟩, .bool true]) ∧ w' = w := by
  go_enter Try.func33, Try.ntmps33
  go_wp2
  go_ret2
  exact ⟨rfl, rfl⟩

set_option maxRecDepth 100000 in
set_option maxHeartbeats 2000000 in
theorem rrow_15 (w : World) : Calls Try.prog 33 #[.int .i64 15] w fun e w' => e = .returned (.tuple #[.string ⟨#[100, 120, 120, 120, 45]⟩, .bool true]) ∧ w' = w := by
  go_enter Try.func33, Try.ntmps33
  go_wp2
  go_ret2
  exact ⟨rfl, rfl⟩

set_option maxRecDepth 100000 in
set_option maxHeartbeats 2000000 in
theorem rrow_16 (w : World) : Calls Try.prog 33 #[.int .i64 16] w fun e w' => e = .returned (.tuple #[.string ⟨#[110, 110, 119, 45, 45]⟩, .bool true]) ∧ w' = w := by
  go_enter Try.func33, Try.ntmps33
  go_wp2
  go_ret2
  exact ⟨rfl, rfl⟩

set_option maxRecDepth 100000 in
set_option maxHeartbeats 2000000 in
theorem rrow_17 (w : World) : Calls Try.prog 33 #[.int .i64 17] w fun e w' => e = .returned (.tuple #[.string ⟨#[110, 119, 45, 45, 45]⟩, .bool true]) ∧ w' = w := by
  go_enter Try.func33, Try.ntmps33
  go_wp2
  go_ret2
  exact ⟨rfl, rfl⟩

set_option maxRecDepth 100000 in
set_option maxHeartbeats 2000000 in
theorem rrow_18 (w : World) : Calls Try.prog 33 #[.int .i64 18] w fun e w' => e = .returned (.tuple #[.string ⟨#[119, 110, 45, 45, 45]⟩, .bool true]) ∧ w' = w := by
  go_enter Try.func33, Try.ntmps33
  go_wp2
  go_ret2
  exact ⟨rfl, rfl⟩

set_option maxRecDepth 100000 in
set_option maxHeartbeats 2000000 in
theorem rrow_19 (w : World) : Calls Try.prog 33 #[.int .i64 19] w fun e w' => e = .returned (.tuple #[.string ⟨#[110, 118, 45, 45, 45]⟩, .bool true]) ∧ w' = w := by
  go_enter Try.func33, Try.ntmps33
  go_wp2
  go_ret2
  exact ⟨rfl, rfl⟩

set_option maxRecDepth 100000 in
set_option maxHeartbeats 2000000 in
theorem rrow_20 (w : World) : Calls Try.prog 33 #[.int .i64 20] w fun e w' => e = .returned (.tuple #[.string ⟨#[110, 118, 45, 45, 45]⟩, .bool true]) ∧ w' = w := by
  go_enter Try.func33, Try.ntmps33
  go_wp2
  go_ret2
  exact ⟨rfl, rfl⟩

set_option maxRecDepth 100000 in
set_option maxHeartbeats 2000000 in
theorem rrow_21 (w : World) : Calls Try.prog 33 #[.int .i64 21] w fun e w' => e = .returned (.tuple #[.string ⟨#[119, 119, 45, 45, 45]⟩, .bool true]) ∧ w' = w := by
  go_enter Try.func33, Try.ntmps33
  go_wp2
  go_ret2
  exact ⟨rfl, rfl⟩

end Go.Proofs.Ytgnjhjkbnchdmaa
/- latheref16.Row, by program (tool/layer16). -/
namespace Go.Proofs.Ytgnjhjkbnchdmaa
open Go.RowKit
set_option linter.unusedVariables false
set_option linter.unusedSimpArgs false

set_option maxRecDepth 100000 in
set_option maxHeartbeats 2000000 in
theorem rrow_22 (w : World) : Calls Try.prog 33 #[.int .i64 22] w fun e w' => e = .returned (.tuple #[.string ⟨#[119, 119, 119, 45, 45]⟩, .bool true]) ∧ w' = w := by
  go_enter Try.func33, Try.ntmps33
  go_wp2
  go_ret2
  exact ⟨rfl, rfl⟩

set_option maxRecDepth 100000 in
set_option maxHeartbeats 2000000 in
theorem rrow_23 (w : World) : Calls Try.prog 33 #[.int .i64 23] w fun e w' => e = .returned (.tuple #[.string ⟨#[119, 119, 119, 45, 45]⟩, .bool true]) ∧ w' = w := by
  go_enter Try.func33, Try.ntmps33
  go_wp2
  go_ret2
  exact ⟨rfl, rfl⟩

set_option maxRecDepth 100000 in
set_option maxHeartbeats 2000000 in
theorem rrow_24 (w : World) : Calls Try.prog 33 #[.int .i64 24] w fun e w' => e = .returned (.tuple #[.string ⟨#[119, 119, 119, 45, 45]⟩, .bool true]) ∧ w' = w := by
  go_enter Try.func33, Try.ntmps33
  go_wp2
  go_ret2
  exact ⟨rfl, rfl⟩

set_option maxRecDepth 100000 in
set_option maxHeartbeats 2000000 in
theorem rrow_25 (w : World) : Calls Try.prog 33 #[.int .i64 25] w fun e w' => e = .returned (.tuple #[.string ⟨#[119, 119, 45, 45, 45]⟩, .bool true]) ∧ w' = w := by
  go_enter Try.func33, Try.ntmps33
  go_wp2
  go_ret2
  exact ⟨rfl, rfl⟩

set_option maxRecDepth 100000 in
set_option maxHeartbeats 2000000 in
theorem rrow_26 (w : World) : Calls Try.prog 33 #[.int .i64 26] w fun e w' => e = .returned (.tuple #[.string ⟨#[119, 119, 119, 119, 45]⟩, .bool true]) ∧ w' = w := by
  go_enter Try.func33, Try.ntmps33
  go_wp2
  go_ret2
  exact ⟨rfl, rfl⟩

set_option maxRecDepth 100000 in
set_option maxHeartbeats 2000000 in
theorem rrow_27 (w : World) : Calls Try.prog 33 #[.int .i64 27] w fun e w' => e = .returned (.tuple #[.string ⟨#[119, 119, 119, 45, 45]⟩, .bool true]) ∧ w' = w := by
  go_enter Try.func33, Try.ntmps33
  go_wp2
  go_ret2
  exact ⟨rfl, rfl⟩

set_option maxRecDepth 100000 in
set_option maxHeartbeats 2000000 in
theorem rrow_28 (w : World) : Calls Try.prog 33 #[.int .i64 28] w fun e w' => e = .returned (.tuple #[.string ⟨#[119, 119, 119, 45, 45]⟩, .bool true]) ∧ w' = w := by
  go_enter Try.func33, Try.ntmps33
  go_wp2
  go_ret2
  exact ⟨rfl, rfl⟩

set_option maxRecDepth 100000 in
set_option maxHeartbeats 2000000 in
theorem rrow_29 (w : World) : Calls Try.prog 33 #[.int .i64 29] w fun e w' => e = .returned (.tuple #[.string ⟨#[118, 45, 45, 45, 112]⟩, .bool true]) ∧ w' = w := by
  go_enter Try.func33, Try.ntmps33
  go_wp2
  go_ret2
  exact ⟨rfl, rfl⟩

end Go.Proofs.Ytgnjhjkbnchdmaa
/- latheref16.Row, by program (tool/layer16). -/
namespace Go.Proofs.Ytgnjhjkbnchdmaa
open Go.RowKit
set_option linter.unusedVariables false
set_option linter.unusedSimpArgs false

set_option maxRecDepth 100000 in
set_option maxHeartbeats 2000000 in
theorem rrow_30 (w : World) : Calls Try.prog 33 #[.int .i64 30] w fun e w' => e = .returned (.tuple #[.string ⟨#[118, 45, 45, 45, 112]⟩, .bool true]) ∧ w' = w := by
  go_enter Try.func33, Try.ntmps33
  go_wp2
  go_ret2
  exact ⟨rfl, rfl⟩

set_option maxRecDepth 100000 in
set_option maxHeartbeats 2000000 in
theorem rrow_31 (w : World) : Calls Try.prog 33 #[.int .i64 31] w fun e w' => e = .returned (.tuple #[.string ⟨#[45, 118, 45, 45, 112]⟩, .bool true]) ∧ w' = w := by
  go_enter Try.func33, Try.ntmps33
  go_wp2
  go_ret2
  exact ⟨rfl, rfl⟩

set_option maxRecDepth 100000 in
set_option maxHeartbeats 2000000 in
theorem rrow_32 (w : World) : Calls Try.prog 33 #[.int .i64 32] w fun e w' => e = .returned (.tuple #[.string ⟨#[97, 45, 45, 45, 115]⟩, .bool true]) ∧ w' = w := by
  go_enter Try.func33, Try.ntmps33
  go_wp2
  go_ret2
  exact ⟨rfl, rfl⟩

set_option maxRecDepth 100000 in
set_option maxHeartbeats 2000000 in
theorem rrow_33 (w : World) : Calls Try.prog 33 #[.int .i64 33] w fun e w' => e = .returned (.tuple #[.string ⟨#[45, 97, 45, 45, 115]⟩, .bool true]) ∧ w' = w := by
  go_enter Try.func33, Try.ntmps33
  go_wp2
  go_ret2
  exact ⟨rfl, rfl⟩

set_option maxRecDepth 100000 in
set_option maxHeartbeats 2000000 in
theorem rrow_34 (w : World) : Calls Try.prog 33 #[.int .i64 34] w fun e w' => e = .returned (.tuple #[.string ⟨#[45, 119, 45, 45, 45]⟩, .bool true]) ∧ w' = w := by
  go_enter Try.func33, Try.ntmps33
  go_wp2
  go_ret2
  exact ⟨rfl, rfl⟩

set_option maxRecDepth 100000 in
set_option maxHeartbeats 2000000 in
theorem rrow_35 (w : World) : Calls Try.prog 33 #[.int .i64 35] w fun e w' => e = .returned (.tuple #[.string ⟨#[45, 45, 45, 45, 45]⟩, .bool true]) ∧ w' = w := by
  go_enter Try.func33, Try.ntmps33
  go_wp2
  go_ret2
  exact ⟨rfl, rfl⟩

set_option maxRecDepth 100000 in
set_option maxHeartbeats 2000000 in
theorem rrow_36 (w : World) : Calls Try.prog 33 #[.int .i64 36] w fun e w' => e = .returned (.tuple #[.string ⟨#[45, 45, 45, 45, 113]⟩, .bool true]) ∧ w' = w := by
  go_enter Try.func33, Try.ntmps33
  go_wp2
  go_ret2
  exact ⟨rfl, rfl⟩

set_option maxRecDepth 100000 in
set_option maxHeartbeats 2000000 in
theorem rrow_37 (w : World) : Calls Try.prog 33 #[.int .i64 37] w fun e w' => e = .returned (.tuple #[.string ⟨#[45, 45, 45, 45, 45]⟩, .bool true]) ∧ w' = w := by
  go_enter Try.func33, Try.ntmps33
  go_wp2
  go_ret2
  exact ⟨rfl, rfl⟩

end Go.Proofs.Ytgnjhjkbnchdmaa
/- latheref16.Row, by program (tool/layer16). -/
namespace Go.Proofs.Ytgnjhjkbnchdmaa
open Go.RowKit
set_option linter.unusedVariables false
set_option linter.unusedSimpArgs false

set_option maxRecDepth 100000 in
set_option maxHeartbeats 2000000 in
theorem rrow_none (op : Int) (h : knownP op = false) (w : World) : Calls Try.prog 33 #[.int .i64 op] w fun e w' => e = .returned (.tuple #[.string ⟨#[]⟩, .bool false]) ∧ w' = w := by
  have hh : op < 1 ∨ 37 < op := by unfold knownP at h; simp at h; omega
  have e1 : (op == 1) = false := by have : op ≠ 1 := (by omega); simpa using this
  have e2 : (op == 2) = false := by have : op ≠ 2 := (by omega); simpa using this
  have e3 : (op == 3) = false := by have : op ≠ 3 := (by omega); simpa using this
  have e4 : (op == 4) = false := by have : op ≠ 4 := (by omega); simpa using this
  have e5 : (op == 5) = false := by have : op ≠ 5 := (by omega); simpa using this
  have e6 : (op == 6) = false := by have : op ≠ 6 := (by omega); simpa using this
  have e7 : (op == 7) = false := by have : op ≠ 7 := (by omega); simpa using this
  have e8 : (op == 8) = false := by have : op ≠ 8 := (by omega); simpa using this
  have e9 : (op == 9) = false := by have : op ≠ 9 := (by omega); simpa using this
  have e10 : (op == 10) = false := by have : op ≠ 10 := (by omega); simpa using this
  have e11 : (op == 11) = false := by have : op ≠ 11 := (by omega); simpa using this
  have e12 : (op == 12) = false := by have : op ≠ 12 := (by omega); simpa using this
  have e13 : (op == 13) = false := by have : op ≠ 13 := (by omega); simpa using this
  have e14 : (op == 14) = false := by have : op ≠ 14 := (by omega); simpa using this
  have e15 : (op == 15) = false := by have : op ≠ 15 := (by omega); simpa using this
  have e16 : (op == 16) = false := by have : op ≠ 16 := (by omega); simpa using this
  have e17 : (op == 17) = false := by have : op ≠ 17 := (by omega); simpa using this
  have e18 : (op == 18) = false := by have : op ≠ 18 := (by omega); simpa using this
  have e19 : (op == 19) = false := by have : op ≠ 19 := (by omega); simpa using this
  have e20 : (op == 20) = false := by have : op ≠ 20 := (by omega); simpa using this
  have e21 : (op == 21) = false := by have : op ≠ 21 := (by omega); simpa using this
  have e22 : (op == 22) = false := by have : op ≠ 22 := (by omega); simpa using this
  have e23 : (op == 23) = false := by have : op ≠ 23 := (by omega); simpa using this
  have e24 : (op == 24) = false := by have : op ≠ 24 := (by omega); simpa using this
  have e25 : (op == 25) = false := by have : op ≠ 25 := (by omega); simpa using this
  have e26 : (op == 26) = false := by have : op ≠ 26 := (by omega); simpa using this
  have e27 : (op == 27) = false := by have : op ≠ 27 := (by omega); simpa using this
  have e28 : (op == 28) = false := by have : op ≠ 28 := (by omega); simpa using this
  have e29 : (op == 29) = false := by have : op ≠ 29 := (by omega); simpa using this
  have e30 : (op == 30) = false := by have : op ≠ 30 := (by omega); simpa using this
  have e31 : (op == 31) = false := by have : op ≠ 31 := (by omega); simpa using this
  have e32 : (op == 32) = false := by have : op ≠ 32 := (by omega); simpa using this
  have e33 : (op == 33) = false := by have : op ≠ 33 := (by omega); simpa using this
  have e34 : (op == 34) = false := by have : op ≠ 34 := (by omega); simpa using this
  have e35 : (op == 35) = false := by have : op ≠ 35 := (by omega); simpa using this
  have e36 : (op == 36) = false := by have : op ≠ 36 := (by omega); simpa using this
  have e37 : (op == 37) = false := by have : op ≠ 37 := (by omega); simpa using this
  clear hh h
  go_enter Try.func33, Try.ntmps33
  go_wp2
  go_ret2
  exact ⟨rfl, rfl⟩

/-- A row's text: five signs, each that of its letter. -/
structure RowText (r : Rw) (a b c d e : UInt8) : Prop where
  a : (a == 45) = (r.d == 0)
  b : (b == 45) = (r.a == 0)
  c : (c == 45) = (r.b == 0)
  d : (d == 45) = (r.c == 0)
theorem rrow_any (op : Int) (w : World) : (knownP op = false ∧ Calls Try.prog 33 #[.int .i64 op] w fun e w' => e = .returned (.tuple #[.string ⟨#[]⟩, .bool false]) ∧ w' = w) ∨ (knownP op = true ∧ ∃ a b c d e : UInt8, RowText (rowP op) a b c d e ∧ ∀ w, Calls Try.prog 33 #[.int .i64 op] w fun x w' => x = .returned (.tuple #[.string ⟨#[a, b, c, d, e]⟩, .bool true]) ∧ w' = w) := by
  by_cases h : knownP op = false
  · exact .inl ⟨h, rrow_none op h w⟩
  · have hh : 1 ≤ op ∧ op ≤ 37 := by unfold knownP at h; simp at h; omega
    refine .inr ⟨by simpa using h, ?_⟩
    clear h
    by_cases k1 : op = 1
    · subst k1; exact ⟨_, _, _, _, _, ⟨rfl, rfl, rfl, rfl⟩, fun w => rrow_1 w⟩
    by_cases k2 : op = 2
    · subst k2; exact ⟨_, _, _, _, _, ⟨rfl, rfl, rfl, rfl⟩, fun w => rrow_2 w⟩
    by_cases k3 : op = 3
    · subst k3; exact ⟨_, _, _, _, _, ⟨rfl, rfl, rfl, rfl⟩, fun w => rrow_3 w⟩
    by_cases k4 : op = 4
    · subst k4; exact ⟨_, _, _, _, _, ⟨rfl, rfl, rfl, rfl⟩, fun w => rrow_4 w⟩
    by_cases k5 : op = 5
    · subst k5; exact ⟨_, _, _, _, _, ⟨rfl, rfl, rfl, rfl⟩, fun w => rrow_5 w⟩
    by_cases k6 : op = 6
    · subst k6; exact ⟨_, _, _, _, _, ⟨rfl, rfl, rfl, rfl⟩, fun w => rrow_6 w⟩
    by_cases k7 : op = 7
    · subst k7; exact ⟨_, _, _, _, _, ⟨rfl, rfl, rfl, rfl⟩, fun w => rrow_7 w⟩
    by_cases k8 : op = 8
    · subst k8; exact ⟨_, _, _, _, _, ⟨rfl, rfl, rfl, rfl⟩, fun w => rrow_8 w⟩
    by_cases k9 : op = 9
    · subst k9; exact ⟨_, _, _, _, _, ⟨rfl, rfl, rfl, rfl⟩, fun w => rrow_9 w⟩
    by_cases k10 : op = 10
    · subst k10; exact ⟨_, _, _, _, _, ⟨rfl, rfl, rfl, rfl⟩, fun w => rrow_10 w⟩
    by_cases k11 : op = 11
    · subst k11; exact ⟨_, _, _, _, _, ⟨rfl, rfl, rfl, rfl⟩, fun w => rrow_11 w⟩
    by_cases k12 : op = 12
    · subst k12; exact ⟨_, _, _, _, _, ⟨rfl, rfl, rfl, rfl⟩, fun w => rrow_12 w⟩
    by_cases k13 : op = 13
    · subst k13; exact ⟨_, _, _, _, _, ⟨rfl, rfl, rfl, rfl⟩, fun w => rrow_13 w⟩
    by_cases k14 : op = 14
    · subst k14; exact ⟨_, _, _, _, _, ⟨rfl, rfl, rfl, rfl⟩, fun w => rrow_14 w⟩
    by_cases k15 : op = 15
    · subst k15; exact ⟨_, _, _, _, _, ⟨rfl, rfl, rfl, rfl⟩, fun w => rrow_15 w⟩
    by_cases k16 : op = 16
    · subst k16; exact ⟨_, _, _, _, _, ⟨rfl, rfl, rfl, rfl⟩, fun w => rrow_16 w⟩
    by_cases k17 : op = 17
    · subst k17; exact ⟨_, _, _, _, _, ⟨rfl, rfl, rfl, rfl⟩, fun w => rrow_17 w⟩
    by_cases k18 : op = 18
    · subst k18; exact ⟨_, _, _, _, _, ⟨rfl, rfl, rfl, rfl⟩, fun w => rrow_18 w⟩
    by_cases k19 : op = 19
    · subst k19; exact ⟨_, _, _, _, _, ⟨rfl, rfl, rfl, rfl⟩, fun w => rrow_19 w⟩
    by_cases k20 : op = 20
    · subst k20; exact ⟨_, _, _, _, _, ⟨rfl, rfl, rfl, rfl⟩, fun w => rrow_20 w⟩
    by_cases k21 : op = 21
    · subst k21; exact ⟨_, _, _, _, _, ⟨rfl, rfl, rfl, rfl⟩, fun w => rrow_21 w⟩
    by_cases k22 : op = 22
    · subst k22; exact ⟨_, _, _, _, _, ⟨rfl, rfl, rfl, rfl⟩, fun w => rrow_22 w⟩
    by_cases k23 : op = 23
    · subst k23; exact ⟨_, _, _, _, _, ⟨rfl, rfl, rfl, rfl⟩, fun w => rrow_23 w⟩
    by_cases k24 : op = 24
    · subst k24; exact ⟨_, _, _, _, _, ⟨rfl, rfl, rfl, rfl⟩, fun w => rrow_24 w⟩
    by_cases k25 : op = 25
    · subst k25; exact ⟨_, _, _, _, _, ⟨rfl, rfl, rfl, rfl⟩, fun w => rrow_25 w⟩
    by_cases k26 : op = 26
    · subst k26; exact ⟨_, _, _, _, _, ⟨rfl, rfl, rfl, rfl⟩, fun w => rrow_26 w⟩
    by_cases k27 : op = 27
    · subst k27; exact ⟨_, _, _, _, _, ⟨rfl, rfl, rfl, rfl⟩, fun w => rrow_27 w⟩
    by_cases k28 : op = 28
    · subst k28; exact ⟨_, _, _, _, _, ⟨rfl, rfl, rfl, rfl⟩, fun w => rrow_28 w⟩
    by_cases k29 : op = 29
    · subst k29; exact ⟨_, _, _, _, _, ⟨rfl, rfl, rfl, rfl⟩, fun w => rrow_29 w⟩
    by_cases k30 : op = 30
    · subst k30; exact ⟨_, _, _, _, _, ⟨rfl, rfl, rfl, rfl⟩, fun w => rrow_30 w⟩
    by_cases k31 : op = 31
    · subst k31; exact ⟨_, _, _, _, _, ⟨rfl, rfl, rfl, rfl⟩, fun w => rrow_31 w⟩
    by_cases k32 : op = 32
    · subst k32; exact ⟨_, _, _, _, _, ⟨rfl, rfl, rfl, rfl⟩, fun w => rrow_32 w⟩
    by_cases k33 : op = 33
    · subst k33; exact ⟨_, _, _, _, _, ⟨rfl, rfl, rfl, rfl⟩, fun w => rrow_33 w⟩
    by_cases k34 : op = 34
    · subst k34; exact ⟨_, _, _, _, _, ⟨rfl, rfl, rfl, rfl⟩, fun w => rrow_34 w⟩
    by_cases k35 : op = 35
    · subst k35; exact ⟨_, _, _, _, _, ⟨rfl, rfl, rfl, rfl⟩, fun w => rrow_35 w⟩
    by_cases k36 : op = 36
    · subst k36; exact ⟨_, _, _, _, _, ⟨rfl, rfl, rfl, rfl⟩, fun w => rrow_36 w⟩
    by_cases k37 : op = 37
    · subst k37; exact ⟨_, _, _, _, _, ⟨rfl, rfl, rfl, rfl⟩, fun w => rrow_37 w⟩
    omega

end Go.Proofs.Ytgnjhjkbnchdmaa
/- Package ir: the main type; N and Bits. -/
namespace Go.Proofs.Ytgnjhjkbnchdmaa
open Go.RowKit
set_option linter.unusedVariables false
set_option linter.unusedSimpArgs false

set_option maxRecDepth 100000 in
set_option maxHeartbeats 2000000 in
theorem mainType_core (C : Nat) (p : Option Addr) (N q : Nat) (l : List Ty) (b o : Nat) (i : Ins) (r : Rw) (w : World) (hN : l.length = N) (c1 : w.cell? ⟨C, 1, none⟩ = some (.slice p N q)) (hr : RowG 2 tyC w (.slice p N q) l) (hB : N ≤ 140737488351232) (hi : CellsAt w b o (inC i)) :
    Calls Try.prog 40 #[.pointer (some ⟨C, 0, none⟩), .pointer (some ⟨b, o, none⟩), rwV r] w fun e w' => e = .returned (tyV (mainT l i r)) ∧ Below w.heap.size w w' := by
  unfold mainT mainR
  have e1 := hi.at 1 rfl
  have e2 := hi.at 2 rfl
  have hC := mcell_lt c1
  have hb := mcell_lt e1
  simp only at hC hb
  have n1 : C ≠ w.heap.size := by omega
  have n2 : C ≠ w.heap.size + 1 := by omega
  have n3 : b ≠ w.heap.size := by omega
  have n4 : b ≠ w.heap.size + 1 := by omega
  clear hi hC hb
  obtain ⟨D, A, B, X, Y⟩ := r
  unfold rwV
  simp only
  have HA : Hid (∀ a v, w.cell? a = some v → ((w.alloc (.cells #[.int .i64 D, .int .i64 A, .int .i64 B, .int .i64 X, .int .i64 Y] 72)).alloc (.cells #[.int .i64 0, .int .i64 0] 45)).cell? a = some v) := fun a v h => kc (bel_alloc _ _) (kc (bel_alloc _ _) h)
  obtain ⟨x, hx⟩ : ∃ x, (if D = 0 then i.a else i.d) = x := ⟨_, rfl⟩
  rw [hx]
  have K1 := isPlace_any x N
  have HX : Hid ((D = 0 ∧ x = i.a) ∨ (D ≠ 0 ∧ x = i.d)) := by
    show _ ∨ _
    by_cases h : D = 0
    · rw [if_pos h] at hx; exact .inl ⟨h, hx.symm⟩
    · rw [if_neg h] at hx; exact .inr ⟨h, hx.symm⟩
  clear hx
  obtain ⟨P, hP⟩ : ∃ P, isPl x N = P := ⟨_, rfl⟩
  simp only [hP] at K1
  have HK : Hid (∀ w, Calls Try.prog 56 #[.int .i64 x, .int .i64 N] w fun e w' => e = .returned (.bool P) ∧ w' = w) := K1
  clear K1
  cases P
  · have HT : Hid (regT l x = ⟨0, 0⟩) := by show _ = _; unfold regT; rw [hN, hP]; rfl
    clear hP hr
    rcases HX.out with ⟨rfl, rfl⟩ | ⟨hD, rfl⟩
    · clear HX
      have f1 := HA.out _ _ e1
      have f2 := HA.out _ _ e2
      have f3 := HA.out _ _ c1
      go_enter Try.func40, Try.ntmps40
      go_wp2_with (go_at_call 56; refine (HK.out _).mono ?_; rintro e w1 ⟨rfl, rfl⟩)
      refine bodyPost_ret (by simp [results, Try.results40, go_sem, *]; try rfl) rfl ?_
      exact ⟨by rw [HT.out]; rfl, by go_grown⟩
    · clear HX
      have hD' : (D == 0) = false := by simpa using hD
      clear hD
      have f1 := HA.out _ _ e1
      have f2 := HA.out _ _ e2
      have f3 := HA.out _ _ c1
      go_enter Try.func40, Try.ntmps40
      go_wp2_with (go_at_call 56; refine (HK.out _).mono ?_; rintro e w1 ⟨rfl, rfl⟩)
      refine bodyPost_ret (by simp [results, Try.results40, go_sem, *]; try rfl) rfl ?_
      exact ⟨by rw [HT.out]; rfl, by go_grown⟩
  · obtain ⟨k, hxk, hk⟩ := pl_nat hP
    have hkl : k < l.length := by omega
    have HT : Hid (regT l x = l[k]) := regT_at hxk hkl
    obtain ⟨g, u, hp, hx⟩ := hr.at hkl
    subst hp
    have x0 := hx.at 0 rfl
    have x1 := hx.at 1 rfl
    rw [Nat.add_zero] at x0
    obtain ⟨T, hT⟩ : ∃ T, l[k] = T := ⟨_, rfl⟩
    rw [hT] at x0 x1 HT
    obtain ⟨E, G⟩ := T
    simp only at x0 x1
    have hg := mcell_lt x0
    simp only at hg
    have n5 : g ≠ w.heap.size := by omega
    have n6 : g ≠ w.heap.size + 1 := by omega
    have i1 : (0 : Int) ≤ (k : Int) := by omega
    have i2 : (k : Int) < (N : Int) := by omega
    clear hP hr hx hT hg hN hkl
    rcases HX.out with ⟨rfl, hv⟩ | ⟨hD, hv⟩
    · clear HX
      rw [← hv, hxk] at e2
      rw [hxk] at HK HT ⊢
      clear hv hxk
      have f1 := HA.out _ _ e1
      have f2 := HA.out _ _ e2
      have f3 := HA.out _ _ c1
      have f4 := HA.out _ _ x0
      have f5 := HA.out _ _ x1
      go_enter Try.func40, Try.ntmps40
      go_wp2_with (go_at_call 56; refine (HK.out _).mono ?_; rintro e w1 ⟨rfl, rfl⟩)
      refine bodyPost_ret (by simp [results, Try.results40, go_sem, *]; try rfl) rfl ?_
      exact ⟨by rw [HT.out]; rfl, by go_grown⟩
    · clear HX
      have hD' : (D == 0) = false := by simpa using hD
      rw [← hv, hxk] at e1
      rw [hxk] at HK HT ⊢
      clear hD hv hxk
      have f1 := HA.out _ _ e1
      have f2 := HA.out _ _ e2
      have f3 := HA.out _ _ c1
      have f4 := HA.out _ _ x0
      have f5 := HA.out _ _ x1
      go_enter Try.func40, Try.ntmps40
      go_wp2_with (go_at_call 56; refine (HK.out _).mono ?_; rintro e w1 ⟨rfl, rfl⟩)
      refine bodyPost_ret (by simp [results, Try.results40, go_sem, *]; try rfl) rfl ?_
      exact ⟨by rw [HT.out]; rfl, by go_grown⟩

theorem mainType_any (C : Nat) (v0 v1 v2 v3 : Value) (c : Cd) (hk : CdOk c) (b o : Nat) (i : Ins) (r : Rw) (w : World) (hc : CdAt w C v0 v1 v2 v3 c) (hi : CellsAt w b o (inC i)) :
    Calls Try.prog 40 #[.pointer (some ⟨C, 0, none⟩), .pointer (some ⟨b, o, none⟩), rwV r] w fun e w' => e = .returned (tyV (mainT c.regs i r)) ∧ Below w.heap.size w w' := by
  obtain ⟨hcc, hcv⟩ := hc
  have c1 := hcc.at 1 rfl
  rw [Nat.zero_add] at c1
  have hr := hcv.regs
  obtain ⟨p, q, rfl, hrr⟩ := hcv.regs
  exact mainType_core C p _ q c.regs b o i r w rfl c1 hr hk.regsL hi

end Go.Proofs.Ytgnjhjkbnchdmaa
