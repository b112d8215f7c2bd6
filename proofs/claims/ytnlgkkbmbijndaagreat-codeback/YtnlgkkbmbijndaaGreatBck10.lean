import Derived.Test.YtnlgkkbmbijndaaGreatBck2
/- Package ir: rowOf, by program (tool/layer16). -/
namespace Go.Proofs.YtnlgkkbmbijndaaGreat
open Go.RowKit
set_option linter.unusedVariables false
set_option linter.unusedSimpArgs false

set_option maxRecDepth 100000 in
set_option maxHeartbeats 2000000 in
theorem rowOf_1 (w : World) : Calls Tryz.prog 74 #[.int .i64 1] w fun e w' => e = .returned (.tuple #[rwV (rowP 1), .bool true]) ∧ Below w.heap.size w w' := by
  go_enter Tryz.func74, Tryz.ntmps74
  go_wp2
  refine bodyPost_ret (by simp [results, Tryz.results74, go_sem]; try rfl) rfl ?_
  exact ⟨rfl, by go_grown⟩

set_option maxRecDepth 100000 in
set_option maxHeartbeats 2000000 in
theorem rowOf_2 (w : World) : Calls Tryz.prog 74 #[.int .i64 2] w fun e w' => e = .returned (.tuple #[rwV (rowP 2), .bool true]) ∧ Below w.heap.size w w' := by
  go_enter Tryz.func74, Tryz.ntmps74
  go_wp2
  refine bodyPost_ret (by simp [results, Tryz.results74, go_sem]; try rfl) rfl ?_
  exact ⟨rfl, by go_grown⟩

set_option maxRecDepth 100000 in
set_option maxHeartbeats 2000000 in
theorem rowOf_3 (w : World) : Calls Tryz.prog 74 #[.int .i64 3] w fun e w' => e = .returned (.tuple #[rwV (rowP 3), .bool true]) ∧ Below w.heap.size w w' := by
  go_enter Tryz.func74, Tryz.ntmps74
  go_wp2
  refine bodyPost_ret (by simp [results, Tryz.results74, go_sem]; try rfl) rfl ?_
  exact ⟨rfl, by go_grown⟩

set_option maxRecDepth 100000 in
set_option maxHeartbeats 2000000 in
theorem rowOf_4 (w : World) : Calls Tryz.prog 74 #[.int .i64 4] w fun e w' => e = .returned (.tuple #[rwV (rowP 4), .bool true]) ∧ Below w.heap.size w w' := by
  go_enter Tryz.func74, Tryz.ntmps74
  go_wp2
  refine bodyPost_ret (by simp [results, Tryz.results74, go_sem]; try rfl) rfl ?_
  exact ⟨rfl, by go_grown⟩

set_option maxRecDepth 100000 in
set_option maxHeartbeats 2000000 in
theorem rowOf_5 (w : World) : Calls Tryz.prog 74 #[.int .i64 5] w fun e w' => e = .returned (.tuple #[rwV (rowP 5), .bool true]) ∧ Below w.heap.size w w' := by
  go_enter Tryz.func74, Tryz.ntmps74
  go_wp2
  refine bodyPost_ret (by simp [results, Tryz.results74, go_sem]; try rfl) rfl ?_
  exact ⟨rfl, by go_grown⟩

set_option maxRecDepth 100000 in
set_option maxHeartbeats 2000000 in
theorem rowOf_6 (w : World) : Calls Tryz.prog 74 #[.int .i64 6] w fun e w' => e = .returned (.tuple #[rwV (rowP 6), .bool true]) ∧ Below w.heap.size w w' := by
  go_enter Tryz.func74, Tryz.ntmps74
  go_wp2
  refine bodyPost_ret (by simp [results, Tryz.results74, go_sem]; try rfl) rfl ?_
  exact ⟨rfl, by go_grown⟩

set_option maxRecDepth 100000 in
set_option maxHeartbeats 2000000 in
theorem rowOf_7 (w : World) : Calls Tryz.prog 74 #[.int .i64 7] w fun e w' => e = .returned (.tuple #[rwV (rowP 7), .bool true]) ∧ Below w.heap.size w w' := by
  go_enter Tryz.func74, Tryz.ntmps74
  go_wp2
  refine bodyPost_ret (by simp [results, Tryz.results74, go_sem]; try rfl) rfl ?_
  exact ⟨rfl, by go_grown⟩

set_option maxRecDepth 100000 in
set_option maxHeartbeats 2000000 in
theorem rowOf_8 (w : World) : Calls Tryz.prog 74 #[.int .i64 8] w fun e w' => e = .returned (.tuple #[rwV (rowP 8), .bool true]) ∧ Below w.heap.size w w' := by
  go_enter Tryz.func74, Tryz.ntmps74
  go_wp2
  refine bodyPost_ret (by simp [results, Tryz.results74, go_sem]; try rfl) rfl ?_
  exact ⟨rfl, by go_grown⟩

set_option maxRecDepth 100000 in
set_option maxHeartbeats 2000000 in
theorem rowOf_9 (w : World) : Calls Tryz.prog 74 #[.int .i64 9] w fun e w' => e = .returned (.tuple #[rwV (rowP 9), .bool true]) ∧ Below w.heap.size w w' := by
  go_enter Tryz.func74, Tryz.ntmps74
  go_wp2
  refine bodyPost_ret (by simp [results, Tryz.results74, go_sem]; try rfl) rfl ?_
  exact ⟨rfl, by go_grown⟩

set_option maxRecDepth 100000 in
set_option maxHeartbeats 2000000 in
theorem rowOf_10 (w : World) : Calls Tryz.prog 74 #[.int .i64 10] w fun e w' => e = .returned (.tuple #[rwV (rowP 10), .bool true]) ∧ Below w.heap.size w w' := by
  go_enter Tryz.func74, Tryz.ntmps74
  go_wp2
  refine bodyPost_ret (by simp [results, Tryz.results74, go_sem]; try rfl) rfl ?_
  exact ⟨rfl, by go_grown⟩

set_option maxRecDepth 100000 in
set_option maxHeartbeats 2000000 in
theorem rowOf_11 (w : World) : Calls Tryz.prog 74 #[.int .i64 11] w fun e w' => e = .returned (.tuple #[rwV (rowP 11), .bool true]) ∧ Below w.heap.size w w' := by
  go_enter Tryz.func74, Tryz.ntmps74
  go_wp2
  refine bodyPost_ret (by simp [results, Tryz.results74, go_sem]; try rfl) rfl ?_
  exact ⟨rfl, by go_grown⟩

set_option maxRecDepth 100000 in
set_option maxHeartbeats 2000000 in
theorem rowOf_12 (w : World) : Calls Tryz.prog 74 #[.int .i64 12] w fun e w' => e = .returned (.tuple #[rwV (rowP 12), .bool true]) ∧ Below w.heap.size w w' := by
  go_enter Tryz.func74, Tryz.ntmps74
  go_wp2
  refine bodyPost_ret (by simp [results, Tryz.results74, go_sem]; try rfl) rfl ?_
  exact ⟨rfl, by go_grown⟩

end Go.Proofs.YtnlgkkbmbijndaaGreat
/- Package ir: rowOf, by program (tool/layer16). -/
namespace Go.Proofs.YtnlgkkbmbijndaaGreat
open Go.RowKit
set_option linter.unusedVariables false
set_option linter.unusedSimpArgs false

set_option maxRecDepth 100000 in
set_option maxHeartbeats 2000000 in
theorem rowOf_13 (w : World) : Calls Tryz.prog 74 #[.int .i64 13] w fun e w' => e = .returned (.tuple #[rwV (rowP 13), .bool true]) ∧ Below w.heap.size w w' := by
  go_enter Tryz.func74, Tryz.ntmps74
  go_wp2
  refine bodyPost_ret (by simp [results, Tryz.results74, go_sem]; try rfl) rfl ?_
  exact ⟨rfl, by go_grown⟩

set_option maxRecDepth 100000 in
set_option maxHeartbeats 2000000 in
theorem rowOf_14 (w : World) : Calls Tryz.prog 74 #[.int .i64 14] w fun e w' => e = .returned (.tuple #[rwV (rowP 14), .bool true]) ∧ Below w.heap.size w w' := by
  go_enter Tryz.func74, Tryz.ntmps74
  go_wp2
  refine bodyPost_ret (by simp [results, Tryz.results74, go_sem]; try rfl) rfl ?_
  exact ⟨rfl, by go_grown⟩

set_option maxRecDepth 100000 in
set_option maxHeartbeats 2000000 in
theorem rowOf_15 (w : World) : Calls Tryz.prog 74 #[.int .i64 15] w fun e w' => e = .returned (.tuple #[rwV (rowP 15), .bool true]) ∧ Below w.heap.size w w' := by
  go_enter Tryz.func74, Tryz.ntmps74
  go_wp2
  refine bodyPost_ret (by simp [results, Tryz.results74, go_sem]; try rfl) rfl ?_
  exact ⟨rfl, by go_grown⟩

set_option maxRecDepth 100000 in
set_option maxHeartbeats 2000000 in
theorem rowOf_16 (w : World) : Calls Tryz.prog 74 #[.int .i64 16] w fun e w' => e = .returned (.tuple #[rwV (rowP 16), .bool true]) ∧ Below w.heap.size w w' := by
  go_enter Tryz.func74, Tryz.ntmps74
  go_wp2
  refine bodyPost_ret (by simp [results, Tryz.results74, go_sem]; try rfl) rfl ?_
  exact ⟨rfl, by go_grown⟩

set_option maxRecDepth 100000 in
set_option maxHeartbeats 2000000 in
theorem rowOf_17 (w : World) : Calls Tryz.prog 74 #[.int .i64 17] w fun e w' => e = .returned (.tuple #[rwV (rowP 17), .bool true]) ∧ Below w.heap.size w w' := by
  go_enter Tryz.func74, Tryz.ntmps74
  go_wp2
  refine bodyPost_ret (by simp [results, Tryz.results74, go_sem]; try rfl) rfl ?_
  exact ⟨rfl, by go_grown⟩

set_option maxRecDepth 100000 in
set_option maxHeartbeats 2000000 in
theorem rowOf_18 (w : World) : Calls Tryz.prog 74 #[.int .i64 18] w fun e w' => e = .returned (.tuple #[rwV (rowP 18), .bool true]) ∧ Below w.heap.size w w' := by
  go_enter Tryz.func74, Tryz.ntmps74
  go_wp2
  refine bodyPost_ret (by simp [results, Tryz.results74, go_sem]; try rfl) rfl ?_
  exact ⟨rfl, by go_grown⟩

set_option maxRecDepth 100000 in
set_option maxHeartbeats 2000000 in
theorem rowOf_19 (w : World) : Calls Tryz.prog 74 #[.int .i64 19] w fun e w' => e = .returned (.tuple #[rwV (rowP 19), .bool true]) ∧ Below w.heap.size w w' := by
  go_enter Tryz.func74, Tryz.ntmps74
  go_wp2
  refine bodyPost_ret (by simp [results, Tryz.results74, go_sem]; try rfl) rfl ?_
  exact ⟨rfl, by go_grown⟩

set_option maxRecDepth 100000 in
set_option maxHeartbeats 2000000 in
theorem rowOf_20 (w : World) : Calls Tryz.prog 74 #[.int .i64 20] w fun e w' => e = .returned (.tuple #[rwV (rowP 20), .bool true]) ∧ Below w.heap.size w w' := by
  go_enter Tryz.func74, Tryz.ntmps74
  go_wp2
  refine bodyPost_ret (by simp [results, Tryz.results74, go_sem]; try rfl) rfl ?_
  exact ⟨rfl, by go_grown⟩

set_option maxRecDepth 100000 in
set_option maxHeartbeats 2000000 in
theorem rowOf_21 (w : World) : Calls Tryz.prog 74 #[.int .i64 21] w fun e w' => e = .returned (.tuple #[rwV (rowP 21), .bool true]) ∧ Below w.heap.size w w' := by
  go_enter Tryz.func74, Tryz.ntmps74
  go_wp2
  refine bodyPost_ret (by simp [results, Tryz.results74, go_sem]; try rfl) rfl ?_
  exact ⟨rfl, by go_grown⟩

end Go.Proofs.YtnlgkkbmbijndaaGreat
/- Package ir: rowOf, by program (tool/layer16). -/
namespace Go.Proofs.YtnlgkkbmbijndaaGreat
open Go.RowKit
set_option linter.unusedVariables false
set_option linter.unusedSimpArgs false

set_option maxRecDepth 100000 in
set_option maxHeartbeats 2000000 in
theorem rowOf_22 (w : World) : Calls Tryz.prog 74 #[.int .i64 22] w fun e w' => e = .returned (.tuple #[rwV (rowP 22), .bool true]) ∧ Below w.heap.size w w' := by
  go_enter Tryz.func74, Tryz.ntmps74
  go_wp2
  refine bodyPost_ret (by simp [results, Tryz.results74, go_sem]; try rfl) rfl ?_
  exact ⟨rfl, by go_grown⟩

set_option maxRecDepth 100000 in
set_option maxHeartbeats 2000000 in
theorem rowOf_23 (w : World) : Calls Tryz.prog 74 #[.int .i64 23] w fun e w' => e = .returned (.tuple #[rwV (rowP 23), .bool true]) ∧ Below w.heap.size w w' := by
  go_enter Tryz.func74, Tryz.ntmps74
  go_wp2
  refine bodyPost_ret (by simp [results, Tryz.results74, go_sem]; try rfl) rfl ?_
  exact ⟨rfl, by go_grown⟩

set_option maxRecDepth 100000 in
set_option maxHeartbeats 2000000 in
theorem rowOf_24 (w : World) : Calls Tryz.prog 74 #[.int .i64 24] w fun e w' => e = .returned (.tuple #[rwV (rowP 24), .bool true]) ∧ Below w.heap.size w w' := by
  go_enter Tryz.func74, Tryz.ntmps74
  go_wp2
  refine bodyPost_ret (by simp [results, Tryz.results74, go_sem]; try rfl) rfl ?_
  exact ⟨rfl, by go_grown⟩

set_option maxRecDepth 100000 in
set_option maxHeartbeats 2000000 in
theorem rowOf_25 (w : World) : Calls Tryz.prog 74 #[.int .i64 25] w fun e w' => e = .returned (.tuple #[rwV (rowP 25), .bool true]) ∧ Below w.heap.size w w' := by
  go_enter Tryz.func74, Tryz.ntmps74
  go_wp2
  refine bodyPost_ret (by simp [results, Tryz.results74, go_sem]; try rfl) rfl ?_
  exact ⟨rfl, by go_grown⟩

set_option maxRecDepth 100000 in
set_option maxHeartbeats 2000000 in
theorem rowOf_26 (w : World) : Calls Tryz.prog 74 #[.int .i64 26] w fun e w' => e = .returned (.tuple #[rwV (rowP 26), .bool true]) ∧ Below w.heap.size w w' := by
  go_enter Tryz.func74, Tryz.ntmps74
  go_wp2
  refine bodyPost_ret (by simp [results, Tryz.results74, go_sem]; try rfl) rfl ?_
  exact ⟨rfl, by go_grown⟩

set_option maxRecDepth 100000 in
set_option maxHeartbeats 2000000 in
theorem rowOf_27 (w : World) : Calls Tryz.prog 74 #[.int .i64 27] w fun e w' => e = .returned (.tuple #[rwV (rowP 27), .bool true]) ∧ Below w.heap.size w w' := by
  go_enter Tryz.func74, Tryz.ntmps74
  go_wp2
  refine bodyPost_ret (by simp [results, Tryz.results74, go_sem]; try rfl) rfl ?_
  exact ⟨rfl, by go_grown⟩

set_option maxRecDepth 100000 in
set_option maxHeartbeats 2000000 in
theorem rowOf_28 (w : World) : Calls Tryz.prog 74 #[.int .i64 28] w fun e w' => e = .returned (.tuple #[rwV (rowP 28), .bool true]) ∧ Below w.heap.size w w' := by
  go_enter Tryz.func74, Tryz.ntmps74
  go_wp2
  refine bodyPost_ret (by simp [results, Tryz.results74, go_sem]; try rfl) rfl ?_
  exact ⟨rfl, by go_grown⟩

set_option maxRecDepth 100000 in
set_option maxHeartbeats 2000000 in
theorem rowOf_29 (w : World) : Calls Tryz.prog 74 #[.int .i64 29] w fun e w' => e = .returned (.tuple #[rwV (rowP 29), .bool true]) ∧ Below w.heap.size w w' := by
  go_enter Tryz.func74, Tryz.ntmps74
  go_wp2
  refine bodyPost_ret (by simp [results, Tryz.results74, go_sem]; try rfl) rfl ?_
  exact ⟨rfl, by go_grown⟩

end Go.Proofs.YtnlgkkbmbijndaaGreat
/- Package ir: rowOf, by program (tool/layer16). -/
namespace Go.Proofs.YtnlgkkbmbijndaaGreat
open Go.RowKit
set_option linter.unusedVariables false
set_option linter.unusedSimpArgs false

set_option maxRecDepth 100000 in
set_option maxHeartbeats 2000000 in
theorem rowOf_30 (w : World) : Calls Tryz.prog 74 #[.int .i64 30] w fun e w' => e = .returned (.tuple #[rwV (rowP 30), .bool true]) ∧ Below w.heap.size w w' := by
  go_enter Tryz.func74, Tryz.ntmps74
  go_wp2
  refine bodyPost_ret (by simp [results, Tryz.results74, go_sem]; try rfl) rfl ?_
  exact ⟨rfl, by go_grown⟩

set_option maxRecDepth 100000 in
set_option maxHeartbeats 2000000 in
theorem rowOf_31 (w : World) : Calls Tryz.prog 74 #[.int .i64 31] w fun e w' => e = .returned (.tuple #[rwV (rowP 31), .bool true]) ∧ Below w.heap.size w w' := by
  go_enter Tryz.func74, Tryz.ntmps74
  go_wp2
  refine bodyPost_ret (by simp [results, Tryz.results74, go_sem]; try rfl) rfl ?_
  exact ⟨rfl, by go_grown⟩

set_option maxRecDepth 100000 in
set_option maxHeartbeats 2000000 in
theorem rowOf_32 (w : World) : Calls Tryz.prog 74 #[.int .i64 32] w fun e w' => e = .returned (.tuple #[rwV (rowP 32), .bool true]) ∧ Below w.heap.size w w' := by
  go_enter Tryz.func74, Tryz.ntmps74
  go_wp2
  refine bodyPost_ret (by simp [results, Tryz.results74, go_sem]; try rfl) rfl ?_
  exact ⟨rfl, by go_grown⟩

set_option maxRecDepth 100000 in
set_option maxHeartbeats 2000000 in
theorem rowOf_33 (w : World) : Calls Tryz.prog 74 #[.int .i64 33] w fun e w' => e = .returned (.tuple #[rwV (rowP 33), .bool true]) ∧ Below w.heap.size w w' := by
  go_enter Tryz.func74, Tryz.ntmps74
  go_wp2
  refine bodyPost_ret (by simp [results, Tryz.results74, go_sem]; try rfl) rfl ?_
  exact ⟨rfl, by go_grown⟩

set_option maxRecDepth 100000 in
set_option maxHeartbeats 2000000 in
theorem rowOf_34 (w : World) : Calls Tryz.prog 74 #[.int .i64 34] w fun e w' => e = .returned (.tuple #[rwV (rowP 34), .bool true]) ∧ Below w.heap.size w w' := by
  go_enter Tryz.func74, Tryz.ntmps74
  go_wp2
  refine bodyPost_ret (by simp [results, Tryz.results74, go_sem]; try rfl) rfl ?_
  exact ⟨rfl, by go_grown⟩

set_option maxRecDepth 100000 in
set_option maxHeartbeats 2000000 in
theorem rowOf_35 (w : World) : Calls Tryz.prog 74 #[.int .i64 35] w fun e w' => e = .returned (.tuple #[rwV (rowP 35), .bool true]) ∧ Below w.heap.size w w' := by
  go_enter Tryz.func74, Tryz.ntmps74
  go_wp2
  refine bodyPost_ret (by simp [results, Tryz.results74, go_sem]; try rfl) rfl ?_
  exact ⟨rfl, by go_grown⟩

set_option maxRecDepth 100000 in
set_option maxHeartbeats 2000000 in
theorem rowOf_36 (w : World) : Calls Tryz.prog 74 #[.int .i64 36] w fun e w' => e = .returned (.tuple #[rwV (rowP 36), .bool true]) ∧ Below w.heap.size w w' := by
  go_enter Tryz.func74, Tryz.ntmps74
  go_wp2
  refine bodyPost_ret (by simp [results, Tryz.results74, go_sem]; try rfl) rfl ?_
  exact ⟨rfl, by go_grown⟩

set_option maxRecDepth 100000 in
set_option maxHeartbeats 2000000 in
theorem rowOf_37 (w : World) : Calls Tryz.prog 74 #[.int .i64 37] w fun e w' => e = .returned (.tuple #[rwV (rowP 37), .bool true]) ∧ Below w.heap.size w w' := by
  go_enter Tryz.func74, Tryz.ntmps74
  go_wp2
  refine bodyPost_ret (by simp [results, Tryz.results74, go_sem]; try rfl) rfl ?_
  exact ⟨rfl, by go_grown⟩

end Go.Proofs.YtnlgkkbmbijndaaGreat
/- Package ir: rowOf, by program (tool/layer16). -/
namespace Go.Proofs.YtnlgkkbmbijndaaGreat
open Go.RowKit
set_option linter.unusedVariables false
set_option linter.unusedSimpArgs false

set_option maxRecDepth 100000 in
set_option maxHeartbeats 2000000 in
theorem rowOf_none (op : Int) (h : knownP op = false) (w : World) : Calls Tryz.prog 74 #[.int .i64 op] w fun e w' => e = .returned (.tuple #[rwV ⟨0, 0, 0, 0, 0⟩, .bool false]) ∧ Below w.heap.size w w' := by
  have hh : op < 1 ∨ 37 < op := by unfold knownP at h; simp at h; omega
  have e1 : (op == 1) = false := by have : op ≠ 1 := (by omega); simpa using this
  have e2 : (op == 2) = false := by have : op ≠ 2 := (by omega); simpa using this
  have e3 : (op == 3) = false := by have : op ≠ 3 := (by omega); simpa using this
  have e4 : (op == 4) = false := by have : op ≠ 4 := (by omega); simpa using this
  have e5 : (op == 5) = false := by have : op ≠ 5 := (by omega); simpa using this
  have e6 : (op == 6) = false := by have : op ≠ 6 := (by omega); simpa using this
  have e7 : (op == 7) = false := by have : op ≠ 7 := (by omega); simpa using this
  have e8 : (op == 8) = false := by have : op ≠ 8 := (by omega); simpa using this
  have e9 : (op == 9) = false := by have : op ≠ 9 := (by omega); simpa using this
  have e10 : (op == 10) = false := by have : op ≠ 10 := (by omega); simpa using this
  have e11 : (op == 11) = false := by have : op ≠ 11 := (by omega); simpa using this
  have e12 : (op == 12) = false := by have : op ≠ 12 := (by omega); simpa using this
  have e13 : (op == 13) = false := by have : op ≠ 13 := (by omega); simpa using this
  have e14 : (op == 14) = false := by have : op ≠ 14 := (by omega); simpa using this
  have e15 : (op == 15) = false := by have : op ≠ 15 := (by omega); simpa using this
  have e16 : (op == 16) = false := by have : op ≠ 16 := (by omega); simpa using this
  have e17 : (op == 17) = false := by have : op ≠ 17 := (by omega); simpa using this
  have e18 : (op == 18) = false := by have : op ≠ 18 := (by omega); simpa using this
  have e19 : (op == 19) = false := by have : op ≠ 19 := (by omega); simpa using this
  have e20 : (op == 20) = false := by have : op ≠ 20 := (by omega); simpa using this
  have e21 : (op == 21) = false := by have : op ≠ 21 := (by omega); simpa using this
  have e22 : (op == 22) = false := by have : op ≠ 22 := (by omega); simpa using this
  have e23 : (op == 23) = false := by have : op ≠ 23 := (by omega); simpa using this
  have e24 : (op == 24) = false := by have : op ≠ 24 := (by omega); simpa using this
  have e25 : (op == 25) = false := by have : op ≠ 25 := (by omega); simpa using this
  have e26 : (op == 26) = false := by have : op ≠ 26 := (by omega); simpa using this
  have e27 : (op == 27) = false := by have : op ≠ 27 := (by omega); simpa using this
  have e28 : (op == 28) = false := by have : op ≠ 28 := (by omega); simpa using this
  have e29 : (op == 29) = false := by have : op ≠ 29 := (by omega); simpa using this
  have e30 : (op == 30) = false := by have : op ≠ 30 := (by omega); simpa using this
  have e31 : (op == 31) = false := by have : op ≠ 31 := (by omega); simpa using this
  have e32 : (op == 32) = false := by have : op ≠ 32 := (by omega); simpa using this
  have e33 : (op == 33) = false := by have : op ≠ 33 := (by omega); simpa using this
  have e34 : (op == 34) = false := by have : op ≠ 34 := (by omega); simpa using this
  have e35 : (op == 35) = false := by have : op ≠ 35 := (by omega); simpa using this
  have e36 : (op == 36) = false := by have : op ≠ 36 := (by omega); simpa using this
  have e37 : (op == 37) = false := by have : op ≠ 37 := (by omega); simpa using this
  clear hh h
  go_enter Tryz.func74, Tryz.ntmps74
  go_wp2
  refine bodyPost_ret (by simp [results, Tryz.results74, go_sem]; try rfl) rfl ?_
  exact ⟨rfl, by go_grown⟩

theorem row_none (op : Int) (h : knownP op = false) : rowP op = ⟨0, 0, 0, 0, 0⟩ := by
  have hh : op < 1 ∨ 37 < op := by unfold knownP at h; simp at h; omega
  unfold rowP
  repeat rw [if_neg (by omega)]

theorem rowOf_any (op : Int) (w : World) : Calls Tryz.prog 74 #[.int .i64 op] w fun e w' => e = .returned (.tuple #[rwV (rowP op), .bool (knownP op)]) ∧ Below w.heap.size w w' := by
  by_cases h : knownP op = false
  · rw [h, row_none op h]; exact rowOf_none op h w
  · have hh : 1 ≤ op ∧ op ≤ 37 := by unfold knownP at h; simp at h; omega
    rw [show knownP op = true by simpa using h]
    clear h
    by_cases k1 : op = 1
    · subst k1; exact rowOf_1 w
    by_cases k2 : op = 2
    · subst k2; exact rowOf_2 w
    by_cases k3 : op = 3
    · subst k3; exact rowOf_3 w
    by_cases k4 : op = 4
    · subst k4; exact rowOf_4 w
    by_cases k5 : op = 5
    · subst k5; exact rowOf_5 w
    by_cases k6 : op = 6
    · subst k6; exact rowOf_6 w
    by_cases k7 : op = 7
    · subst k7; exact rowOf_7 w
    by_cases k8 : op = 8
    · subst k8; exact rowOf_8 w
    by_cases k9 : op = 9
    · subst k9; exact rowOf_9 w
    by_cases k10 : op = 10
    · subst k10; exact rowOf_10 w
    by_cases k11 : op = 11
    · subst k11; exact rowOf_11 w
    by_cases k12 : op = 12
    · subst k12; exact rowOf_12 w
    by_cases k13 : op = 13
    · subst k13; exact rowOf_13 w
    by_cases k14 : op = 14
    · subst k14; exact rowOf_14 w
    by_cases k15 : op = 15
    · subst k15; exact rowOf_15 w
    by_cases k16 : op = 16
    · subst k16; exact rowOf_16 w
    by_cases k17 : op = 17
    · subst k17; exact rowOf_17 w
    by_cases k18 : op = 18
    · subst k18; exact rowOf_18 w
    by_cases k19 : op = 19
    · subst k19; exact rowOf_19 w
    by_cases k20 : op = 20
    · subst k20; exact rowOf_20 w
    by_cases k21 : op = 21
    · subst k21; exact rowOf_21 w
    by_cases k22 : op = 22
    · subst k22; exact rowOf_22 w
    by_cases k23 : op = 23
    · subst k23; exact rowOf_23 w
    by_cases k24 : op = 24
    · subst k24; exact rowOf_24 w
    by_cases k25 : op = 25
    · subst k25; exact rowOf_25 w
    by_cases k26 : op = 26
    · subst k26; exact rowOf_26 w
    by_cases k27 : op = 27
    · subst k27; exact rowOf_27 w
    by_cases k28 : op = 28
    · subst k28; exact rowOf_28 w
    by_cases k29 : op = 29
    · subst k29; exact rowOf_29 w
    by_cases k30 : op = 30
    · subst k30; exact rowOf_30 w
    by_cases k31 : op = 31
    · subst k31; exact rowOf_31 w
    by_cases k32 : op = 32
    · subst k32; exact rowOf_32 w
    by_cases k33 : op = 33
    · subst k33; exact rowOf_33 w
    by_cases k34 : op = 34
    · subst k34; exact rowOf_34 w
    by_cases k35 : op = 35
    · subst k35; exact rowOf_35 w
    by_cases k36 : op = 36
    · subst k36; exact rowOf_36 w
    by_cases k37 : op = 37
    · subst k37; exact rowOf_37 w
    omega

end Go.Proofs.YtnlgkkbmbijndaaGreat
