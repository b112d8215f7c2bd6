import Derived.Test.YtnlgkkbmbijndaaGreatBck2
import Derived.Test.YtnlgkkbmbijndaaGreatBck17
import Derived.Test.YtnlgkkbmbijndaaGreatBck14
/- latheref16.Row, by program (tool/layer16). -/
namespace Go.Proofs.YtnlgkkbmbijndaaGreat
open Go.RowKit
set_option linter.unusedVariables false
set_option linter.unusedSimpArgs false

set_option maxRecDepth 100000 in
set_option maxHeartbeats 2000000 in
theorem rrow_22 (w : World) : Calls Tryz.prog 48 #[.int .i64 22] w fun e w' => e = .returned (.tuple #[.string ⟨#[119, 119, 119, 45, 45]⟩, .bool true]) ∧ w' = w := by
  go_enter Tryz.func48, Tryz.ntmps48
  go_wp2
  go_ret2
  exact ⟨rfl, rfl⟩

set_option maxRecDepth 100000 in
set_option maxHeartbeats 2000000 in
theorem rrow_23 (w : World) : Calls Tryz.prog 48 #[.int .i64 23] w fun e w' => e = .returned (.tuple #[.string ⟨#[119, 119, 119, 45, 45]⟩, .bool true]) ∧ w' = w := by
  go_enter Tryz.func48, Tryz.ntmps48
  go_wp2
  go_ret2
  exact ⟨rfl, rfl⟩

set_option maxRecDepth 100000 in
set_option maxHeartbeats 2000000 in
theorem rrow_24 (w : World) : Calls Tryz.prog 48 #[.int .i64 24] w fun e w' => e = .returned (.tuple #[.string ⟨#[119, 119, 119, 45, 45]⟩, .bool true]) ∧ w' = w := by
  go_enter Tryz.func48, Tryz.ntmps48
  go_wp2
  go_ret2
  exact ⟨rfl, rfl⟩

set_option maxRecDepth 100000 in
set_option maxHeartbeats 2000000 in
theorem rrow_25 (w : World) : Calls Tryz.prog 48 #[.int .i64 25] w fun e w' => e = .returned (.tuple #[.string ⟨#[119, 119, 45, 45, 45]⟩, .bool true]) ∧ w' = w := by
  go_enter Tryz.func48, Tryz.ntmps48
  go_wp2
  go_ret2
  exact ⟨rfl, rfl⟩

set_option maxRecDepth 100000 in
set_option maxHeartbeats 2000000 in
theorem rrow_26 (w : World) : Calls Tryz.prog 48 #[.int .i64 26] w fun e w' => e = .returned (.tuple #[.string ⟨#[119, 119, 119, 119, 45]⟩, .bool true]) ∧ w' = w := by
  go_enter Tryz.func48, Tryz.ntmps48
  go_wp2
  go_ret2
  exact ⟨rfl, rfl⟩

set_option maxRecDepth 100000 in
set_option maxHeartbeats 2000000 in
theorem rrow_27 (w : World) : Calls Tryz.prog 48 #[.int .i64 27] w fun e w' => e = .returned (.tuple #[.string ⟨#[119, 119, 119, 45, 45]⟩, .bool true]) ∧ w' = w := by
  go_enter Tryz.func48, Tryz.ntmps48
  go_wp2
  go_ret2
  exact ⟨rfl, rfl⟩

set_option maxRecDepth 100000 in
set_option maxHeartbeats 2000000 in
theorem rrow_28 (w : World) : Calls Tryz.prog 48 #[.int .i64 28] w fun e w' => e = .returned (.tuple #[.string ⟨#[119, 119, 119, 45, 45]⟩, .bool true]) ∧ w' = w := by
  go_enter Tryz.func48, Tryz.ntmps48
  go_wp2
  go_ret2
  exact ⟨rfl, rfl⟩

set_option maxRecDepth 100000 in
set_option maxHeartbeats 2000000 in
theorem rrow_29 (w : World) : Calls Tryz.prog 48 #[.int .i64 29] w fun e w' => e = .returned (.tuple #[.string ⟨#[118, 45, 45, 45, 112]⟩, .bool true]) ∧ w' = w := by
  go_enter Tryz.func48, Tryz.ntmps48
  go_wp2
  go_ret2
  exact ⟨rfl, rfl⟩

end Go.Proofs.YtnlgkkbmbijndaaGreat
/- latheref16.Row, by program (tool/layer16). -/
namespace Go.Proofs.YtnlgkkbmbijndaaGreat
open Go.RowKit
set_option linter.unusedVariables false
set_option linter.unusedSimpArgs false

set_option maxRecDepth 100000 in
set_option maxHeartbeats 2000000 in
theorem rrow_30 (w : World) : Calls Tryz.prog 48 #[.int .i64 30] w fun e w' => e = .returned (.tuple #[.string ⟨#[118, 45, 45, 45, 112]⟩, .bool true]) ∧ w' = w := by
  go_enter Tryz.func48, Tryz.ntmps48
  go_wp2
  go_ret2
  exact ⟨rfl, rfl⟩

set_option maxRecDepth 100000 in
set_option maxHeartbeats 2000000 in
theorem rrow_31 (w : World) : Calls Tryz.prog 48 #[.int .i64 31] w fun e w' => e = .returned (.tuple #[.string ⟨#[45, 118, 45, 45, 112]⟩, .bool true]) ∧ w' = w := by
  go_enter Tryz.func48, Tryz.ntmps48
  go_wp2
  go_ret2
  exact ⟨rfl, rfl⟩

set_option maxRecDepth 100000 in
set_option maxHeartbeats 2000000 in
theorem rrow_32 (w : World) : Calls Tryz.prog 48 #[.int .i64 32] w fun e w' => e = .returned (.tuple #[.string ⟨#[97, 45, 45, 45, 115]⟩, .bool true]) ∧ w' = w := by
  go_enter Tryz.func48, Tryz.ntmps48
  go_wp2
  go_ret2
  exact ⟨rfl, rfl⟩

set_option maxRecDepth 100000 in
set_option maxHeartbeats 2000000 in
theorem rrow_33 (w : World) : Calls Tryz.prog 48 #[.int .i64 33] w fun e w' => e = .returned (.tuple #[.string ⟨#[45, 97, 45, 45, 115]⟩, .bool true]) ∧ w' = w := by
  go_enter Tryz.func48, Tryz.ntmps48
  go_wp2
  go_ret2
  exact ⟨rfl, rfl⟩

set_option maxRecDepth 100000 in
set_option maxHeartbeats 2000000 in
theorem rrow_34 (w : World) : Calls Tryz.prog 48 #[.int .i64 34] w fun e w' => e = .returned (.tuple #[.string ⟨#[45, 119, 45, 45, 45]⟩, .bool true]) ∧ w' = w := by
  go_enter Tryz.func48, Tryz.ntmps48
  go_wp2
  go_ret2
  exact ⟨rfl, rfl⟩

set_option maxRecDepth 100000 in
set_option maxHeartbeats 2000000 in
theorem rrow_35 (w : World) : Calls Tryz.prog 48 #[.int .i64 35] w fun e w' => e = .returned (.tuple #[.string ⟨#[45, 45, 45, 45, 45]⟩, .bool true]) ∧ w' = w := by
  go_enter Tryz.func48, Tryz.ntmps48
  go_wp2
  go_ret2
  exact ⟨rfl, rfl⟩

set_option maxRecDepth 100000 in
set_option maxHeartbeats 2000000 in
theorem rrow_36 (w : World) : Calls Tryz.prog 48 #[.int .i64 36] w fun e w' => e = .returned (.tuple #[.string ⟨#[45, 45, 45, 45, 113]⟩, .bool true]) ∧ w' = w := by
  go_enter Tryz.func48, Tryz.ntmps48
  go_wp2
  go_ret2
  exact ⟨rfl, rfl⟩

set_option maxRecDepth 100000 in
set_option maxHeartbeats 2000000 in
theorem rrow_37 (w : World) : Calls Tryz.prog 48 #[.int .i64 37] w fun e w' => e = .returned (.tuple #[.string ⟨#[45, 45, 45, 45, 45]⟩, .bool true]) ∧ w' = w := by
  go_enter Tryz.func48, Tryz.ntmps48
  go_wp2
  go_ret2
  exact ⟨rfl, rfl⟩

end Go.Proofs.YtnlgkkbmbijndaaGreat
/- latheref16.Row, by program (tool/layer16). -/
namespace Go.Proofs.YtnlgkkbmbijndaaGreat
open Go.RowKit
set_option linter.unusedVariables false
set_option linter.unusedSimpArgs false

set_option maxRecDepth 100000 in
set_option maxHeartbeats 2000000 in
theorem rrow_none (op : Int) (h : knownP op = false) (w : World) : Calls Tryz.prog 48 #[.int .i64 op] w fun e w' => e = .returned (.tuple #[.string ⟨#[]⟩, .bool false]) ∧ w' = w := by
  have hh : op < 1 ∨ 37 < op := by unfold knownP at h; simp at h; omega
  have e1 : (op == 1) = false := by have : op ≠ 1 := (by omega); simpa using this
  have e2 : (op == 2) = false := by have : op ≠ 2 := (by omega); simpa using this
  have e3 : (op == 3) = false := by have : op ≠ 3 := (by omega); simpa using this
  have e4 : (op == 4) = false := by have : op ≠ 4 := (by omega); simpa using this
  have e5 : (op == 5) = false := by have : op ≠ 5 := (by omega); simpa using this
  have e6 : (op == 6) = false := by have : op ≠ 6 := (by omega); simpa using this
  have e7 : (op == 7) = false := by have : op ≠ 7 := (by omega); simpa using this
  have e8 : (op == 8) = false := by have : op ≠ 8 := (by omega); simpa using this
  have e9 : (op == 9) = false := by have : op ≠ 9 := (by omega); simpa using this
  have e10 : (op == 10) = false := by have : op ≠ 10 := (by omega); simpa using this
  have e11 : (op == 11) = false := by have : op ≠ 11 := (by omega); simpa using this
  have e12 : (op == 12) = false := by have : op ≠ 12 := (by omega); simpa using this
  have e13 : (op == 13) = false := by have : op ≠ 13 := (by omega); simpa using this
  have e14 : (op == 14) = false := by have : op ≠ 14 := (by omega); simpa using this
  have e15 : (op == 15) = false := by have : op ≠ 15 := (by omega); simpa using this
  have e16 : (op == 16) = false := by have : op ≠ 16 := (by omega); simpa using this
  have e17 : (op == 17) = false := by have : op ≠ 17 := (by omega); simpa using this
  have e18 : (op == 18) = false := by have : op ≠ 18 := (by omega); simpa using this
  have e19 : (op == 19) = false := by have : op ≠ 19 := (by omega); simpa using this
  have e20 : (op == 20) = false := by have : op ≠ 20 := (by omega); simpa using this
  have e21 : (op == 21) = false := by have : op ≠ 21 := (by omega); simpa using this
  have e22 : (op == 22) = false := by have : op ≠ 22 := (by omega); simpa using this
  have e23 : (op == 23) = false := by have : op ≠ 23 := (by omega); simpa using this
  have e24 : (op == 24) = false := by have : op ≠ 24 := (by omega); simpa using this
  have e25 : (op == 25) = false := by have : op ≠ 25 := (by omega); simpa using this
  have e26 : (op == 26) = false := by have : op ≠ 26 := (by omega); simpa using this
  have e27 : (op == 27) = false := by have : op ≠ 27 := (by omega); simpa using this
  have e28 : (op == 28) = false := by have : op ≠ 28 := (by omega); simpa using this
  have e29 : (op == 29) = false := by have : op ≠ 29 := (by omega); simpa using this
  have e30 : (op == 30) = false := by have : op ≠ 30 := (by omega); simpa using this
  have e31 : (op == 31) = false := by have : op ≠ 31 := (by omega); simpa using this
  have e32 : (op == 32) = false := by have : op ≠ 32 := (by omega); simpa using this
  have e33 : (op == 33) = false := by have : op ≠ 33 := (by omega); simpa using this
  have e34 : (op == 34) = false := by have : op ≠ 34 := (by omega); simpa using this
  have e35 : (op == 35) = false := by have : op ≠ 35 := (by omega); simpa using this
  have e36 : (op == 36) = false := by have : op ≠ 36 := (by omega); simpa using this
  have e37 : (op == 37) = false := by have : op ≠ 37 := (by omega); simpa using this
  clear hh h
  go_enter Tryz.func48, Tryz.ntmps48
  go_wp2
  go_ret2
  exact ⟨rfl, rfl⟩

/-- A row's text: five signs, each that of its letter. -/
structure RowText (r : Rw) (a b c d e : UInt8) : Prop where
  a : (a == 45) = (r.d == 0)
  b : (b == 45) = (r.a == 0)
  c : (c == 45) = (r.b == 0)
  d : (d == 45) = (r.c == 0)
theorem rrow_any (op : Int) (w : World) : (knownP op = false ∧ Calls Tryz.prog 48 #[.int .i64 op] w fun e w' => e = .returned (.tuple #[.string ⟨#[]⟩, .bool false]) ∧ w' = w) ∨ (knownP op = true ∧ ∃ a b c d e : UInt8, RowText (rowP op) a b c d e ∧ ∀ w, Calls Tryz.prog 48 #[.int .i64 op] w fun x w' => x = .returned (.tuple #[.string ⟨#[a, b, c, d, e]⟩, .bool true]) ∧ w' = w) := by
  by_cases h : knownP op = false
  · exact .inl ⟨h, rrow_none op h w⟩
  · have hh : 1 ≤ op ∧ op ≤ 37 := by unfold knownP at h; simp at h; omega
    refine .inr ⟨by simpa using h, ?_⟩
    clear h
    by_cases k1 : op = 1
    · subst k1; exact ⟨_, _, _, _, _, ⟨rfl, rfl, rfl, rfl⟩, fun w => rrow_1 w⟩
    by_cases k2 : op = 2
    · subst k2; exact ⟨_, _, _, _, _, ⟨rfl, rfl, rfl, rfl⟩, fun w => rrow_2 w⟩
    by_cases k3 : op = 3
    · subst k3; exact ⟨_, _, _, _, _, ⟨rfl, rfl, rfl, rfl⟩, fun w => rrow_3 w⟩
    by_cases k4 : op = 4
    · subst k4; exact ⟨_, _, _, _, _, ⟨rfl, rfl, rfl, rfl⟩, fun w => rrow_4 w⟩
    by_cases k5 : op = 5
    · subst k5; exact ⟨_, _, _, _, _, ⟨rfl, rfl, rfl, rfl⟩, fun w => rrow_5 w⟩
    by_cases k6 : op = 6
    · subst k6; exact ⟨_, _, _, _, _, ⟨rfl, rfl, rfl, rfl⟩, fun w => rrow_6 w⟩
    by_cases k7 : op = 7
    · subst k7; exact ⟨_, _, _, _, _, ⟨rfl, rfl, rfl, rfl⟩, fun w => rrow_7 w⟩
    by_cases k8 : op = 8
    · subst k8; exact ⟨_, _, _, _, _, ⟨rfl, rfl, rfl, rfl⟩, fun w => rrow_8 w⟩
    by_cases k9 : op = 9
    · subst k9; exact ⟨_, _, _, _, _, ⟨rfl, rfl, rfl, rfl⟩, fun w => rrow_9 w⟩
    by_cases k10 : op = 10
    · subst k10; exact ⟨_, _, _, _, _, ⟨rfl, rfl, rfl, rfl⟩, fun w => rrow_10 w⟩
    by_cases k11 : op = 11
    · subst k11; exact ⟨_, _, _, _, _, ⟨rfl, rfl, rfl, rfl⟩, fun w => rrow_11 w⟩
    by_cases k12 : op = 12
    · subst k12; exact ⟨_, _, _, _, _, ⟨rfl, rfl, rfl, rfl⟩, fun w => rrow_12 w⟩
    by_cases k13 : op = 13
    · subst k13; exact ⟨_, _, _, _, _, ⟨rfl, rfl, rfl, rfl⟩, fun w => rrow_13 w⟩
    by_cases k14 : op = 14
    · subst k14; exact ⟨_, _, _, _, _, ⟨rfl, rfl, rfl, rfl⟩, fun w => rrow_14 w⟩
    by_cases k15 : op = 15
    · subst k15; exact ⟨_, _, _, _, _, ⟨rfl, rfl, rfl, rfl⟩, fun w => rrow_15 w⟩
    by_cases k16 : op = 16
    · subst k16; exact ⟨_, _, _, _, _, ⟨rfl, rfl, rfl, rfl⟩, fun w => rrow_16 w⟩
    by_cases k17 : op = 17
    · subst k17; exact ⟨_, _, _, _, _, ⟨rfl, rfl, rfl, rfl⟩, fun w => rrow_17 w⟩
    by_cases k18 : op = 18
    · subst k18; exact ⟨_, _, _, _, _, ⟨rfl, rfl, rfl, rfl⟩, fun w => rrow_18 w⟩
    by_cases k19 : op = 19
    · subst k19; exact ⟨_, _, _, _, _, ⟨rfl, rfl, rfl, rfl⟩, fun w => rrow_19 w⟩
    by_cases k20 : op = 20
    · subst k20; exact ⟨_, _, _, _, _, ⟨rfl, rfl, rfl, rfl⟩, fun w => rrow_20 w⟩
    by_cases k21 : op = 21
    · subst k21; exact ⟨_, _, _, _, _, ⟨rfl, rfl, rfl, rfl⟩, fun w => rrow_21 w⟩
    by_cases k22 : op = 22
    · subst k22; exact ⟨_, _, _, _, _, ⟨rfl, rfl, rfl, rfl⟩, fun w => rrow_22 w⟩
    by_cases k23 : op = 23
    · subst k23; exact ⟨_, _, _, _, _, ⟨rfl, rfl, rfl, rfl⟩, fun w => rrow_23 w⟩
    by_cases k24 : op = 24
    · subst k24; exact ⟨_, _, _, _, _, ⟨rfl, rfl, rfl, rfl⟩, fun w => rrow_24 w⟩
    by_cases k25 : op = 25
    · subst k25; exact ⟨_, _, _, _, _, ⟨rfl, rfl, rfl, rfl⟩, fun w => rrow_25 w⟩
    by_cases k26 : op = 26
    · subst k26; exact ⟨_, _, _, _, _, ⟨rfl, rfl, rfl, rfl⟩, fun w => rrow_26 w⟩
    by_cases k27 : op = 27
    · subst k27; exact ⟨_, _, _, _, _, ⟨rfl, rfl, rfl, rfl⟩, fun w => rrow_27 w⟩
    by_cases k28 : op = 28
    · subst k28; exact ⟨_, _, _, _, _, ⟨rfl, rfl, rfl, rfl⟩, fun w => rrow_28 w⟩
    by_cases k29 : op = 29
    · subst k29; exact ⟨_, _, _, _, _, ⟨rfl, rfl, rfl, rfl⟩, fun w => rrow_29 w⟩
    by_cases k30 : op = 30
    · subst k30; exact ⟨_, _, _, _, _, ⟨rfl, rfl, rfl, rfl⟩, fun w => rrow_30 w⟩
    by_cases k31 : op = 31
    · subst k31; exact ⟨_, _, _, _, _, ⟨rfl, rfl, rfl, rfl⟩, fun w => rrow_31 w⟩
    by_cases k32 : op = 32
    · subst k32; exact ⟨_, _, _, _, _, ⟨rfl, rfl, rfl, rfl⟩, fun w => rrow_32 w⟩
    by_cases k33 : op = 33
    · subst k33; exact ⟨_, _, _, _, _, ⟨rfl, rfl, rfl, rfl⟩, fun w => rrow_33 w⟩
    by_cases k34 : op = 34
    · subst k34; exact ⟨_, _, _, _, _, ⟨rfl, rfl, rfl, rfl⟩, fun w => rrow_34 w⟩
    by_cases k35 : op = 35
    · subst k35; exact ⟨_, _, _, _, _, ⟨rfl, rfl, rfl, rfl⟩, fun w => rrow_35 w⟩
    by_cases k36 : op = 36
    · subst k36; exact ⟨_, _, _, _, _, ⟨rfl, rfl, rfl, rfl⟩, fun w => rrow_36 w⟩
    by_cases k37 : op = 37
    · subst k37; exact ⟨_, _, _, _, _, ⟨rfl, rfl, rfl, rfl⟩, fun w => rrow_37 w⟩
    omega

end Go.Proofs.YtnlgkkbmbijndaaGreat
/- Layer 16's statements: small code, works. -/
namespace Go.Proofs.YtnlgkkbmbijndaaGreat
open Go.RowKit
set_option linter.unusedVariables false
set_option linter.unusedSimpArgs false

end Go.Proofs.YtnlgkkbmbijndaaGreat
/- Layer 16's statements: works. By program (tool/layer16/genworks.py). -/
namespace Go.Proofs.YtnlgkkbmbijndaaGreat
open Go.RowKit
set_option linter.unusedVariables false
set_option linter.unusedSimpArgs false

end Go.Proofs.YtnlgkkbmbijndaaGreat
/- latheref16: Sets, Reads, Elementwise. By program (tool/layer16/genrref.py). -/
namespace Go.Proofs.YtnlgkkbmbijndaaGreat
open Go.RowKit
set_option linter.unusedVariables false
set_option linter.unusedSimpArgs false

def setsP (i : Ins) : Bool := (rowP i.op).d != 0

set_option maxRecDepth 100000 in
set_option maxHeartbeats 1000000 in
theorem relem_any (op : Int) (w : World) : Calls Tryz.prog 94 #[.int .i64 op] w fun e w' => e = .returned (.bool (elemP op)) ∧ w' = w := by
  unfold elemP
  by_cases h : 3 ≤ op
  all_goals
    go_enter Tryz.func94, Tryz.ntmps94
    go_wp2
    go_ret
    exact ⟨ret_bool (by simp [h]; try omega), rfl⟩

theorem u8ne (a : UInt8) (X : Bool) (h : (a == 45) = X) : ((a.toNat : Int) != 45) = !X := by
  rw [← h]
  have : ((a.toNat : Int) == 45) = (a == 45) := by
    rw [Bool.eq_iff_iff]
    simp only [beq_iff_eq]
    constructor
    · intro e
      apply UInt8.toNat_inj.1
      show a.toNat = 45
      omega
    · intro e; subst e; rfl
  simp [bne, this]

set_option maxRecDepth 100000 in
set_option maxHeartbeats 2000000 in
theorem rsets_any (i : Ins) (w : World) : Calls Tryz.prog 37 #[insV i] w fun e w' => e = .returned (.bool (setsP i)) ∧ Below w.heap.size w w' := by
  unfold setsP
  rcases rrow_any i.op (w.alloc (.cells #[.int .i64 i.op, .int .i64 i.d, .int .i64 i.a, .int .i64 i.b, .int .i64 i.c, .int .i64 i.n, .int .u32 i.bits] 70)) with ⟨hk, hc⟩ | ⟨hk, a, b, c, d, e, ht, hc⟩
  · rw [row_none i.op hk]
    obtain ⟨op, D, A, B, E, n, bt⟩ := i
    unfold insV
    simp only at hc hk ⊢
    have HK : Hid (Calls Tryz.prog 48 #[.int .i64 op] (w.alloc (.cells #[.int .i64 op, .int .i64 D, .int .i64 A, .int .i64 B, .int .i64 E, .int .i64 n, .int .u32 bt] 70)) fun e w' => e = .returned (.tuple #[.string ⟨#[]⟩, .bool false]) ∧ w' = w.alloc (.cells #[.int .i64 op, .int .i64 D, .int .i64 A, .int .i64 B, .int .i64 E, .int .i64 n, .int .u32 bt] 70)) := hc
    clear hc
    go_enter Tryz.func37, Tryz.ntmps37
    go_wp2_with (go_at_call 48; refine HK.out.mono ?_; rintro e w1 ⟨rfl, rfl⟩)
    go_ret
    exact ⟨rfl, bel_alloc _ _⟩
  · have h1 := u8ne a _ ht.a
    obtain ⟨X, hX⟩ : ∃ X, (rowP i.op).d = X := ⟨_, rfl⟩
    rw [hX] at h1 ⊢
    obtain ⟨op, D, A, B, E, n, bt⟩ := i
    unfold insV
    simp only at hc ⊢
    have HK : Hid (∀ w, Calls Tryz.prog 48 #[.int .i64 op] w fun x w' => x = .returned (.tuple #[.string ⟨#[a, b, c, d, e]⟩, .bool true]) ∧ w' = w) := hc
    have ix : ∀ w, (Instr.index 9 (.string ⟨#[a, b, c, d, e]⟩) (.int .i64 0)).run Tryz.prog w = .ok (.int .u8 (a.toNat : Int)) w := fun w => by simp [Instr.index, run_underlying Tryz.underlying9, asIntOf, go_sem]; rfl
    clear hc ht hX
    go_enter Tryz.func37, Tryz.ntmps37
    go_wp2_with (go_at_call 48; refine (HK.out _).mono ?_; rintro e w1 ⟨rfl, rfl⟩)
    go_ret
    refine ⟨ret_bool ?_, bel_alloc _ _⟩
    first | exact h1 | (simp only [h1]; rfl) | simp [h1, bne]

/-- The worlds of the loop: the registers' row; the row that grows lies from C on. -/
structure RRd (w : World) (C Q : Nat) (A B E : Int) (v : World) : Prop where
  bel : Below w.heap.size w v
  hC : w.heap.size ≤ C
  hQ : Q < C
  le : C ≤ v.heap.size
  g0 : v.cell? ⟨Q, 0, none⟩ = some (.int .i64 A)
  g1 : v.cell? ⟨Q, 1, none⟩ = some (.int .i64 B)
  g2 : v.cell? ⟨Q, 2, none⟩ = some (.int .i64 E)
theorem RRd.next {w : World} {C Q : Nat} {A B E : Int} {v v' : World} (h : RRd w C Q A B E v) (k : Below C v v') : RRd w C Q A B E v' := by
  have c1 : ∀ {a : Addr} {u : Value}, a.block < C → v.cell? a = some u → v'.cell? a = some u := fun ha hu => (k.cell ha).trans hu
  exact ⟨h.bel.trans (k.mono h.hC), h.hC, h.hQ, Nat.le_trans h.le k.size, c1 h.hQ h.g0, c1 h.hQ h.g1, c1 h.hQ h.g2⟩

set_option maxRecDepth 100000 in
set_option maxHeartbeats 4000000 in
theorem rreads_any (i : Ins) (w : World) : Calls Tryz.prog 70 #[insV i] w fun e w' => ∃ v, e = .returned v ∧ w'.ownsRow w.heap.size 3 1 v (readsP i (rowP i.op)).length (i64s (readsP i (rowP i.op))) ∧ Below w.heap.size w w' := by
  rcases rrow_any i.op (w.alloc (.cells #[.int .i64 i.op, .int .i64 i.d, .int .i64 i.a, .int .i64 i.b, .int .i64 i.c, .int .i64 i.n, .int .u32 i.bits] 70)) with ⟨hk, hc⟩ | ⟨hk, a, b, c, d, e, ht, hc⟩
  · rw [row_none i.op hk, show readsP i ⟨0, 0, 0, 0, 0⟩ = [] from rfl]
    obtain ⟨op, D, A, B, E, n, bt⟩ := i
    unfold insV
    simp only at hc hk ⊢
    have HK : Hid (Calls Tryz.prog 48 #[.int .i64 op] (w.alloc (.cells #[.int .i64 op, .int .i64 D, .int .i64 A, .int .i64 B, .int .i64 E, .int .i64 n, .int .u32 bt] 70)) fun e w' => e = .returned (.tuple #[.string ⟨#[]⟩, .bool false]) ∧ w' = w.alloc (.cells #[.int .i64 op, .int .i64 D, .int .i64 A, .int .i64 B, .int .i64 E, .int .i64 n, .int .u32 bt] 70)) := hc
    clear hc
    go_enter Tryz.func70, Tryz.ntmps70
    go_wp2_with (go_at_call 48; refine HK.out.mono ?_; rintro e w1 ⟨rfl, rfl⟩)
    go_loopw [3, 7] (fun lv iv wr => lv = .slice none 0 0 ∧ iv = .int .i64 0 ∧ Below w.heap.size w wr) (fun _ iv _ => 0)
    case atStart => exact ⟨rfl, rfl, bel (bel_alloc _ _) (bel_alloc _ _)⟩
    case round =>
      obtain ⟨rfl, rfl, hb⟩ := hrel
      go_wp2
      go_ret
      exact ⟨_, rfl, World.ownsRow_nil _ _ _ 1, hb⟩
  · rw [reads_eq]
    have h1 := u8ne b _ ht.b
    have h2 := u8ne c _ ht.c
    have h3 := u8ne d _ ht.d
    obtain ⟨i0, hi0, hz0, hz1, hz3⟩ := info_parts info_Int
    obtain ⟨r, hr⟩ : ∃ r, rowP i.op = r := ⟨_, rfl⟩
    rw [hr] at h1 h2 h3 ⊢
    obtain ⟨L0, L1, L2, L3, L4⟩ := r
    obtain ⟨op, D, A, B, E, n, bt⟩ := i
    unfold insV
    simp only at hc h1 h2 h3 ⊢
    obtain ⟨R, hR⟩ : ∃ R, (rd1 L1 A ++ rd1 L2 B) ++ rd1 L3 E = R := ⟨_, rfl⟩
    rw [hR]
    have HR : Hid ((rd1 L1 A ++ rd1 L2 B) ++ rd1 L3 E = R) := hR
    have HK : Hid (∀ w, Calls Tryz.prog 48 #[.int .i64 op] w fun x w' => x = .returned (.tuple #[.string ⟨#[a, b, c, d, e]⟩, .bool true]) ∧ w' = w) := hc
    clear hc ht hr hR hk
    go_enter Tryz.func70, Tryz.ntmps70
    go_wp2_with (go_at_call 48; refine (HK.out _).mono ?_; rintro e w1 ⟨rfl, rfl⟩)
    have HF1 : Hid (RRd w (w.heap.size + 1 + 1) (w.heap.size + 1) A B E ((w.alloc (.cells #[.int .i64 op, .int .i64 D, .int .i64 A, .int .i64 B, .int .i64 E, .int .i64 n, .int .u32 bt] 70)).alloc (.cells #[.int .i64 A, .int .i64 B, .int .i64 E] 3))) :=
      ⟨bel (bel_alloc _ _) (bel_alloc _ _), by omega, by omega, by simp, by simp [go_sem], by simp [go_sem], by simp [go_sem]⟩
    obtain ⟨W, hW⟩ : ∃ W, (w.alloc (.cells #[.int .i64 op, .int .i64 D, .int .i64 A, .int .i64 B, .int .i64 E, .int .i64 n, .int .u32 bt] 70)).alloc (.cells #[.int .i64 A, .int .i64 B, .int .i64 E] 3) = W := ⟨_, rfl⟩
    rw [hW] at HF1 ⊢
    obtain ⟨Q, hQ⟩ : ∃ Q, w.heap.size + 1 = Q := ⟨_, rfl⟩
    rw [hQ] at HF1
    try rw [hQ]
    clear hW
    go_loopw [3, 7] (fun lv iv wr => RRd w (Q + 1) Q A B E wr ∧ ∃ (j : Nat) (l : List Int), j ≤ 3 ∧ iv = .int .i64 j ∧ l.length ≤ j ∧ Hid (wr.ownsRow (Q + 1) 3 1 lv l.length (i64s l)) ∧ Hid ((j = 0 → l = []) ∧ (j = 1 → l = rd1 L1 A) ∧ (j = 2 → l = rd1 L1 A ++ rd1 L2 B) ∧ (j = 3 → l = (rd1 L1 A ++ rd1 L2 B) ++ rd1 L3 E))) (fun _ iv _ => 3 - (intOf iv).toNat)
    case atStart => exact ⟨HF1.out, 0, [], by omega, rfl, by simp, World.ownsRow_nil _ _ _ 1, ⟨fun _ => rfl, fun h => absurd h (by omega), fun h => absurd h (by omega), fun h => absurd h (by omega)⟩⟩
    case round =>
      clear HF1 HK
      obtain ⟨hF, j, l, hj, rfl, hll, HO, HL⟩ := hrel
      have HF : Hid (RRd w (Q + 1) Q A B E wr) := hF
      have hGw := hF.le
      have hn1 : Q ≠ wr.heap.size := by omega
      obtain rfl | rfl | rfl | rfl : j = 0 ∨ j = 1 ∨ j = 2 ∨ j = 3 := by omega
      · have g0 := hF.g0
        have f0 := kc (bel_alloc wr (.cells #[.int .i64 A] 3)) g0
        have hl0 := HL.out.1 rfl
        have ix : ∀ w, (Instr.index 9 (.string ⟨#[a, b, c, d, e]⟩) (.int .i64 1)).run Tryz.prog w = .ok (.int .u8 (b.toNat : Int)) w := fun w => by simp [Instr.index, run_underlying Tryz.underlying9, asIntOf, go_sem]; rfl
        have hq := h1
        clear hF h1 h2 h3
        by_cases hz : L1 = 0
        · have hz' : (!(L1 == 0)) = false := by simp [hz]
          rw [hz'] at hq
          have hq2 : ((b.toNat : Int) == 45) = true := by simpa [bne] using hq
          have HZ : Hid (L1 = 0) := hz
          clear hz
          go_wp2
          go_roundw
          case rel => exact ⟨HF.out, 1, l, by omega, by first | rfl | go_num, by omega, HO, ⟨fun h => absurd h (by omega), fun _ => by rw [hl0]; unfold rd1; simp [HZ.out], fun h => absurd h (by omega), fun h => absurd h (by omega)⟩⟩
          case measure => simp [intOf]
        · have hz' : (!(L1 == 0)) = true := by simp [hz]
          rw [hz'] at hq
          have hq2 : ((b.toNat : Int) == 45) = false := by simpa [bne] using hq
          have HZ : Hid (¬ L1 = 0) := hz
          clear hz
          go_wp2_with (first
            | (at_builtin; refine wpList_append_own_at _ rfl _ _ 96 rfl (Q + 1) 3 i0 _ 1 8 Tryz.underlying96 hi0 hz0 hz1 hz3 rfl (by decide) _ l.length (i64s l) rfl (World.ownsRow.alloc HO.out _) ⟨wr.heap.size, 0, none⟩ 1 1 [.int .i64 A] rfl rfl (World.news_of_block (cs := #[.int .i64 A]) (t := 3) (fr := (0, 0)) (heap_alloc_new wr _)) (by simp [Value.oneCell']) (by unfold maxLen; omega) (by omega) (by simp; omega) ?_; intro v' w3 hown3 hgrow hnil hat; have HO3 : Hid (w3.ownsRow (Q + 1) 3 1 v' (l.length + 1) (i64s l ++ [.int .i64 A])) := hown3; have HB3 : Hid (Below (Q + 1) wr w3) := (Below.alloc (Below.refl _ _) hGw _).grown hgrow (by simp; omega) (fun q e => (HO.out.lt q e).1); clear hown3 hgrow hnil hat))
          go_roundw
          case rel => exact ⟨HF.out.next HB3.out, 1, l ++ [A], by omega, by first | rfl | go_num, by simp; omega, by show _; rw [List.length_append, i64s_snoc]; exact HO3.out, ⟨fun h => absurd h (by omega), fun _ => by rw [hl0, show rd1 L1 A = [A] from if_neg HZ.out]; try rfl, fun h => absurd h (by omega), fun h => absurd h (by omega)⟩⟩
          case measure => simp [intOf]
      · have g0 := hF.g1
        have f0 := kc (bel_alloc wr (.cells #[.int .i64 B] 3)) g0
        have hl0 := HL.out.2.1 rfl
        have ix : ∀ w, (Instr.index 9 (.string ⟨#[a, b, c, d, e]⟩) (.int .i64 2)).run Tryz.prog w = .ok (.int .u8 (c.toNat : Int)) w := fun w => by simp [Instr.index, run_underlying Tryz.underlying9, asIntOf, go_sem]; rfl
        have hq := h2
        clear hF h1 h2 h3
        by_cases hz : L2 = 0
        · have hz' : (!(L2 == 0)) = false := by simp [hz]
          rw [hz'] at hq
          have hq2 : ((c.toNat : Int) == 45) = true := by simpa [bne] using hq
          have HZ : Hid (L2 = 0) := hz
          clear hz
          go_wp2
          go_roundw
          case rel => exact ⟨HF.out, 2, l, by omega, by first | rfl | go_num, by omega, HO, ⟨fun h => absurd h (by omega), fun h => absurd h (by omega), fun _ => by rw [hl0]; unfold rd1; simp [HZ.out], fun h => absurd h (by omega)⟩⟩
          case measure => simp [intOf]
        · have hz' : (!(L2 == 0)) = true := by simp [hz]
          rw [hz'] at hq
          have hq2 : ((c.toNat : Int) == 45) = false := by simpa [bne] using hq
          have HZ : Hid (¬ L2 = 0) := hz
          clear hz
          go_wp2_with (first
            | (at_builtin; refine wpList_append_own_at _ rfl _ _ 96 rfl (Q + 1) 3 i0 _ 1 8 Tryz.underlying96 hi0 hz0 hz1 hz3 rfl (by decide) _ l.length (i64s l) rfl (World.ownsRow.alloc HO.out _) ⟨wr.heap.size, 0, none⟩ 1 1 [.int .i64 B] rfl rfl (World.news_of_block (cs := #[.int .i64 B]) (t := 3) (fr := (0, 0)) (heap_alloc_new wr _)) (by simp [Value.oneCell']) (by unfold maxLen; omega) (by omega) (by simp; omega) ?_; intro v' w3 hown3 hgrow hnil hat; have HO3 : Hid (w3.ownsRow (Q + 1) 3 1 v' (l.length + 1) (i64s l ++ [.int .i64 B])) := hown3; have HB3 : Hid (Below (Q + 1) wr w3) := (Below.alloc (Below.refl _ _) hGw _).grown hgrow (by simp; omega) (fun q e => (HO.out.lt q e).1); clear hown3 hgrow hnil hat))
          go_roundw
          case rel => exact ⟨HF.out.next HB3.out, 2, l ++ [B], by omega, by first | rfl | go_num, by simp; omega, by show _; rw [List.length_append, i64s_snoc]; exact HO3.out, ⟨fun h => absurd h (by omega), fun h => absurd h (by omega), fun _ => by rw [hl0, show rd1 L2 B = [B] from if_neg HZ.out]; try rfl, fun h => absurd h (by omega)⟩⟩
          case measure => simp [intOf]
      · have g0 := hF.g2
        have f0 := kc (bel_alloc wr (.cells #[.int .i64 E] 3)) g0
        have hl0 := HL.out.2.2.1 rfl
        have ix : ∀ w, (Instr.index 9 (.string ⟨#[a, b, c, d, e]⟩) (.int .i64 3)).run Tryz.prog w = .ok (.int .u8 (d.toNat : Int)) w := fun w => by simp [Instr.index, run_underlying Tryz.underlying9, asIntOf, go_sem]; rfl
        have hq := h3
        clear hF h1 h2 h3
        by_cases hz : L3 = 0
        · have hz' : (!(L3 == 0)) = false := by simp [hz]
          rw [hz'] at hq
          have hq2 : ((d.toNat : Int) == 45) = true := by simpa [bne] using hq
          have HZ : Hid (L3 = 0) := hz
          clear hz
          go_wp2
          go_roundw
          case rel => exact ⟨HF.out, 3, l, by omega, by first | rfl | go_num, by omega, HO, ⟨fun h => absurd h (by omega), fun h => absurd h (by omega), fun h => absurd h (by omega), fun _ => by rw [hl0]; unfold rd1; simp [HZ.out]⟩⟩
          case measure => simp [intOf]
        · have hz' : (!(L3 == 0)) = true := by simp [hz]
          rw [hz'] at hq
          have hq2 : ((d.toNat : Int) == 45) = false := by simpa [bne] using hq
          have HZ : Hid (¬ L3 = 0) := hz
          clear hz
          go_wp2_with (first
            | (at_builtin; refine wpList_append_own_at _ rfl _ _ 96 rfl (Q + 1) 3 i0 _ 1 8 Tryz.underlying96 hi0 hz0 hz1 hz3 rfl (by decide) _ l.length (i64s l) rfl (World.ownsRow.alloc HO.out _) ⟨wr.heap.size, 0, none⟩ 1 1 [.int .i64 E] rfl rfl (World.news_of_block (cs := #[.int .i64 E]) (t := 3) (fr := (0, 0)) (heap_alloc_new wr _)) (by simp [Value.oneCell']) (by unfold maxLen; omega) (by omega) (by simp; omega) ?_; intro v' w3 hown3 hgrow hnil hat; have HO3 : Hid (w3.ownsRow (Q + 1) 3 1 v' (l.length + 1) (i64s l ++ [.int .i64 E])) := hown3; have HB3 : Hid (Below (Q + 1) wr w3) := (Below.alloc (Below.refl _ _) hGw _).grown hgrow (by simp; omega) (fun q e => (HO.out.lt q e).1); clear hown3 hgrow hnil hat))
          go_roundw
          case rel => exact ⟨HF.out.next HB3.out, 3, l ++ [E], by omega, by first | rfl | go_num, by simp; omega, by show _; rw [List.length_append, i64s_snoc]; exact HO3.out, ⟨fun h => absurd h (by omega), fun h => absurd h (by omega), fun h => absurd h (by omega), fun _ => by rw [hl0, show rd1 L3 E = [E] from if_neg HZ.out]; try rfl⟩⟩
          case measure => simp [intOf]
      · have hl0 := HL.out.2.2.2 rfl
        clear hF
        go_wp2
        go_ret
        refine ⟨_, rfl, ?_, HF.out.bel⟩
        rw [← HR.out, ← hl0]
        exact own_mono HO.out (by have := HF.out.hC; omega)

end Go.Proofs.YtnlgkkbmbijndaaGreat
/- Layer 16: lists that are equal. By program (tool/layer16/geneq.py). -/
namespace Go.Proofs.YtnlgkkbmbijndaaGreat
open Go.RowKit
set_option linter.unusedVariables false
set_option linter.unusedSimpArgs false

instance : DecidableEq Par := fun a b => by
  cases a; cases b
  simp only [Par.mk.injEq]
  exact inferInstanceAs (Decidable (_ ∧ _ ∧ _))
theorem step_bin {P : Program} {w : World} {ops : Array Oper} {o : Oper} {a : Act} {K : Act → World → Prop} {Q : Exit → Act → World → Prop} {E : Prop} (hgd : o.guard = none) (t : TypeId) (x y : Operand) (yt : TypeId)
    (ho : o.op = .binOp .neq t x y yt) (v1 v2 v : Value) (hx : a.eval x = v1) (hy : a.eval y = v2) (hg : (eqGuard .neq t x y v1 v2).run P w = .ok () w) (hr : (binOp .neq t v1 v2).run P w = .ok v w) (h : K (a.put o.dst v) w) :
    if Region.wanted o (yielded ops a.tmps) = true then Oper.wp P o a w K Q else E := by
  have hw : Region.wanted o (yielded ops a.tmps) = true := by simp [Region.wanted, hgd]
  rw [if_pos hw]
  unfold Oper.wp execOp
  simp only [ho, Sem.run_bind, Sem.run_pure, Result.andThen_ok, hx, hy, hg, hr]
  exact h

set_option maxRecDepth 100000 in
set_option maxHeartbeats 1000000 in
theorem neq_Par (a b : Par) (w : World) : (binOp .neq 59 (pv a) (pv b)).run Tryz.prog w = .ok (.bool (!decide (a = b))) w := by
  obtain ⟨x0, x1, x2⟩ := a
  obtain ⟨y0, y1, y2⟩ := b
  unfold pv
  by_cases h0 : x0 = y0
  · subst h0
    by_cases h1 : x1 = y1
    · subst h1
      by_cases h2 : x2 = y2
      · subst h2
        go_simp
      · go_simp
    · go_simp
  · go_simp
    exact fun e => absurd (Go.WideShapes.bytes_inj (by rwa [ByteArray.toList_eq, ByteArray.toList_eq] at e)) h0

set_option maxRecDepth 100000 in
theorem grd_Par (p q : Operand) (a b : Par) (w : World) : (eqGuard .neq 59 p q (pv a) (pv b)).run Tryz.prog w = .ok () w := by
  obtain ⟨x0, x1, x2⟩ := a
  obtain ⟨y0, y1, y2⟩ := b
  unfold pv
  simp [eqGuard, go_sem]

set_option maxRecDepth 100000 in
set_option maxHeartbeats 1000000 in
theorem neq_Ty (a b : Ty) (w : World) : (binOp .neq 62 (tyV a) (tyV b)).run Tryz.prog w = .ok (.bool (!decide (a = b))) w := by
  obtain ⟨x0, x1⟩ := a
  obtain ⟨y0, y1⟩ := b
  unfold tyV
  by_cases h0 : x0 = y0
  · subst h0
    by_cases h1 : x1 = y1
    · subst h1
      go_simp
    · go_simp
  · go_simp

set_option maxRecDepth 100000 in
theorem grd_Ty (p q : Operand) (a b : Ty) (w : World) : (eqGuard .neq 62 p q (tyV a) (tyV b)).run Tryz.prog w = .ok () w := by
  obtain ⟨x0, x1⟩ := a
  obtain ⟨y0, y1⟩ := b
  unfold tyV
  simp [eqGuard, go_sem]

set_option maxRecDepth 100000 in
set_option maxHeartbeats 1000000 in
theorem neq_Sl (a b : Sl) (w : World) : (binOp .neq 66 (slV a) (slV b)).run Tryz.prog w = .ok (.bool (!decide (a = b))) w := by
  obtain ⟨⟨x0, x1⟩, x2, x3, x4⟩ := a
  obtain ⟨⟨y0, y1⟩, y2, y3, y4⟩ := b
  unfold slV
  by_cases h0 : x0 = y0
  · subst h0
    by_cases h1 : x1 = y1
    · subst h1
      by_cases h2 : x2 = y2
      · subst h2
        by_cases h3 : x3 = y3
        · subst h3
          by_cases h4 : x4 = y4
          · subst h4
            go_simp
          · go_simp
        · go_simp
      · go_simp
    · go_simp
  · go_simp

set_option maxRecDepth 100000 in
theorem grd_Sl (p q : Operand) (a b : Sl) (w : World) : (eqGuard .neq 66 p q (slV a) (slV b)).run Tryz.prog w = .ok () w := by
  obtain ⟨⟨x0, x1⟩, x2, x3, x4⟩ := a
  obtain ⟨⟨y0, y1⟩, y2, y3, y4⟩ := b
  unfold slV
  simp [eqGuard, go_sem]

set_option maxRecDepth 100000 in
set_option maxHeartbeats 1000000 in
theorem neq_Ins (a b : Ins) (w : World) : (binOp .neq 70 (insV a) (insV b)).run Tryz.prog w = .ok (.bool (!decide (a = b))) w := by
  obtain ⟨x0, x1, x2, x3, x4, x5, x6⟩ := a
  obtain ⟨y0, y1, y2, y3, y4, y5, y6⟩ := b
  unfold insV
  by_cases h0 : x0 = y0
  · subst h0
    by_cases h1 : x1 = y1
    · subst h1
      by_cases h2 : x2 = y2
      · subst h2
        by_cases h3 : x3 = y3
        · subst h3
          by_cases h4 : x4 = y4
          · subst h4
            by_cases h5 : x5 = y5
            · subst h5
              by_cases h6 : x6 = y6
              · subst h6
                go_simp
              · go_simp
            · go_simp
          · go_simp
        · go_simp
      · go_simp
    · go_simp
  · go_simp

set_option maxRecDepth 100000 in
theorem grd_Ins (p q : Operand) (a b : Ins) (w : World) : (eqGuard .neq 70 p q (insV a) (insV b)).run Tryz.prog w = .ok () w := by
  obtain ⟨x0, x1, x2, x3, x4, x5, x6⟩ := a
  obtain ⟨y0, y1, y2, y3, y4, y5, y6⟩ := b
  unfold insV
  simp [eqGuard, go_sem]

end Go.Proofs.YtnlgkkbmbijndaaGreat
