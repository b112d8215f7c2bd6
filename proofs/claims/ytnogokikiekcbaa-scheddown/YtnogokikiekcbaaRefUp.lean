import Derived.Test.YtnogokikiekcbaaRefOps
/- up, of the reference of layer 2. -/
namespace Go.Proofs.Ytnogokikiekcbaa
open Go.RowKit
set_option linter.unusedVariables false

def cellM (w : World) (b : Nat) : Nat := match w.cell? ⟨b, 1, none⟩ with
  | some (.int _ x) => x.toNat
  | _ => 0

theorem cellM_alloc (w : World) (v0 v2 v3 v4 : Value) (X : Int) (t : TypeId) (p : Obj) : cellM ((w.alloc (.cells #[v0, .int .u64 X, v2, v3, v4] t)).alloc p) w.heap.size = X.toNat := by
  have : ((w.alloc (.cells #[v0, .int .u64 X, v2, v3, v4] t)).alloc p).cell? ⟨w.heap.size, 1, none⟩ = some (.int .u64 X) := by
    simp
  unfold cellM; rw [this]

set_option maxHeartbeats 1000000 in
theorem rup_any (s : Bool) (m e : Int) (i n : Bool) (h0 : 0 < m) (h1 : m < 16777216) (e0 : -149 ≤ e) (e1 : e ≤ 104) (w : World) :
    Calls Try.prog 75 #[.agg #[.bool s, .int .u64 m, .int .i64 e, .bool i, .bool n]] w fun x w' => (∃ k : Nat, k ≤ 23 ∧ x = .returned (.agg #[.bool s, .int .u64 (m * 2 ^ k), .int .i64 (e - k), .bool i, .bool n]) ∧ 8388608 ≤ m * 2 ^ k ∧ m * 2 ^ k < 16777216) ∧ ∃ o p, w' = (w.alloc o).alloc p := by
  go_enter Try.func75, Try.ntmps75
  go_wp2
  go_loopw [4] (fun _ wr => ∃ (k : Nat), k ≤ 23 ∧ m * 2 ^ k < 16777216 ∧ wr = (w.alloc (.cells #[.bool s, .int .u64 (m * 2 ^ k), .int .i64 (e - k), .bool i, .bool n] 63)).alloc (.cells #[.bool false, .int .u64 0, .int .i64 0, .bool false, .bool false] 63)) (fun _ wr => 16777216 - cellM wr w.heap.size)
  case atStart => exact ⟨0, by omega, by simpa using h1, by simp⟩
  case round =>
    obtain ⟨k, hk, hm, rfl⟩ := hrel
    have hP : (1 : Int) ≤ 2 ^ k := Int.pow_pos (by decide)
    have hX : 0 < m * 2 ^ k := Int.mul_pos h0 (by omega)
    by_cases c : m * 2 ^ k < 8388608
    · have hs : m * 2 ^ (k + 1) = m * 2 ^ k * 2 := by rw [Int.pow_succ, ← Int.mul_assoc]
      have HS : Hid (m * 2 ^ (k + 1) = m * 2 ^ k * 2) := hs
      have hk23 : k ≤ 22 := by
        rcases Nat.lt_or_ge 22 k with d | d
        · exfalso
          have h2 : 8388608 ≤ 2 ^ k := Nat.le_trans (show 8388608 ≤ 2 ^ 23 by decide) (Nat.pow_le_pow_right (by decide) (by omega))
          have h3 : ((8388608 : Nat) : Int) ≤ ((2 ^ k : Nat) : Int) := Int.ofNat_le.2 h2
          rw [Int.natCast_pow] at h3
          have h4 : (1 : Int) * 2 ^ k ≤ m * 2 ^ k := Int.mul_le_mul_of_nonneg_right (by omega) (by omega)
          have h5 : ((8388608 : Nat) : Int) = 8388608 := rfl
          have h6 : (((2 : Nat) : Int)) ^ k = (2 : Int) ^ k := rfl
          omega
        · exact d
      clear hs
      generalize m * 2 ^ k = X at *
      go_wp2
      go_roundw
      case rel =>
        refine ⟨k + 1, by omega, ?_, ?_⟩
        · rw [HS.out]; omega
        · rw [HS.out, show e - (k : Int) - 1 = e - ((k + 1 : Nat) : Int) by omega]
      case measure => rw [cellM_alloc, cellM_alloc]; omega
    · generalize hXX : m * 2 ^ k = X at *
      have HX : Hid (m * 2 ^ k = X) := hXX
      clear hXX
      go_wp2
      go_returns
      exact ⟨⟨k, hk, by rw [HX.out], by rw [HX.out]; omega, by rw [HX.out]; omega⟩, _, _, rfl⟩

end Go.Proofs.Ytnogokikiekcbaa
