import Derived.Test.YtbeamaaclplababNearWalks
namespace Go.Proofs.Ytbeamaaclplabab
open Go.RowKit
set_option linter.unusedVariables false

set_option maxHeartbeats 400000 in
theorem even_any (m n : Int) (d : Nat) (h1 : -16777216 ≤ m) (h2 : m ≤ 16777216) (h3 : -2305843009213693952 ≤ n) (h4 : n ≤ 2305843009213693952) (hd : d ≤ 36) (hv : evenB m n d = true) (w : World) :
    Calls Try.prog 29 #[.int .i64 m, .int .i64 n, .int .i64 d] w fun e w' => e = .returned (.bool true) ∧ w' = w := by
  unfold evenB at hv
  rcases Nat.eq_zero_or_pos d with c | c
  · subst c
    rw [if_pos rfl] at hv
    have hmn : m = n := by simpa using hv
    subst hmn
    clear hv
    go_enter Try.func29, Try.ntmps29
    go_wp2
    go_ret
    exact ⟨rfl, rfl⟩
  · rw [if_neg (by omega)] at hv
    obtain ⟨Y, hY⟩ : ∃ Y : Int, m * 2 ^ d = Y := ⟨_, rfl⟩
    have hYb := shl_lo m d 0 h1 h2 hd
    rw [hY] at hYb hv
    have hH1 : (1 : Int) ≤ 2 ^ (d - 1) := Int.pow_pos (by decide)
    have hH2 : (2 : Int) ^ (d - 1) ≤ 68719476736 := pow36 (d - 1) (by omega)
    have hHc : ((2 ^ (d - 1) : Nat) : Int) = (2 : Int) ^ (d - 1) := Int.natCast_pow 2 _
    have hv2 : ((n - Y).natAbs : Int) < 2 ^ (d - 1) ∨ (((n - Y).natAbs : Int) = 2 ^ (d - 1) ∧ m % 2 = 0) := by
      simp only [Bool.or_eq_true, Bool.and_eq_true, decide_eq_true_eq] at hv
      omega
    clear hv hHc
    have f1 : wrap64 (m * 2 ^ d) = Y := by rw [hY]; unfold wrap64; omega
    obtain ⟨H, hH⟩ : ∃ H : Int, (2 : Int) ^ (d - 1) = H := ⟨_, rfl⟩
    rw [hH] at hH1 hH2 hv2
    have f2' : wrap64 ((2 : Int) ^ (d - 1)) = H := by rw [hH]; unfold wrap64; omega
    clear hY hH
    by_cases s : n - Y < 0
    · rcases hv2 with hv2 | ⟨hv2, hm⟩
      · have hlt : -(n - Y) < H := by omega
        clear hv2
        go_enter Try.func29, Try.ntmps29
        go_wp2
        go_ret
        exact ⟨rfl, rfl⟩
      · have heq : -(n - Y) = H := by omega
        have hmt : m.tmod 2 = 0 := by rw [Int.tmod_eq_emod]; split <;> omega
        clear hv2
        go_enter Try.func29, Try.ntmps29
        go_wp2
        go_ret
        exact ⟨rfl, rfl⟩
    · rcases hv2 with hv2 | ⟨hv2, hm⟩
      · have hlt : n - Y < H := by omega
        clear hv2
        go_enter Try.func29, Try.ntmps29
        go_wp2
        go_ret
        exact ⟨rfl, rfl⟩
      · have heq : n - Y = H := by omega
        have hmt : m.tmod 2 = 0 := by rw [Int.tmod_eq_emod]; split <;> omega
        clear hv2
        go_enter Try.func29, Try.ntmps29
        go_wp2
        go_ret
        exact ⟨rfl, rfl⟩

end Go.Proofs.Ytbeamaaclplabab
