import Derived.Test.YtjbcafkpcgehdaaPairLaws
import Derived.Test.YtjbcafkpcgehdaaRef4P
import Derived.Test.YtjbcafkpcgehdaaTurnsP
import Derived.Test.YtjbcafkpcgehdaaMem
/- The statements PairPowers, PairTurns: their walks. -/
namespace Go.Proofs.Ytjbcafkpcgehdaa
open Go.RowKit
set_option linter.unusedVariables false

theorem alk_u32 (a : Int) (h0 : 0 ≤ a) (h1 : a < 4294967296) : IntKind.u32.wrap (a * 2) = (a % 2147483648) * 2 := by rw [IntKind.wrap_u32]; omega

set_option maxHeartbeats 400000 in
theorem alike_any (a : Int) (a0 : 0 ≤ a) (a1 : a < 4294967296) (b : Int) (b0 : 0 ≤ b) (b1 : b < 4294967296) (h : alk a b) (w : World) :
    Calls Try.prog 30 #[.int .u32 a, .int .u32 b] w fun e w' => e = .returned (.bool true) ∧ w' = w := by
  have e1 := alk_u32 a a0 a1
  have e2 := alk_u32 b b0 b1
  by_cases c : a = b
  · clear h e1 e2
    subst c
    go_enter Try.func30, Try.ntmps30
    go_wp2
    go_ret
    exact ⟨rfl, rfl⟩
  · obtain ⟨k1, k2⟩ : a % 2147483648 = 0 ∧ b % 2147483648 = 0 := by
      rcases h with h | h
      · exact absurd h c
      · exact h
    clear h
    rw [k1] at e1
    rw [k2] at e2
    go_enter Try.func30, Try.ntmps30
    go_wp2
    go_ret
    exact ⟨rfl, rfl⟩

theorem cpow_lo (z : Int × Int) (n : Int) (h0 : 0 ≤ z.1) (h1 : z.1 < 4294967296) (g0 : 0 ≤ z.2) (g1 : z.2 < 4294967296) : (0 ≤ (cpow z n).1 ∧ (cpow z n).1 < 4294967296) ∧ 0 ≤ (cpow z n).2 ∧ (cpow z n).2 < 4294967296 := by
  unfold cpow; split
  · decide
  · exact cpw_lo _ _ _ _ ⟨canon_lo _ h0 h1, canon_lo _ g0 g1⟩

set_option maxHeartbeats 1000000 in
theorem walk_PairPowers (a : Int) (a0 : 0 ≤ a) (a1 : a < 4294967296) (b : Int) (b0 : 0 ≤ b) (b1 : b < 4294967296) (n : Int) (n0 : -9223372036854775808 ≤ n) (n1 : n ≤ 9223372036854775807) (w : World) :
    Calls Try.prog 5 #[.agg #[.int .u32 a, .int .u32 b], .int .i64 n] w fun e w' => e = .returned (.bool true) ∧ Below w.heap.size w w' := by
  have Hp := fun w => ppow_any a a0 a1 b b0 b1 n n0 n1 w
  have Hs := fun w => sPow_any a a0 a1 b b0 b1 n n0 n1 w
  generalize (cpow (a, b) n).1 = x at *
  generalize (cpow (a, b) n).2 = y at *
  go_enter Try.func5, Try.ntmps5
  go_wp2
  go_region_held3 (fun w' => w'.cell? ⟨w.heap.size, 0, none⟩ = some (.int .u32 a) ∧ w'.cell? ⟨w.heap.size, 1, none⟩ = some (.int .u32 b)) (go_keep) (first
    | (go_at_call 24; refine (Hp _).mono ?_; rintro e w' ⟨rfl, hb⟩; have HB : Below w.heap.size w w' := (by first | exact bel HB hb | exact bel (by go_grown) hb); have := keepc hb (a := ⟨w.heap.size, 0, none⟩) (v := .int .u32 a) (by first | assumption | (simp [go_sem]; done)); have := keepc hb (a := ⟨w.heap.size, 1, none⟩) (v := .int .u32 b) (by first | assumption | (simp [go_sem]; done)))
    | (go_at_call 25; refine (Hs _).mono ?_; rintro e w' ⟨rfl, hb⟩; have HB : Below w.heap.size w w' := (by first | exact bel HB hb | exact bel (by go_grown) hb); have := keepc hb (a := ⟨w.heap.size, 0, none⟩) (v := .int .u32 a) (by first | assumption | (simp [go_sem]; done)); have := keepc hb (a := ⟨w.heap.size, 1, none⟩) (v := .int .u32 b) (by first | assumption | (simp [go_sem]; done)))
    | (go_at_call 19; refine (pworks_any _).mono ?_; rintro e w' ⟨rfl, hb⟩; have HB : Below w.heap.size w w' := (by first | exact bel HB hb | exact bel (by go_grown) hb); have := keepc hb (a := ⟨w.heap.size, 0, none⟩) (v := .int .u32 a) (by first | assumption | (simp [go_sem]; done)); have := keepc hb (a := ⟨w.heap.size, 1, none⟩) (v := .int .u32 b) (by first | assumption | (simp [go_sem]; done))))
  all_goals (go_wp2; go_ret; exact ⟨rfl, HB⟩)

end Go.Proofs.Ytjbcafkpcgehdaa
