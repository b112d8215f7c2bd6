import Derived.Test.YtblaokffocegiaaHexWalks
/- The walk of 'sure', and those of the statements of layer 1. -/
namespace Go.Proofs.Ytblaokffocegiaa
open Go.RowKit
set_option linter.unusedVariables false

theorem bel {a b c : World} (h : Below a.heap.size a b) (k : Below b.heap.size b c) : Below a.heap.size a c := h.trans (k.mono h.size)

theorem key_at (w : World) : Calls Try.prog 18 #[.int .u32 2147483648] w fun e w' => e = .returned (.tuple #[.int .i64 (-1), .bool true]) ∧ w' = w := by
  have := key_num 2147483648 (by decide) (by decide) (by decide) w
  rwa [show key 2147483648 = -1 by decide] at this

theorem make_at (w : World) : Calls Try.prog 16 #[.bool false, .int .i64 127, .int .i64 0] w fun e w' => e = .returned (.tuple #[.int .u32 1065353216, .int .i64 0]) ∧ w' = w := by
  have := make_ok false 127 0 (by decide) (by decide) (by decide) (by decide) w
  rwa [show mk false 127 0 = 1065353216 by decide] at this

theorem read_at (w : World) : Calls Try.prog 24 #[.string { data := #[48, 48, 48, 48, 48, 48, 48, 49] }] w fun e w' => e = .returned (.tuple #[.int .u32 1, .bool true]) ∧ w' = w := by
  have := read_any { data := #[48, 48, 48, 48, 48, 48, 48, 49] } (by decide) w
  rwa [show rdv (ByteArray.mk #[48, 48, 48, 48, 48, 48, 48, 49]).data.toList = 1 by decide, show goodL (ByteArray.mk #[48, 48, 48, 48, 48, 48, 48, 49]).data.toList = true by decide] at this

theorem hex_at (w : World) : Calls Try.prog 26 #[.int .u32 2147483648] w fun e w' => e = .returned (.string { data := #[56, 48, 48, 48, 48, 48, 48, 48] }) ∧ Below w.heap.size w w' := by
  have := hex_any 2147483648 (by decide) (by decide) w
  rwa [show hexB 2147483648 = { data := #[56, 48, 48, 48, 48, 48, 48, 48] } by decide] at this

theorem next_at (w : World) : Calls Try.prog 20 #[.int .u32 2147483648] w fun e w' => e = .returned (.int .u32 0) ∧ w' = w := by
  have := next_any 2147483648 (by decide) (by decide) w
  rwa [show next 2147483648 = 0 by decide] at this

set_option maxHeartbeats 1000000 in
theorem sure_any (w : World) : Calls Try.prog 9 #[] w fun e w' => e = .returned (.bool true) ∧ Below w.heap.size w w' := by
  have c1 : cls 1065353216 = 3 := by decide
  have c2 : cls 2143289344 = 5 := by decide
  go_enter Try.func9, Try.ntmps9
  go_wp2_with (first
    | (go_at_call 18; refine (key_at _).mono ?_; rintro e w' ⟨rfl, rfl⟩)
    | (go_at_call 16; refine (make_at _).mono ?_; rintro e w' ⟨rfl, rfl⟩)
    | (go_at_call 24; refine (read_at _).mono ?_; rintro e w' ⟨rfl, rfl⟩)
    | (go_at_call 10; refine (class_any _ (by omega) (by omega) _).mono ?_; rintro e w' ⟨rfl, rfl⟩)
    | (go_at_call 26; refine (hex_at _).mono ?_; rintro e w1 ⟨rfl, hb1⟩)
    | (go_at_call 20; refine (next_at _).mono ?_; rintro e w' ⟨rfl, rfl⟩))
  go_ret
  exact ⟨rfl, by assumption⟩

end Go.Proofs.Ytblaokffocegiaa
