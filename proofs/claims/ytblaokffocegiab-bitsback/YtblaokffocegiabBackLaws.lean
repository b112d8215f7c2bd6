import Derived.Test.YtblaokffocegiabBitsSure
import Derived.Test.YtblaokffocegiabBackPlain
/- The walk of the statement BitsBack. -/
namespace Go.Proofs.Ytblaokffocegiab
open Go.RowKit
set_option linter.unusedVariables false

set_option maxHeartbeats 400000 in
theorem walk_BitsBack (a : Int) (h0 : 0 ≤ a) (h1 : a < 4294967296) (s : ByteArray) (hs : s.size ≤ maxLen) (w : World) :
    Calls Try.prog 3 #[.int .u32 a, .string s] w fun e w' => e = .returned (.bool true) ∧ Below w.heap.size w w' := by
  have hok : okParts (a / 8388608 % 256) (a % 8388608) = true := by unfold okParts; simp; omega
  have m1 : mkV (decide (2147483648 ≤ a)) (a / 8388608 % 256) (a % 8388608) = a := by unfold mkV; rw [if_pos hok]; exact mk_parts a h0 h1
  have m2 : mkE (a / 8388608 % 256) (a % 8388608) = 0 := by unfold mkE; rw [if_pos hok]
  have r1 := rdv_hexB a h0 h1
  have r2 := good_hexB a
  have hsz : (hexB a).size ≤ maxLen := by rw [hexB_size]; decide
  have hlo := rdv_lo s.data.toList
  have l1 := hlo.1
  have l2 := hlo.2
  clear hok hlo
  cases hg : goodL s.data.toList
  · have hz := rdv_no _ hg
    go_enter Try.func3, Try.ntmps3
    go_wp2_with (first
      | (go_at_call 4; refine (parts_any _ h0 h1 _).mono ?_; rintro e w' ⟨rfl, rfl⟩)
      | (go_at_call 5; refine (make_any _ _ _ _).mono ?_; rintro e w' ⟨rfl, rfl⟩)
      | (go_at_call 7; refine (hex_any _ (by omega) (by omega) _).mono ?_; rintro e w2 ⟨rfl, hb2⟩)
      | (go_at_call 6; refine (read_any _ (by assumption) _).mono ?_; rintro e w' ⟨rfl, rfl⟩)
      | (go_at_call 8; refine (sure_any _).mono ?_; rintro e w3 ⟨rfl, hb3⟩))
    go_ret
    exact ⟨rfl, hb2.trans (hb3.mono hb2.size)⟩
  · have hz := hexB_rdv s hg
    go_enter Try.func3, Try.ntmps3
    go_wp2_with (first
      | (go_at_call 4; refine (parts_any _ h0 h1 _).mono ?_; rintro e w' ⟨rfl, rfl⟩)
      | (go_at_call 5; refine (make_any _ _ _ _).mono ?_; rintro e w' ⟨rfl, rfl⟩)
      | (go_at_call 7; refine (hex_any _ (by omega) (by omega) _).mono ?_; rintro e w2 ⟨rfl, hb2⟩)
      | (go_at_call 6; refine (read_any _ (by assumption) _).mono ?_; rintro e w' ⟨rfl, rfl⟩)
      | (go_at_call 8; refine (sure_any _).mono ?_; rintro e w3 ⟨rfl, hb3⟩))
    go_ret
    exact ⟨rfl, bel (bel (by assumption) hb2) hb3⟩

end Go.Proofs.Ytblaokffocegiab
