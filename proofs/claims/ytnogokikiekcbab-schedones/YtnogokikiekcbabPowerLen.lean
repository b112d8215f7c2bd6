import Derived.Test.YtnogokikiekcbabFloatAdds
import Derived.Shelf.Small.Bits
/- The length in bits, off the library's shelf. -/
namespace Go.Proofs.Ytnogokikiekcbab
open Go.RowKit Go.Shelf
set_option linter.unusedVariables false

def lenRen : Go.Shelf.Ren := ⟨fun | 125 => 45 | 128 => 50 | 129 => 51 | n => n, fun | 3 => 3 | 4 => 4 | 5 => 5 | 9 => 9 | 46 => 61 | 51 => 30 | 53 => 70 | n => n, fun n => n⟩

theorem len_lays : Lays.n125 Try.prog lenRen where
  mixed := by kernel_rfl
  f125 := Try.func45.trans (congrArg some (by kernel_rfl))
  f128 := Try.func50.trans (congrArg some (by kernel_rfl))
  f129 := Try.func51.trans (congrArg some (by kernel_rfl))
  t3 := Try.underlying3
  a3 := Try.isAgg3
  z3 := Try.sizeOf3
  v3 := Try.zeroValue3
  t4 := Try.underlying4
  a4 := Try.isAgg4
  z4 := Try.sizeOf4
  v4 := Try.zeroValue4
  t5 := Try.underlying5
  a5 := Try.isAgg5
  z5 := Try.sizeOf5
  v5 := Try.zeroValue5
  t9 := Try.underlying9
  a9 := Try.isAgg9
  z9 := Try.sizeOf9
  v9 := Try.zeroValue9
  t46 := Try.underlying61
  a46 := Try.isAgg61
  z46 := Try.sizeOf61
  v46 := Try.zeroValue61
  t51 := Try.underlying30
  a51 := Try.isAgg30
  z51 := Try.sizeOf30
  v51 := Try.zeroValue30
  t53 := Try.underlying70
  a53 := Try.isAgg70
  z53 := Try.sizeOf70
  v53 := Try.zeroValue70

theorem blen_aux : ∀ f x : Nat, x < 2 ^ f → Lib.bitLenAux f x = blen x
  | 0, x, h => by
    have : x = 0 := by simpa using h
    subst this; rfl
  | f + 1, x, h => by
    unfold Lib.bitLenAux
    by_cases c : x = 0
    · rw [if_pos c, c]; rfl
    · rw [if_neg c, blen_aux f (x / 2) (by rw [Nat.pow_succ] at h; omega), blen_step x c]; omega

theorem len_any (x : Int) (h0 : 0 ≤ x) (h1 : x ≤ 18446744073709551615) (w : World) :
    Calls Try.prog 45 #[.int .u64 x] w fun e w' => e = .returned (.int .i64 (blen x.toNat)) ∧ w' = w := by
  have h := Any.bits_Len len_lays x w h0 h1
  have e : Lib.bitLen x.toNat = blen x.toNat := by
    unfold Lib.bitLen
    exact blen_aux 64 _ (by have : (2 : Nat) ^ 64 = 18446744073709551616 := rfl; omega)
  rw [e] at h
  exact h

end Go.Proofs.Ytnogokikiekcbab
