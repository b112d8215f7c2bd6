import Derived.Test.YtjbcafkpcgehdaaFloatAdds
import Derived.Shelf.Small.Bits
/- The length in bits, off the library's shelf. -/
namespace Go.Proofs.Ytjbcafkpcgehdaa
open Go.RowKit Go.Shelf
set_option linter.unusedVariables false

def lenRen : Go.Shelf.Ren := ⟨fun | 125 => 43 | 128 => 53 | 129 => 54 | n => n, fun | 3 => 3 | 4 => 4 | 5 => 5 | 9 => 9 | 46 => 62 | 51 => 22 | 53 => 64 | n => n, fun n => n⟩

theorem len_lays : Lays.n125 Try.prog lenRen where
  mixed := by kernel_rfl
  f125 := Try.func43.trans (congrArg some (by kernel_rfl))
  f128 := Try.func53.trans (congrArg some (by kernel_rfl))
  f129 := Try.func54.trans (congrArg some (by kernel_rfl))
  t3 := Try.underlying3
  a3 := Try.isAgg3
  z3 := Try.sizeOf3
  v3 := Try.zeroValue3
  t4 := Try.underlying4
  a4 := Try.isAgg4
  z4 := Try.sizeOf4
  v4 := Try.zeroValue4
  t5 := Try.underlying5
  a5 := Try.isAgg5
  z5 := Try.sizeOf5
  v5 := Try.zeroValue5
  t9 := Try.underlying9
  a9 := Try.isAgg9
  z9 := Try.sizeOf9
  v9 := Try.zeroValue9
  t46 := Try.underlying62
  a46 := Try.isAgg62
  z46 := Try.sizeOf62
  v46 := Try.zeroValue62
  t51 := Try.underlying22
  a51 := Try.isAgg22
  z51 := Try.sizeOf22
  v51 := Try.zeroValue22
  t53 := Try.underlying64
  a53 := Try.isAgg64
  z53 := Try.sizeOf64
  v53 := Try.zeroValue64

theorem blen_aux : ∀ f x : Nat, x < 2 ^ f → Lib.bitLenAux f x = blen x
  | 0, x, h => by
    have : x = 0 := by simpa using h
    subst this; rfl
  | f + 1, x, h => by
    unfold Lib.bitLenAux
    by_cases c : x = 0
    · rw [if_pos c, c]; rfl
    · rw [if_neg c, blen_aux f (x / 2) (by rw [Nat.pow_succ] at h; omega), blen_step x c]; omega

theorem len_any (x : Int) (h0 : 0 ≤ x) (h1 : x ≤ 18446744073709551615) (w : World) :
    Calls Try.prog 43 #[.int .u64 x] w fun e w' => e = .returned (.int .i64 (blen x.toNat)) ∧ w' = w := by
  have h := Any.bits_Len len_lays x w h0 h1
  have e : Lib.bitLen x.toNat = blen x.toNat := by
    unfold Lib.bitLen
    exact blen_aux 64 _ (by have : (2 : Nat) ^ 64 = 18446744073709551616 := rfl; omega)
  rw [e] at h
  exact h

end Go.Proofs.Ytjbcafkpcgehdaa
