import Derived.Test.YtnogokikiekcbabPowerLen
import Derived.Test.YtnogokikiekcbabRefOrd
/- Powers. -/
namespace Go.Proofs.Ytnogokikiekcbab
open Go.RowKit
set_option linter.unusedVariables false

def fpw (x n : Int) : Nat → Int → Int
  | 0, r => r
  | k + 1, r => fpw x n k (if n / 2 ^ k % 2 = 1 then fmul (fmul r r) x else fmul r r)
def fpow (x n : Int) : Int := if n < 1 then 1065353216 else fpw x n (blen n.toNat - 1) (canon x)
theorem fpw_lo (x n : Int) : ∀ (k : Nat) (r : Int), 0 ≤ r → r < 4294967296 → 0 ≤ fpw x n k r ∧ fpw x n k r < 4294967296
  | 0, r, h0, h1 => ⟨h0, h1⟩
  | k + 1, r, h0, h1 => by
    unfold fpw
    split
    · exact fpw_lo x n k _ (fmul_lo _ _).1 (fmul_lo _ _).2
    · exact fpw_lo x n k _ (fmul_lo _ _).1 (fmul_lo _ _).2
theorem fpow_lo (x n : Int) (h0 : 0 ≤ x) (h1 : x < 4294967296) : 0 ≤ fpow x n ∧ fpow x n < 4294967296 := by
  unfold fpow; split
  · decide
  · exact fpw_lo x n _ _ (canon_lo x h0 h1).1 (canon_lo x h0 h1).2
theorem and64_1 (n : Int) (h0 : 0 ≤ n) (h1 : n ≤ 9223372036854775807) (i : Nat) : bits .and .i64 (n / 2 ^ i) 1 = n / 2 ^ i % 2 := by
  have e : n / 2 ^ i = ((n.toNat / 2 ^ i : Nat) : Int) := by
    rw [Int.natCast_ediv, Int.natCast_pow, Int.toNat_of_nonneg h0]; rfl
  have hle : n.toNat / 2 ^ i ≤ n.toNat := Nat.div_le_self ..
  rw [e]
  generalize n.toNat / 2 ^ i = q at *
  have hx : q &&& 1 = q % 2 := Nat.and_one_is_mod q
  show IntKind.i64.wrap ((BitVec.ofInt 64 (q : Int) &&& BitVec.ofInt 64 ((1 : Nat) : Int)).toNat : Int) = _
  rw [BitVec.toNat_and, ofInt_u64 q (by omega), ofInt_u64 1 (by decide), hx, IntKind.wrap_i64]
  omega

set_option maxHeartbeats 1000000 in
theorem pow_any (x : Int) (h0 : 0 ≤ x) (h1 : x < 4294967296) (n : Int) (n0 : -9223372036854775808 ≤ n) (n1 : n ≤ 9223372036854775807) (w : World) :
    Calls Try.prog 34 #[.int .u32 x, .int .i64 n] w fun e w' => e = .returned (.int .u32 (fpow x n)) ∧ Below w.heap.size w w' := by
  unfold fpow
  by_cases c : n < 1
  · rw [if_pos c]
    go_enter Try.func34, Try.ntmps34
    go_wp2
    go_ret
    exact ⟨rfl, bel0 _⟩
  · rw [if_neg c]
    have hc := canon_lo x h0 h1
    have hc' : 0 ≤ canon x ∧ canon x < 4294967296 := hc
    clear hc
    have hB : 1 ≤ blen n.toNat ∧ blen n.toNat ≤ 63 := by
      unfold blen; rw [if_neg (by omega)]
      have : n.toNat.log2 < 63 := (Nat.log2_lt (by omega)).2 (by have : (2 : Nat) ^ 63 = 9223372036854775808 := rfl; omega)
      omega
    generalize hBB : blen n.toNat = B at *
    generalize hP : fpw x n (B - 1) (canon x) = P at *
    have HP : Hid (fpw x n (B - 1) (canon x) = P) := hP
    clear hP
    go_enter Try.func34, Try.ntmps34
    go_wp2_with (first
      | (go_at_call 31; refine (canon_any _ (by omega) (by omega) _).mono ?_; rintro e w' ⟨rfl, hw'⟩; obtain rfl := hw'.symm)
      | (go_at_call 45; refine (len_any _ (by omega) (by omega) _).mono ?_; rintro e w' ⟨rfl, hw'⟩; obtain rfl := hw'.symm))
    go_loopw [5, 6] (fun rv pv wr => Below w.heap.size w wr ∧ ∃ (j : Nat) (r : Int), j ≤ 62 ∧ rv = .int .u32 r ∧ pv = .int .i64 ((j : Int) - 1) ∧ 0 ≤ r ∧ r < 4294967296 ∧ fpw x n j r = P) (fun _ pv _ => (intOf pv + 1).toNat)
    case atStart => exact ⟨bel0 _, B - 1, canon x, by omega, rfl, by rw [show ((B - 1 : Nat) : Int) - 1 = (B : Int) - 2 by omega], hc'.1, hc'.2, HP.out⟩
    case round =>
      obtain ⟨hbel, j, r, hj, rfl, rfl, r0, r1, hr⟩ := hrel
      have HR : Hid (fpw x n j r = P) := hr
      clear hr
      rcases Nat.eq_zero_or_pos j with hz | hz
      · subst hz
        have hPr : r = P := HR.out
        subst hPr
        clear HR HP
        go_wp2
        go_ret
        exact ⟨rfl, hbel⟩
      · obtain ⟨i, rfl⟩ : ∃ i, j = i + 1 := ⟨j - 1, by omega⟩
        rw [show ((i + 1 : Nat) : Int) - 1 = (i : Int) by omega]
        have hbit := and64_1 n (by omega) n1 i
        have l1 := fmul_lo r r
        have l2 := fmul_lo (fmul r r) x
        by_cases cb : n / 2 ^ i % 2 = 1
        · go_wp2_with (go_at_call 28; refine (mul_any _ (by omega) (by omega) _ (by omega) (by omega) _).mono ?_; rintro e w2 ⟨rfl, hb2⟩)
          go_roundw
          case rel => exact ⟨by repeat (first | assumption | refine bel ?_ (by assumption)), i, _, by omega, rfl, rfl, l2.1, l2.2, by have := HR.out; rw [fpw, if_pos cb] at this; exact this⟩
          case measure => first | (simp [intOf]; done) | (simp [intOf]; omega)
        · go_wp2_with (go_at_call 28; refine (mul_any _ (by omega) (by omega) _ (by omega) (by omega) _).mono ?_; rintro e w2 ⟨rfl, hb2⟩)
          go_roundw
          case rel => exact ⟨by repeat (first | assumption | refine bel ?_ (by assumption)), i, _, by omega, rfl, rfl, l1.1, l1.2, by have := HR.out; rw [fpw, if_neg cb] at this; exact this⟩
          case measure => first | (simp [intOf]; done) | (simp [intOf]; omega)

end Go.Proofs.Ytnogokikiekcbab
