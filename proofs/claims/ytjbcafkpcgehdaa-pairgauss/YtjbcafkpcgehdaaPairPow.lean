import Derived.Test.YtjbcafkpcgehdaaPairOps
import Derived.Test.YtjbcafkpcgehdaaPowerLen
/- Powers of package pair. -/
namespace Go.Proofs.Ytjbcafkpcgehdaa
open Go.RowKit
set_option linter.unusedVariables false

def cmul (z w : Int × Int) : Int × Int := (fsub (fmul z.1 w.1) (fmul z.2 w.2), fadd (fmul z.1 w.2) (fmul z.2 w.1))
def ccan (z : Int × Int) : Int × Int := (canon z.1, canon z.2)
def cpw (z : Int × Int) (n : Int) : Nat → Int × Int → Int × Int
  | 0, r => r
  | k + 1, r => cpw z n k (if n / 2 ^ k % 2 = 1 then cmul (cmul r r) z else cmul r r)
def cpow (z : Int × Int) (n : Int) : Int × Int := if n < 1 then (1065353216, 0) else cpw z n (blen n.toNat - 1) (ccan z)

theorem cmul_can (a b c d : Int) (a0 : 0 ≤ a) (b0 : 0 ≤ b) (c0 : 0 ≤ c) (d0 : 0 ≤ d) : cmul (canon a, canon b) (canon c, canon d) = cmul (a, b) (c, d) := by
  unfold cmul; simp only []
  rw [fmul_canl _ _ a0, fmul_canl _ _ a0, fmul_canl _ _ b0, fmul_canl _ _ b0, fmul_canr _ _ c0, fmul_canr _ _ d0, fmul_canr _ _ c0, fmul_canr _ _ d0]
theorem cmul_canl (a b c d : Int) (a0 : 0 ≤ a) (b0 : 0 ≤ b) : cmul (canon a, canon b) (c, d) = cmul (a, b) (c, d) := by
  unfold cmul; simp only []
  rw [fmul_canl _ _ a0, fmul_canl _ _ a0, fmul_canl _ _ b0, fmul_canl _ _ b0]
theorem cmul_lo (z w : Int × Int) : (0 ≤ (cmul z w).1 ∧ (cmul z w).1 < 4294967296) ∧ 0 ≤ (cmul z w).2 ∧ (cmul z w).2 < 4294967296 := ⟨fsub_lo _ _, fadd_lo _ _⟩
theorem cpw_lo (z : Int × Int) (n : Int) : ∀ (k : Nat) (r : Int × Int), (0 ≤ r.1 ∧ r.1 < 4294967296) ∧ 0 ≤ r.2 ∧ r.2 < 4294967296 → (0 ≤ (cpw z n k r).1 ∧ (cpw z n k r).1 < 4294967296) ∧ 0 ≤ (cpw z n k r).2 ∧ (cpw z n k r).2 < 4294967296
  | 0, r, h => h
  | k + 1, r, h => by
    unfold cpw
    split
    · exact cpw_lo z n k _ (cmul_lo _ _)
    · exact cpw_lo z n k _ (cmul_lo _ _)

theorem cand64 (n : Int) (h0 : 0 ≤ n) (h1 : n ≤ 9223372036854775807) (i : Nat) : bits .and .i64 (n / 2 ^ i) 1 = n / 2 ^ i % 2 := by
  have e : n / 2 ^ i = ((n.toNat / 2 ^ i : Nat) : Int) := by
    rw [Int.natCast_ediv, Int.natCast_pow, Int.toNat_of_nonneg h0]; rfl
  have hle : n.toNat / 2 ^ i ≤ n.toNat := Nat.div_le_self ..
  rw [e]
  generalize n.toNat / 2 ^ i = q at *
  have hx : q &&& 1 = q % 2 := Nat.and_one_is_mod q
  show IntKind.i64.wrap ((BitVec.ofInt 64 (q : Int) &&& BitVec.ofInt 64 ((1 : Nat) : Int)).toNat : Int) = _
  rw [BitVec.toNat_and, ofInt_u64 q (by omega), ofInt_u64 1 (by decide), hx, IntKind.wrap_i64]
  omega

theorem cpw_one {z : Int × Int} {n : Int} {i x y x1 y1 x2 y2 a b : Nat} {P : Int × Int} (cb : n / 2 ^ i % 2 = 1) (h : cpw z n (i + 1) (canon x, canon y) = P) (h1 : ((canon x1, canon y1) : Int × Int) = cmul (x, y) (x, y))
    (h2 : ((canon x2, canon y2) : Int × Int) = cmul (x1, y1) (a, b)) (ez : (((a : Nat) : Int), ((b : Nat) : Int)) = z) : cpw z n i (canon x2, canon y2) = P := by
  rw [cpw, if_pos cb, cmul_can _ _ _ _ (Int.natCast_nonneg _) (Int.natCast_nonneg _) (Int.natCast_nonneg _) (Int.natCast_nonneg _), ← h1, ← ez, cmul_canl _ _ _ _ (Int.natCast_nonneg _) (Int.natCast_nonneg _), ← h2, ez] at h
  exact h
theorem cpw_nil {z : Int × Int} {n : Int} {i x y x1 y1 : Nat} {P : Int × Int} (cb : ¬ n / 2 ^ i % 2 = 1) (h : cpw z n (i + 1) (canon x, canon y) = P) (h1 : ((canon x1, canon y1) : Int × Int) = cmul (x, y) (x, y)) : cpw z n i (canon x1, canon y1) = P := by
  rw [cpw, if_neg cb, cmul_can _ _ _ _ (Int.natCast_nonneg _) (Int.natCast_nonneg _) (Int.natCast_nonneg _) (Int.natCast_nonneg _), ← h1] at h
  exact h

/-- times, told in pairs. -/
theorem ptimes_pair (a b c d : Nat) (w : World) :
    Calls Try.prog 41 #[.complex .f32 a b, .complex .f32 c d] w fun e w' => (∃ x y : Nat, e = .returned (.complex .f32 x y) ∧ x < 4294967296 ∧ y < 4294967296 ∧
      ((canon x, canon y) : Int × Int) = cmul (a, b) (c, d)) ∧ ∃ n, w' = w.drewN n := by
  refine (ptimes_any a b c d w).mono ?_
  rintro e w' ⟨⟨x, y, rfl, hx, hy, ex, ey⟩, n, rfl⟩
  exact ⟨⟨x, y, rfl, hx, hy, by unfold cmul; rw [ex, ey]⟩, n, rfl⟩

set_option maxHeartbeats 1000000 in
theorem ppow_any (a : Int) (a0 : 0 ≤ a) (a1 : a < 4294967296) (b : Int) (b0 : 0 ≤ b) (b1 : b < 4294967296) (n : Int) (n0 : -9223372036854775808 ≤ n) (n1 : n ≤ 9223372036854775807) (w : World) :
    Calls Try.prog 24 #[.agg #[.int .u32 a, .int .u32 b], .int .i64 n] w fun e w' => e = .returned (.agg #[.int .u32 (cpow (a, b) n).1, .int .u32 (cpow (a, b) n).2]) ∧ Below w.heap.size w w' := by
  unfold cpow
  by_cases c : n < 1
  · rw [if_pos c]
    go_enter Try.func24, Try.ntmps24
    go_wp2
    go_returns
    exact ⟨rfl, by go_grown⟩
  · rw [if_neg c]
    have hB : 1 ≤ blen n.toNat ∧ blen n.toNat ≤ 63 := by
      unfold blen; rw [if_neg (by omega)]
      have : n.toNat.log2 < 63 := (Nat.log2_lt (by omega)).2 (by have : (2 : Nat) ^ 63 = 9223372036854775808 := rfl; omega)
      omega
    generalize hBB : blen n.toNat = B at *
    generalize hP : cpw (a, b) n (B - 1) (ccan (a, b)) = P at *
    have HP : Hid (cpw (a, b) n (B - 1) (ccan (a, b)) = P) := hP
    have ea := Int.toNat_of_nonneg a0
    have eb := Int.toNat_of_nonneg b0
    have HE : Hid (((a.toNat : Nat) : Int) = a ∧ ((b.toNat : Nat) : Int) = b) := ⟨ea, eb⟩
    have ha : a.toNat < 4294967296 := by omega
    have hb : b.toNat < 4294967296 := by omega
    clear hP ea eb
    go_enter Try.func24, Try.ntmps24
    go_wp2_with (first
      | (go_at_call 34; refine (pvalue_any _ (by assumption) (by assumption) _ (by assumption) (by assumption) _).mono ?_; rintro e w' ⟨rfl, o, k0, rfl⟩)
      | (go_at_call 43; refine (len_any _ (by omega) (by omega) _).mono ?_; rintro e w' ⟨rfl, hw'⟩; obtain rfl := hw'.symm))
    go_loopw [6, 7] (fun rv pv wr => (∃ k, wr = (((w.alloc (.cells #[.int .u32 a, .int .u32 b] 25)).alloc (.cells #[.int .u32 0, .int .u32 0] 25)).alloc o).drewN k) ∧ ∃ (j x y : Nat), j ≤ 62 ∧ rv = .complex .f32 x y ∧ pv = .int .i64 ((j : Int) - 1) ∧ x < 4294967296 ∧ y < 4294967296 ∧ cpw (a, b) n j (canon x, canon y) = P) (fun _ pv _ => (intOf pv + 1).toNat)
    case atStart => exact ⟨⟨_, rfl⟩, B - 1, a.toNat, b.toNat, by omega, rfl, by rw [show ((B - 1 : Nat) : Int) - 1 = (B : Int) - 2 by omega], ha, hb, by have := HP.out; obtain ⟨ea, eb⟩ := HE.out; rw [ea, eb]; exact this⟩
    case round =>
      obtain ⟨⟨k, rfl⟩, j, x, y, hj, rfl, rfl, hx, hy, hr⟩ := hrel
      have HR : Hid (cpw (a, b) n j (canon x, canon y) = P) := hr
      clear hr
      rcases Nat.eq_zero_or_pos j with hz | hz
      · subst hz
        have hPr : (canon x, canon y) = P := HR.out
        subst hPr
        clear HR HP
        go_wp2_with (go_at_call 33; refine (pparts_any _ _ hx hy _).mono ?_; rintro e w' ⟨rfl, o', rfl⟩)
        go_returns
        exact ⟨rfl, by first | (refine below_dn _ _ ?_; go_grown; done) | (go_grown; done)⟩
      · obtain ⟨i, rfl⟩ : ∃ i, j = i + 1 := ⟨j - 1, by omega⟩
        rw [show ((i + 1 : Nat) : Int) - 1 = (i : Int) by omega]
        have hbit := cand64 n (by omega) n1 i
        by_cases cb : n / 2 ^ i % 2 = 1
        · go_wp2_with (go_at_call 41; refine (ptimes_pair _ _ _ _ _).mono ?_; rintro e w2 ⟨⟨x', y', rfl, hx', hy', hc'⟩, k', rfl⟩; have HC : Hid (((canon x', canon y') : Int × Int) = _) := hc'; clear hc')
          go_roundw
          case rel => exact ⟨⟨_, rfl⟩, i, _, _, by omega, rfl, rfl, by assumption, by assumption, cpw_one cb HR.out (Hid.out ‹Hid (_ = cmul ((x : Int), (y : Int)) ((x : Int), (y : Int)))›) HC.out (by obtain ⟨ea, eb⟩ := HE.out; rw [ea, eb])⟩
          case measure => first | (simp [intOf]; done) | (simp [intOf]; omega)
        · go_wp2_with (go_at_call 41; refine (ptimes_pair _ _ _ _ _).mono ?_; rintro e w2 ⟨⟨x', y', rfl, hx', hy', hc'⟩, k', rfl⟩; have HC : Hid (((canon x', canon y') : Int × Int) = _) := hc'; clear hc')
          go_roundw
          case rel => exact ⟨⟨_, rfl⟩, i, _, _, by omega, rfl, rfl, by assumption, by assumption, cpw_nil cb HR.out HC.out⟩
          case measure => first | (simp [intOf]; done) | (simp [intOf]; omega)

end Go.Proofs.Ytjbcafkpcgehdaa
