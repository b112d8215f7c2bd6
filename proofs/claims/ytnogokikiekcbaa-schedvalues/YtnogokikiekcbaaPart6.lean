import Derived.Test.YtnogokikiekcbaaPart4
import Derived.Test.YtnogokikiekcbaaPart3
import Derived.Deep.Draws
import Derived.Laws.ComplexArith
import Derived.Deep.RegionHeld3
import Derived.Deep.DeepCutAuto
import Derived.Handy
import Derived.Deep.OwnRows
import Derived.OwnWalk
/- up, of the reference of layer 2. -/
namespace Go.Proofs.Ytnogokikiekcbaa
open Go.RowKit
set_option linter.unusedVariables false

def cellM (w : World) (b : Nat) : Nat := match w.cell? ⟨b, 1, none⟩ with
  | some (.int _ x) => x.toNat
  | _ => 0

theorem cellM_alloc (w : World) (v0 v2 v3 v4 : Value) (X : Int) (t : TypeId) (p : Obj) : cellM ((w.alloc (.cells #[v0, .int .u64 X, v2, v3, v4] t)).alloc p) w.heap.size = X.toNat := by
  have : ((w.alloc (.cells #[v0, .int .u64 X, v2, v3, v4] t)).alloc p).cell? ⟨w.heap.size, 1, none⟩ = some (.int .u64 X) := by
    simp
  unfold cellM; rw [this]

set_option maxHeartbeats 1000000 in
theorem rup_any (s : Bool) (m e : Int) (i n : Bool) (h0 : 0 < m) (h1 : m < 16777216) (e0 : -149 ≤ e) (e1 : e ≤ 104) (w : World) :
    Calls Try.prog 75 #[.agg #[.bool s, .int .u64 m, .int .i64 e, .bool i, .bool n]] w fun x w' => (∃ k : Nat, k ≤ 23 ∧ x = .returned (.agg #[.bool s, .int .u64 (m * 2 ^ k), .int .i64 (e - k), .bool i, .bool n]) ∧ 8388608 ≤ m * 2 ^ k ∧ m * 2 ^ k < 16777216) ∧ ∃ o p, w' = (w.alloc o).alloc p := by
  go_enter Try.func75, Try.ntmps75
  go_wp2
  go_loopw [4] (fun _ wr => ∃ (k : Nat), k ≤ 23 ∧ m * 2 ^ k < 16777216 ∧ wr = (w.alloc (.cells #[.bool s, .int .u64 (m * 2 ^ k), .int .i64 (e - k), .bool i, .bool n] 63)).alloc (.cells #[.bool false, .int .u64 0, .int .i64 0, .bool false, .bool false] 63)) (fun _ wr => 16777216 - cellM wr w.heap.size)
  case atStart => exact ⟨0, by omega, by simpa using h1, by simp⟩
  case round =>
    obtain ⟨k, hk, hm, rfl⟩ := hrel
    have hP : (1 : Int) ≤ 2 ^ k := Int.pow_pos (by decide)
    have hX : 0 < m * 2 ^ k := Int.mul_pos h0 (by omega)
    by_cases c : m * 2 ^ k < 8388608
    · have hs : m * 2 ^ (k + 1) = m * 2 ^ k * 2 := by rw [Int.pow_succ, ← Int.mul_assoc]
      have HS : Hid (m * 2 ^ (k + 1) = m * 2 ^ k * 2) := hs
      have hk23 : k ≤ 22 := by
        rcases Nat.lt_or_ge 22 k with d | d
        · exfalso
          have h2 : 8388608 ≤ 2 ^ k := Nat.le_trans (show 8388608 ≤ 2 ^ 23 by decide) (Nat.pow_le_pow_right (by decide) (by omega))
          have h3 : ((8388608 : Nat) : Int) ≤ ((2 ^ k : Nat) : Int) := Int.ofNat_le.2 h2
          rw [Int.natCast_pow] at h3
          have h4 : (1 : Int) * 2 ^ k ≤ m * 2 ^ k := Int.mul_le_mul_of_nonneg_right (by omega) (by omega)
          have h5 : ((8388608 : Nat) : Int) = 8388608 := rfl
          have h6 : (((2 : Nat) : Int)) ^ k = (2 : Int) ^ k := rfl
          omega
        · exact d
      clear hs
      generalize m * 2 ^ k = X at *
      go_wp2
      go_roundw
      case rel =>
        refine ⟨k + 1, by omega, ?_, ?_⟩
        · rw [HS.out]; omega
        · rw [HS.out, show e - (k : Int) - 1 = e - ((k + 1 : Nat) : Int) by omega]
      case measure => rw [cellM_alloc, cellM_alloc]; omega
    · generalize hXX : m * 2 ^ k = X at *
      have HX : Hid (m * 2 ^ k = X) := hXX
      clear hXX
      go_wp2
      go_returns
      exact ⟨⟨k, hk, by rw [HX.out], by rw [HX.out]; omega, by rw [HX.out]; omega⟩, _, _, rfl⟩

end Go.Proofs.Ytnogokikiekcbaa
/- Div, of the reference of layer 2. -/
namespace Go.Proofs.Ytnogokikiekcbaa
open Go.RowKit
set_option linter.unusedVariables false

def nk (m : Int) : Nat := 23 - m.toNat.log2
theorem pow_cast (k : Nat) : ((2 ^ k : Nat) : Int) = (2 : Int) ^ k := Int.natCast_pow 2 k
theorem nk_uniq (m : Int) (k : Nat) (h0 : 0 < m) (hk : k ≤ 23) (h : 8388608 ≤ m * 2 ^ k) (h' : m * 2 ^ k < 16777216) : k = nk m := by
  obtain ⟨n, rfl⟩ := Int.eq_ofNat_of_zero_le (Int.le_of_lt h0)
  rw [← pow_cast, ← Int.natCast_mul] at h h'
  have hn : n ≠ 0 := by omega
  have e : (n * 2 ^ k).log2 = n.log2 + k := by
    refine (Nat.log2_eq_iff (by omega)).2 ⟨?_, ?_⟩
    · rw [Nat.pow_add]; exact Nat.mul_le_mul_right _ (Nat.log2_self_le hn)
    · rw [show n.log2 + k + 1 = n.log2 + 1 + k by omega, Nat.pow_add]; exact Nat.mul_lt_mul_of_pos_right Nat.lt_log2_self (Nat.two_pow_pos k)
  have e2 : (n * 2 ^ k).log2 = 23 := (Nat.log2_eq_iff (by omega)).2 ⟨by omega, by omega⟩
  unfold nk; rw [Int.toNat_natCast]; omega

set_option maxHeartbeats 400000 in
theorem rup_fn (s : Bool) (m e : Int) (i n : Bool) (h0 : 0 < m) (h1 : m < 16777216) (e0 : -149 ≤ e) (e1 : e ≤ 104) (w : World) :
    Calls Try.prog 75 #[.agg #[.bool s, .int .u64 m, .int .i64 e, .bool i, .bool n]] w fun x w' => x = .returned (.agg #[.bool s, .int .u64 (m * 2 ^ nk m), .int .i64 (e - nk m), .bool i, .bool n]) ∧ ∃ o p, w' = (w.alloc o).alloc p := by
  refine (rup_any s m e i n h0 h1 e0 e1 w).mono ?_
  rintro x w' ⟨⟨k, hk, rfl, ha, hb⟩, ho⟩
  have := nk_uniq m k h0 hk ha hb
  subst this
  exact ⟨rfl, ho⟩

theorem nk_range (m : Int) (h0 : 0 < m) (h1 : m < 16777216) : nk m ≤ 23 ∧ 8388608 ≤ m * 2 ^ nk m ∧ m * 2 ^ nk m < 16777216 := by
  obtain ⟨n, rfl⟩ := Int.eq_ofNat_of_zero_le (Int.le_of_lt h0)
  have hn : n ≠ 0 := by omega
  have hl : n.log2 < 24 := (Nat.log2_lt hn).2 (by omega)
  have lo := Nat.log2_self_le hn
  have hi : n < 2 ^ (n.log2 + 1) := Nat.lt_log2_self
  unfold nk
  rw [Int.toNat_natCast, ← pow_cast, ← Int.natCast_mul]
  refine ⟨by omega, ?_, ?_⟩
  · have : 2 ^ n.log2 * 2 ^ (23 - n.log2) ≤ n * 2 ^ (23 - n.log2) := Nat.mul_le_mul_right _ lo
    rw [← Nat.pow_add, show n.log2 + (23 - n.log2) = 23 by omega] at this
    omega
  · have : n * 2 ^ (23 - n.log2) < 2 ^ (n.log2 + 1) * 2 ^ (23 - n.log2) := Nat.mul_lt_mul_of_pos_right hi (Nat.two_pow_pos _)
    rw [← Nat.pow_add, show n.log2 + 1 + (23 - n.log2) = 24 by omega] at this
    omega

/-- What the reference's number has in common with the word's. -/
theorem ref_mg (a : Int) (h0 : 0 ≤ a) (h1 : a < 4294967296) (hi : nInf a = false) (hn : nNan a = false) : rg a.toNat < 2139095040 ∧ ng a.toNat = nMin a ∧ (mg a.toNat : Int) = nM a ∧ (te a.toNat : Int) = nE a + 149 := by
  have h := ref_fin a h0 h1 hi hn
  have hf : rg a.toNat < 2139095040 := by
    rcases Nat.lt_trichotomy (rg a.toNat) 2139095040 with c | c | c
    · exact c
    · rw [read_inf _ c] at h; cases h.1
    · rw [read_nan _ c] at h; cases h.1
  rw [read_fin _ hf] at h
  have e := h.1
  injection e with e1 e2 e3
  exact ⟨hf, e1, by omega, by omega⟩

theorem fdiv_eq (a b : Int) {d e : Ieee.Datum} (h : Ieee.single.read a.toNat = d) (k : Ieee.single.read b.toNat = e) : fdiv a b = op2 ((d.quotient 25 e).map Ieee.single.write) := by
  unfold fdiv Ieee.Format.div; rw [h, k]; rfl

theorem dig_cast (p q : Nat) : (2 * ((p : Int) * 274877906944 / (q : Int)) + (if (p : Int) * 274877906944 % (q : Int) = 0 then 0 else 1)).toNat = 2 * ((p <<< 38) / q) + ((p <<< 38) % q != 0).toNat := by
  have e : (p : Int) * (274877906944 : Int) = ((p <<< 38 : Nat) : Int) := by
    rw [Nat.shiftLeft_eq, Int.natCast_mul, pow_cast]; rfl
  rw [e, ← Int.natCast_ediv, ← Int.natCast_emod]
  generalize (p <<< 38) / q = x
  generalize (p <<< 38) % q = y
  have hb : (y != 0).toNat = if y = 0 then 0 else 1 := by by_cases c : y = 0 <;> simp [c]
  rw [hb]
  by_cases c : y = 0
  · rw [if_pos c, if_pos (by omega)]; omega
  · rw [if_neg c, if_neg (by omega)]; omega

/-- The quotient's digits, by natural numbers: M * 2^j and N * 2^k are the two numbers' digits, E and F their places. -/
theorem quot_rung (M N j k r : Nat) (E F : Int) (ta tb : Nat) (hE : (ta : Int) = E + 149) (hF : (tb : Int) = F + 149) (hj : j ≤ 23) (hk : k ≤ 23) (hM : 8388608 ≤ M * 2 ^ j) (hN : 8388608 ≤ N * 2 ^ k) (hN2 : N * 2 ^ k < 16777216) (hNpos : 0 < N)
    (hnear : Near 23 (M * 2 ^ ta * 2 ^ 149) (N * 2 ^ tb) r) :
    r = rungOf 23 (-149) (2 * (((M * 2 ^ j) <<< 38) / (N * 2 ^ k)) + (((M * 2 ^ j) <<< 38) % (N * 2 ^ k) != 0).toNat) (E - j - (F - k) - 39) := by
  have hq : 0 < N * 2 ^ k := by omega
  have big : 25 ≤ (2 * (((M * 2 ^ j) <<< 38) / (N * 2 ^ k)) + (((M * 2 ^ j) <<< 38) % (N * 2 ^ k) != 0).toNat).log2 := by
    refine sticky_log hq (j := 24) ?_
    exact Nat.le_trans (Nat.mul_le_mul_right _ (show N * 2 ^ k ≤ 16777216 by omega)) (Nat.le_trans (by decide) (Nat.mul_le_mul_right _ hM))
  obtain ⟨s, hs⟩ : ∃ s : Nat, (s : Int) = F - k + 172 := ⟨(F - k + 172).toNat, by omega⟩
  obtain ⟨x, hx⟩ : ∃ x : Nat, (x : Int) = E - j + 321 := ⟨(E - j + 321).toNat, by omega⟩
  have h2 := near_quot (M * 2 ^ j) (N * 2 ^ k) 38 hq (E - j - (F - k) - 39) big x s (by omega) (by omega)
  refine hnear.unique h2 (Nat.mul_pos hNpos (Nat.two_pow_pos _)) (Nat.mul_pos hq (Nat.two_pow_pos s)) ?_
  obtain ⟨z, hz⟩ : ∃ z : Nat, z = 149 := ⟨_, rfl⟩
  rw [← hz]
  have e1 : M * 2 ^ ta * 2 ^ z * (N * 2 ^ k * 2 ^ s) = M * N * 2 ^ (ta + z + k + s) := by
    rw [Nat.pow_add, Nat.pow_add, Nat.pow_add]; grind
  have e2 : M * 2 ^ j * 2 ^ x * (N * 2 ^ tb) = M * N * 2 ^ (j + x + tb) := by
    rw [Nat.pow_add, Nat.pow_add]; grind
  rw [e1, e2, show ta + z + k + s = j + x + tb by omega]

theorem fdiv_ref (a b : Int) (h0 : 0 ≤ a) (h1 : a < 4294967296) (g0 : 0 ≤ b) (g1 : b < 4294967296) (hia : nInf a = false) (hna : nNan a = false) (hib : nInf b = false) (hnb : nNan b = false) (za : nM a ≠ 0) (zb : nM b ≠ 0)
    (A B : Int) (hA : nM a * 2 ^ nk (nM a) = A) (hB : nM b * 2 ^ nk (nM b) = B) :
    fdiv a b = (Ieee.single.nearest (nMin a != nMin b) (2 * (A * 274877906944 / B) + (if A * 274877906944 % B = 0 then 0 else 1)).toNat (nE a - nk (nM a) - (nE b - nk (nM b)) - 39) : Nat) := by
  obtain ⟨fa, sa, ma, ta⟩ := ref_mg a h0 h1 hia hna
  obtain ⟨fb, sb, mb, tb⟩ := ref_mg b g0 g1 hib hnb
  obtain ⟨-, a1, a2, a3, a4, -⟩ := ref_fin a h0 h1 hia hna
  obtain ⟨-, b1, b2, b3, b4, -⟩ := ref_fin b g0 g1 hib hnb
  obtain ⟨ka, A1, A2⟩ := nk_range (nM a) (by omega) a2
  obtain ⟨kb, B1, B2⟩ := nk_range (nM b) (by omega) b2
  obtain ⟨r, hr, hnear⟩ := div_fin a.toNat b.toNat fa fb (by omega) (by omega)
  have cA : A = ((mg a.toNat * 2 ^ nk (nM a) : Nat) : Int) := by rw [Int.natCast_mul, pow_cast, ma, hA]
  have cB : B = ((mg b.toNat * 2 ^ nk (nM b) : Nat) : Int) := by rw [Int.natCast_mul, pow_cast, mb, hB]
  rw [mv_eq, mv_eq] at hnear
  have key := quot_rung (mg a.toNat) (mg b.toNat) (nk (nM a)) (nk (nM b)) r (nE a) (nE b) (te a.toNat) (te b.toNat) ta tb ka kb (by omega) (by omega) (by omega) (by omega) hnear
  unfold fdiv
  rw [hr, sa, sb, xor_bne]
  show ((wd (nMin a != nMin b) r : Nat) : Int) = _
  rw [nearest_eq, single_fb, single_least, word_wd, cA, cB, dig_cast, ← key]

end Go.Proofs.Ytnogokikiekcbaa
/- The walk of Div of the reference of layer 2. -/
namespace Go.Proofs.Ytnogokikiekcbaa
open Go.RowKit
set_option linter.unusedVariables false

theorem fdiv_nan (a b : Int) (h0 : 0 ≤ a) (h1 : a < 4294967296) (g0 : 0 ≤ b) (g1 : b < 4294967296) (h : nNan a = true ∨ nNan b = true) : fdiv a b = 2143289344 := by
  rcases h with h | h
  · obtain ⟨s, t, e⟩ := ref_nan a h0 h1 h
    rw [fdiv_eq a b e rfl]; cases Ieee.single.read b.toNat <;> rfl
  · obtain ⟨s, t, e⟩ := ref_nan b g0 g1 h
    rw [fdiv_eq a b rfl e]; cases Ieee.single.read a.toNat <;> rfl
theorem write_zero (s : Bool) : ((Ieee.single.write (.number s 0 0) : Nat) : Int) = sgn s := by cases s <;> decide
theorem quot_lo (A B : Int) (h1 : 8388608 ≤ A) (h2 : A < 16777216) (h3 : 8388608 ≤ B) (h4 : B < 16777216) : 0 ≤ A * 274877906944 / B ∧ A * 274877906944 / B < 1099511627776 ∧ 0 ≤ A * 274877906944 % B ∧ A * 274877906944 % B < 16777216 := by
  have e := Int.mul_ediv_add_emod (A * 274877906944) B
  have r0 := Int.emod_nonneg (A * 274877906944) (show B ≠ 0 by omega)
  have r1 := Int.emod_lt_of_pos (A * 274877906944) (show 0 < B by omega)
  have q0 : 0 ≤ A * 274877906944 / B := Int.ediv_nonneg (by omega) (by omega)
  refine ⟨q0, ?_, r0, by omega⟩
  apply Int.ediv_lt_of_lt_mul (by omega)
  omega

set_option maxHeartbeats 2000000 in
theorem rdiv_any (a : Int) (h0 : 0 ≤ a) (h1 : a < 4294967296) (b : Int) (g0 : 0 ≤ b) (g1 : b < 4294967296) (w : World) :
    Calls Try.prog 60 #[.int .i64 a, .int .i64 b] w fun e w' => e = .returned (.int .i64 (fdiv a b)) ∧ Below w.heap.size w w' := by
  cases hna : nNan a
  · cases hnb : nNan b
    · cases hia : nInf a
      · obtain ⟨ra, a1, a2, a3, a4, a5⟩ := ref_fin a h0 h1 hia hna
        cases hib : nInf b
        · obtain ⟨rb, b1, b2, b3, b4, b5⟩ := ref_fin b g0 g1 hib hnb
          by_cases zb : nM b = 0
          · by_cases za : nM a = 0
            · have hv : fdiv a b = 2143289344 := by rw [fdiv_eq a b ra rb, za, zb]; rfl
              rw [hv]; clear hv ra rb
              go_enter Try.func60, Try.ntmps60
              go_wp2_with (first
                | (go_at_call 44; refine (rof_any _ (by omega) (by omega) _).mono ?_; rintro e w' ⟨rfl, o, rfl⟩)
                | (go_at_call 43; refine (rnan_any _ _ _ _ _ _ _ _ _ _ _).mono ?_; rintro e w' ⟨rfl, o, p, rfl⟩)
                | (go_at_call 47; refine (rinf_any _ _).mono ?_; rintro e w' ⟨rfl, rfl⟩)
                | (go_at_call 48; refine (rzero_any _ _).mono ?_; rintro e w' ⟨rfl, rfl⟩)
                | (go_at_call 49; refine (rround_any _ _ (by omega) (by omega) _ (by omega) (by omega) _).mono ?_; rintro e w' ⟨rfl, rfl⟩)
                | (go_at_call 75; refine (rup_fn _ _ _ _ _ (by omega) (by omega) (by omega) (by omega) _).mono ?_; rintro e w' ⟨rfl, o, p, rfl⟩))
              go_ret
              exact ⟨rfl, by go_grown⟩
            · have hv : fdiv a b = sgn (nMin a != nMin b) + 2139095040 := by
                rw [fdiv_eq a b ra rb, zb, ← write_inf, ← xor_bne]
                have : (nM a).toNat ≠ 0 := by omega
                simp only [Ieee.Datum.quotient, if_neg this, Int.toNat_zero, if_true]; rfl
              rw [hv]; clear hv ra rb
              go_enter Try.func60, Try.ntmps60
              go_wp2_with (first
                | (go_at_call 44; refine (rof_any _ (by omega) (by omega) _).mono ?_; rintro e w' ⟨rfl, o, rfl⟩)
                | (go_at_call 43; refine (rnan_any _ _ _ _ _ _ _ _ _ _ _).mono ?_; rintro e w' ⟨rfl, o, p, rfl⟩)
                | (go_at_call 47; refine (rinf_any _ _).mono ?_; rintro e w' ⟨rfl, rfl⟩)
                | (go_at_call 48; refine (rzero_any _ _).mono ?_; rintro e w' ⟨rfl, rfl⟩)
                | (go_at_call 49; refine (rround_any _ _ (by omega) (by omega) _ (by omega) (by omega) _).mono ?_; rintro e w' ⟨rfl, rfl⟩)
                | (go_at_call 75; refine (rup_fn _ _ _ _ _ (by omega) (by omega) (by omega) (by omega) _).mono ?_; rintro e w' ⟨rfl, o, p, rfl⟩))
              go_ret
              exact ⟨rfl, by go_grown⟩
          · by_cases za : nM a = 0
            · have hv : fdiv a b = sgn (nMin a != nMin b) := by
                rw [fdiv_eq a b ra rb, za, ← xor_bne]
                have : (nM b).toNat ≠ 0 := by omega
                simp only [Ieee.Datum.quotient, if_neg this, Int.toNat_zero, Nat.zero_shiftLeft, Nat.zero_div, Nat.zero_mod]
                exact near_zero _ _
              rw [hv]; clear hv ra rb
              go_enter Try.func60, Try.ntmps60
              go_wp2_with (first
                | (go_at_call 44; refine (rof_any _ (by omega) (by omega) _).mono ?_; rintro e w' ⟨rfl, o, rfl⟩)
                | (go_at_call 43; refine (rnan_any _ _ _ _ _ _ _ _ _ _ _).mono ?_; rintro e w' ⟨rfl, o, p, rfl⟩)
                | (go_at_call 47; refine (rinf_any _ _).mono ?_; rintro e w' ⟨rfl, rfl⟩)
                | (go_at_call 48; refine (rzero_any _ _).mono ?_; rintro e w' ⟨rfl, rfl⟩)
                | (go_at_call 49; refine (rround_any _ _ (by omega) (by omega) _ (by omega) (by omega) _).mono ?_; rintro e w' ⟨rfl, rfl⟩)
                | (go_at_call 75; refine (rup_fn _ _ _ _ _ (by omega) (by omega) (by omega) (by omega) _).mono ?_; rintro e w' ⟨rfl, o, p, rfl⟩))
              go_ret
              exact ⟨rfl, by go_grown⟩
            · obtain ⟨ka, A1, A2⟩ := nk_range (nM a) (by omega) a2
              obtain ⟨kb, B1, B2⟩ := nk_range (nM b) (by omega) b2
              obtain ⟨A, hA⟩ : ∃ A, nM a * 2 ^ nk (nM a) = A := ⟨_, rfl⟩
              obtain ⟨B, hB⟩ : ∃ B, nM b * 2 ^ nk (nM b) = B := ⟨_, rfl⟩
              have hv := fdiv_ref a b h0 h1 g0 g1 hia hna hib hnb za zb A B hA hB
              rw [hA] at A1 A2
              rw [hB] at B1 B2
              have hq := quot_lo A B A1 A2 B1 B2
              obtain ⟨EA, hEA⟩ : ∃ EA, nE a - (nk (nM a) : Int) = EA := ⟨_, rfl⟩
              obtain ⟨EB, hEB⟩ : ∃ EB, nE b - (nk (nM b) : Int) = EB := ⟨_, rfl⟩
              rw [hEA, hEB] at hv
              have eb : -172 ≤ EA ∧ EA ≤ 104 ∧ -172 ≤ EB ∧ EB ≤ 104 := by omega
              rw [hv]; clear hv ra rb a5 b5
              obtain ⟨q, hqq⟩ : ∃ q, A * 274877906944 / B = q := ⟨_, rfl⟩
              obtain ⟨r, hrr⟩ : ∃ r, A * 274877906944 % B = r := ⟨_, rfl⟩
              rw [hqq, hrr] at hq ⊢
              have hdiv : (A * 274877906944).tdiv B = q := by rw [← hqq, Int.tdiv_eq_ediv_of_nonneg (by omega)]
              have hmod : (A * 274877906944).tmod B = r := by rw [← hrr, Int.tmod_eq_emod_of_nonneg (by omega)]
              by_cases zr : r = 0
              · rw [if_pos zr]
                go_enter Try.func60, Try.ntmps60
                go_wp2_with (first
                  | (go_at_call 44; refine (rof_any _ (by omega) (by omega) _).mono ?_; rintro e w' ⟨rfl, o, rfl⟩)
                  | (go_at_call 43; refine (rnan_any _ _ _ _ _ _ _ _ _ _ _).mono ?_; rintro e w' ⟨rfl, o, p, rfl⟩)
                  | (go_at_call 47; refine (rinf_any _ _).mono ?_; rintro e w' ⟨rfl, rfl⟩)
                  | (go_at_call 48; refine (rzero_any _ _).mono ?_; rintro e w' ⟨rfl, rfl⟩)
                  | (go_at_call 49; refine (rround_any _ _ (by omega) (by omega) _ (by omega) (by omega) _).mono ?_; rintro e w' ⟨rfl, rfl⟩)
                  | (go_at_call 75; refine (rup_fn _ _ _ _ _ (by omega) (by omega) (by omega) (by omega) _).mono ?_; rintro e w' ⟨rfl, o, p, rfl⟩))
                go_ret
                exact ⟨ret_near (by omega) rfl, by go_grown⟩
              · rw [if_neg zr]
                go_enter Try.func60, Try.ntmps60
                go_wp2_with (first
                  | (go_at_call 44; refine (rof_any _ (by omega) (by omega) _).mono ?_; rintro e w' ⟨rfl, o, rfl⟩)
                  | (go_at_call 43; refine (rnan_any _ _ _ _ _ _ _ _ _ _ _).mono ?_; rintro e w' ⟨rfl, o, p, rfl⟩)
                  | (go_at_call 47; refine (rinf_any _ _).mono ?_; rintro e w' ⟨rfl, rfl⟩)
                  | (go_at_call 48; refine (rzero_any _ _).mono ?_; rintro e w' ⟨rfl, rfl⟩)
                  | (go_at_call 49; refine (rround_any _ _ (by omega) (by omega) _ (by omega) (by omega) _).mono ?_; rintro e w' ⟨rfl, rfl⟩)
                  | (go_at_call 75; refine (rup_fn _ _ _ _ _ (by omega) (by omega) (by omega) (by omega) _).mono ?_; rintro e w' ⟨rfl, o, p, rfl⟩))
                go_ret
                exact ⟨ret_near (by omega) rfl, by go_grown⟩
        · obtain ⟨rb, -, b1⟩ := ref_inf b g0 g1 hib
          have hv : fdiv a b = sgn (nMin a != nMin b) := by rw [fdiv_eq a b ra rb, ← write_zero, ← xor_bne]; rfl
          rw [hv]; clear hv ra rb
          by_cases za : nM a = 0
          · skip
            go_enter Try.func60, Try.ntmps60
            go_wp2_with (first
              | (go_at_call 44; refine (rof_any _ (by omega) (by omega) _).mono ?_; rintro e w' ⟨rfl, o, rfl⟩)
              | (go_at_call 43; refine (rnan_any _ _ _ _ _ _ _ _ _ _ _).mono ?_; rintro e w' ⟨rfl, o, p, rfl⟩)
              | (go_at_call 47; refine (rinf_any _ _).mono ?_; rintro e w' ⟨rfl, rfl⟩)
              | (go_at_call 48; refine (rzero_any _ _).mono ?_; rintro e w' ⟨rfl, rfl⟩)
              | (go_at_call 49; refine (rround_any _ _ (by omega) (by omega) _ (by omega) (by omega) _).mono ?_; rintro e w' ⟨rfl, rfl⟩)
              | (go_at_call 75; refine (rup_fn _ _ _ _ _ (by omega) (by omega) (by omega) (by omega) _).mono ?_; rintro e w' ⟨rfl, o, p, rfl⟩))
            go_ret
            exact ⟨rfl, by go_grown⟩
          · skip
            go_enter Try.func60, Try.ntmps60
            go_wp2_with (first
              | (go_at_call 44; refine (rof_any _ (by omega) (by omega) _).mono ?_; rintro e w' ⟨rfl, o, rfl⟩)
              | (go_at_call 43; refine (rnan_any _ _ _ _ _ _ _ _ _ _ _).mono ?_; rintro e w' ⟨rfl, o, p, rfl⟩)
              | (go_at_call 47; refine (rinf_any _ _).mono ?_; rintro e w' ⟨rfl, rfl⟩)
              | (go_at_call 48; refine (rzero_any _ _).mono ?_; rintro e w' ⟨rfl, rfl⟩)
              | (go_at_call 49; refine (rround_any _ _ (by omega) (by omega) _ (by omega) (by omega) _).mono ?_; rintro e w' ⟨rfl, rfl⟩)
              | (go_at_call 75; refine (rup_fn _ _ _ _ _ (by omega) (by omega) (by omega) (by omega) _).mono ?_; rintro e w' ⟨rfl, o, p, rfl⟩))
            go_ret
            exact ⟨rfl, by go_grown⟩
      · obtain ⟨ra, -, a1⟩ := ref_inf a h0 h1 hia
        cases hib : nInf b
        · obtain ⟨rb, b1, b2, b3, b4, b5⟩ := ref_fin b g0 g1 hib hnb
          have hv : fdiv a b = sgn (nMin a != nMin b) + 2139095040 := by rw [fdiv_eq a b ra rb, ← write_inf, ← xor_bne]; rfl
          rw [hv]; clear hv ra rb
          go_enter Try.func60, Try.ntmps60
          go_wp2_with (first
            | (go_at_call 44; refine (rof_any _ (by omega) (by omega) _).mono ?_; rintro e w' ⟨rfl, o, rfl⟩)
            | (go_at_call 43; refine (rnan_any _ _ _ _ _ _ _ _ _ _ _).mono ?_; rintro e w' ⟨rfl, o, p, rfl⟩)
            | (go_at_call 47; refine (rinf_any _ _).mono ?_; rintro e w' ⟨rfl, rfl⟩)
            | (go_at_call 48; refine (rzero_any _ _).mono ?_; rintro e w' ⟨rfl, rfl⟩)
            | (go_at_call 49; refine (rround_any _ _ (by omega) (by omega) _ (by omega) (by omega) _).mono ?_; rintro e w' ⟨rfl, rfl⟩)
            | (go_at_call 75; refine (rup_fn _ _ _ _ _ (by omega) (by omega) (by omega) (by omega) _).mono ?_; rintro e w' ⟨rfl, o, p, rfl⟩))
          go_ret
          exact ⟨rfl, by go_grown⟩
        · obtain ⟨rb, -, b1⟩ := ref_inf b g0 g1 hib
          have hv : fdiv a b = 2143289344 := by rw [fdiv_eq a b ra rb]; rfl
          rw [hv]; clear hv ra rb
          go_enter Try.func60, Try.ntmps60
          go_wp2_with (first
            | (go_at_call 44; refine (rof_any _ (by omega) (by omega) _).mono ?_; rintro e w' ⟨rfl, o, rfl⟩)
            | (go_at_call 43; refine (rnan_any _ _ _ _ _ _ _ _ _ _ _).mono ?_; rintro e w' ⟨rfl, o, p, rfl⟩)
            | (go_at_call 47; refine (rinf_any _ _).mono ?_; rintro e w' ⟨rfl, rfl⟩)
            | (go_at_call 48; refine (rzero_any _ _).mono ?_; rintro e w' ⟨rfl, rfl⟩)
            | (go_at_call 49; refine (rround_any _ _ (by omega) (by omega) _ (by omega) (by omega) _).mono ?_; rintro e w' ⟨rfl, rfl⟩)
            | (go_at_call 75; refine (rup_fn _ _ _ _ _ (by omega) (by omega) (by omega) (by omega) _).mono ?_; rintro e w' ⟨rfl, o, p, rfl⟩))
          go_ret
          exact ⟨rfl, by go_grown⟩
    · have hv := fdiv_nan a b h0 h1 g0 g1 (Or.inr hnb)
      rw [hv]; clear hv
      go_enter Try.func60, Try.ntmps60
      go_wp2_with (first
        | (go_at_call 44; refine (rof_any _ (by omega) (by omega) _).mono ?_; rintro e w' ⟨rfl, o, rfl⟩)
        | (go_at_call 43; refine (rnan_any _ _ _ _ _ _ _ _ _ _ _).mono ?_; rintro e w' ⟨rfl, o, p, rfl⟩)
        | (go_at_call 47; refine (rinf_any _ _).mono ?_; rintro e w' ⟨rfl, rfl⟩)
        | (go_at_call 48; refine (rzero_any _ _).mono ?_; rintro e w' ⟨rfl, rfl⟩)
        | (go_at_call 49; refine (rround_any _ _ (by omega) (by omega) _ (by omega) (by omega) _).mono ?_; rintro e w' ⟨rfl, rfl⟩)
        | (go_at_call 75; refine (rup_fn _ _ _ _ _ (by omega) (by omega) (by omega) (by omega) _).mono ?_; rintro e w' ⟨rfl, o, p, rfl⟩))
      go_ret
      exact ⟨rfl, by go_grown⟩
  · have hv := fdiv_nan a b h0 h1 g0 g1 (Or.inl hna)
    rw [hv]; clear hv
    go_enter Try.func60, Try.ntmps60
    go_wp2_with (first
      | (go_at_call 44; refine (rof_any _ (by omega) (by omega) _).mono ?_; rintro e w' ⟨rfl, o, rfl⟩)
      | (go_at_call 43; refine (rnan_any _ _ _ _ _ _ _ _ _ _ _).mono ?_; rintro e w' ⟨rfl, o, p, rfl⟩)
      | (go_at_call 47; refine (rinf_any _ _).mono ?_; rintro e w' ⟨rfl, rfl⟩)
      | (go_at_call 48; refine (rzero_any _ _).mono ?_; rintro e w' ⟨rfl, rfl⟩)
      | (go_at_call 49; refine (rround_any _ _ (by omega) (by omega) _ (by omega) (by omega) _).mono ?_; rintro e w' ⟨rfl, rfl⟩)
      | (go_at_call 75; refine (rup_fn _ _ _ _ _ (by omega) (by omega) (by omega) (by omega) _).mono ?_; rintro e w' ⟨rfl, o, p, rfl⟩))
    go_ret
    exact ⟨rfl, by go_grown⟩

end Go.Proofs.Ytnogokikiekcbaa
/- Sqrt, of the reference of layer 2. -/
namespace Go.Proofs.Ytnogokikiekcbaa
open Go.RowKit
set_option linter.unusedVariables false

theorem fsqrt_eq (a : Int) {d : Ieee.Datum} (h : Ieee.single.read a.toNat = d) : fsqrt a = op2 ((d.root 25).map Ieee.single.write) := by
  unfold fsqrt Ieee.Format.sqrt; rw [h]; rfl

/-- The root's digits: n = M * 2^j * 2^36, or twice that, the place even. -/
theorem fsqrt_ref (a : Int) (h0 : 0 ≤ a) (h1 : a < 4294967296) (hia : nInf a = false) (hna : nNan a = false) (za : nM a ≠ 0) (hs : nMin a = false) (root n : Nat) (e : Int) (he : e % 2 = 0)
    (hn : (n : Int) = nM a * 2 ^ nk (nM a) * 68719476736 ∧ e = nE a - nk (nM a) - 36 ∨ (n : Int) = nM a * 2 ^ nk (nM a) * 68719476736 * 2 ∧ e = nE a - nk (nM a) - 37) (hr1 : root * root ≤ n) (hr2 : n < (root + 1) * (root + 1)) :
    fsqrt a = (Ieee.single.nearest false (2 * root + (if root * root < n then 1 else 0)) (e / 2 - 1) : Nat) := by
  obtain ⟨fa, sa, ma, ta⟩ := ref_mg a h0 h1 hia hna
  obtain ⟨-, a1, a2, a3, a4, -⟩ := ref_fin a h0 h1 hia hna
  obtain ⟨ka, A1, A2⟩ := nk_range (nM a) (by omega) a2
  obtain ⟨r, hr, hnear⟩ := root_single a.toNat fa (by rw [sa]; exact hs) (by omega)
  have hst : (root * root != n).toNat = if root * root < n then 1 else 0 := by
    by_cases c : root * root = n
    · rw [if_neg (by omega)]; simp [c]
    · rw [if_pos (by omega)]; simp [c]
  obtain ⟨x, hx⟩ : ∃ x : Nat, (x : Int) = e / 2 + 149 := ⟨(e / 2 + 149).toNat, by omega⟩
  have hn59 : 576460752303423488 ≤ n := by omega
  have hroot : 16777216 ≤ root := by
    rcases Nat.lt_or_ge root 16777216 with c | c
    · exfalso
      have := Nat.mul_self_le_mul_self (show root + 1 ≤ 16777216 from c)
      omega
    · exact c
  have big : 23 + 2 ≤ (2 * root + (root * root != n).toNat).log2 := by
    apply (Nat.le_log2 (by omega)).2
    omega
  have h2 := near_root 23 (-149) root n (e / 2 - 1) (by decide) hr1 hr2 big x (by omega)
  have hval : n * (2 ^ x * 2 ^ x) = mv a.toNat * 2 ^ 149 := by
    have cA : nM a * 2 ^ nk (nM a) = ((mg a.toNat * 2 ^ nk (nM a) : Nat) : Int) := by rw [Int.natCast_mul, pow_cast, ma]
    rw [cA] at hn
    obtain ⟨z, hz⟩ : ∃ z : Nat, z = 149 := ⟨_, rfl⟩
    rw [mv_eq, ← hz]
    rcases hn with ⟨hn, hE⟩ | ⟨hn, hE⟩
    · have hn' : n = mg a.toNat * 2 ^ nk (nM a) * 2 ^ 36 := by
        have : (2 : Nat) ^ 36 = 68719476736 := rfl
        omega
      rw [hn', Nat.mul_assoc, Nat.mul_assoc, Nat.mul_assoc, ← Nat.pow_add, ← Nat.pow_add, ← Nat.pow_add, ← Nat.pow_add]
      congr 2; omega
    · have hn' : n = mg a.toNat * 2 ^ nk (nM a) * 2 ^ 37 := by
        have : (2 : Nat) ^ 37 = 68719476736 * 2 := rfl
        omega
      rw [hn', Nat.mul_assoc, Nat.mul_assoc, Nat.mul_assoc, ← Nat.pow_add, ← Nat.pow_add, ← Nat.pow_add, ← Nat.pow_add]
      congr 2; omega
  rw [hval, hst] at h2
  have key := hnear.unique h2
  unfold fsqrt
  rw [hr]
  show ((wd false r : Nat) : Int) = _
  rw [nearest_eq, single_fb, single_least, word_wd, ← key]

def rrel (n k root : Nat) : Prop := root * root ≤ n ∧ n < (root + 2 ^ k) * (root + 2 ^ k) ∧ root + 2 ^ k ≤ 4294967296
def bitv (k : Nat) : Int := if k = 0 then 0 else 2 ^ (k - 1)
theorem bitv_succ (k : Nat) : bitv (k + 1) = 2 ^ k := by unfold bitv; rw [if_neg (by omega)]; rfl
theorem bitv_half (k : Nat) : (2 : Int) ^ k / 2 = bitv k := by
  unfold bitv
  rcases Nat.eq_zero_or_pos k with c | c
  · subst c; rfl
  · rw [if_neg (by omega)]
    obtain ⟨j, rfl⟩ : ∃ j, k = j + 1 := ⟨k - 1, by omega⟩
    rw [Int.pow_succ, Nat.add_sub_cancel]; omega

set_option maxHeartbeats 2000000 in
theorem rsqrt_pos (a : Int) (h0 : 0 ≤ a) (h1 : a < 4294967296) (hia : nInf a = false) (hna : nNan a = false) (za : nM a ≠ 0) (hs : nMin a = false) (w : World) :
    Calls Try.prog 63 #[.int .i64 a] w fun e w' => e = .returned (.int .i64 (fsqrt a)) ∧ Below w.heap.size w w' := by
  obtain ⟨ra, a1, a2, a3, a4, a5⟩ := ref_fin a h0 h1 hia hna
  obtain ⟨ka, A1, A2⟩ := nk_range (nM a) (by omega) a2
  obtain ⟨A, hA⟩ : ∃ A, nM a * 2 ^ nk (nM a) = A := ⟨_, rfl⟩
  obtain ⟨EA, hEA⟩ : ∃ EA, nE a - (nk (nM a) : Int) = EA := ⟨_, rfl⟩
  have hv := fsqrt_ref a h0 h1 hia hna za hs
  rw [hA, hEA] at hv
  rw [hA] at A1 A2
  have eb : -172 ≤ EA ∧ EA ≤ 104 := by omega
  clear ra a5
  have HV : Hid (∀ (root n : Nat) (e : Int), e % 2 = 0 → ((n : Int) = A * 68719476736 ∧ e = EA - 36 ∨ (n : Int) = A * 68719476736 * 2 ∧ e = EA - 37) → root * root ≤ n → n < (root + 1) * (root + 1) → fsqrt a = (Ieee.single.nearest false (2 * root + (if root * root < n then 1 else 0)) (e / 2 - 1) : Nat)) := fun root n e p q r s => hv root n e p q r s
  clear hv
  generalize hF : fsqrt a = F at *
  clear hF
  by_cases c : EA % 2 = 0
  · skip
    obtain ⟨N, hN⟩ : ∃ N : Int, A * 68719476736 = N := ⟨_, rfl⟩
    obtain ⟨e, he⟩ : ∃ e : Int, EA - 36 = e := ⟨_, rfl⟩
    obtain ⟨E2, hE2⟩ : ∃ E2 : Int, e / 2 = E2 := ⟨_, rfl⟩
    have hNb : 576460752303423488 ≤ N ∧ N < 2305843009213693952 := by omega
    obtain ⟨n, hn⟩ : ∃ n : Nat, (n : Int) = N := ⟨N.toNat, by omega⟩
    have hv2 := fun root => HV.out root n e (by omega) (Or.inl ⟨by omega, by omega⟩)
    rw [hE2] at hv2
    have htd : e.tdiv 2 = E2 := by rw [← hE2, Int.tdiv_eq_ediv]; split <;> omega
    have hodd : e.tmod 2 = 0 := by rw [Int.tmod_eq_emod]; split <;> omega
    have HV2 : Hid (∀ root : Nat, root * root ≤ n → n < (root + 1) * (root + 1) → F = (Ieee.single.nearest false (2 * root + (if root * root < n then 1 else 0)) (E2 - 1) : Nat)) := hv2
    have HN : Hid ((n : Int) = N) := hn
    have hE2b : -200 ≤ E2 ∧ E2 ≤ 60 := by omega
    clear hv2 hn hE2 HV
    go_enter Try.func63, Try.ntmps63
    go_wp2_with (first
      | (go_at_call 44; refine (rof_any _ (by omega) (by omega) _).mono ?_; rintro e w' ⟨rfl, o, rfl⟩)
      | (go_at_call 75; refine (rup_fn _ _ _ _ _ (by omega) (by omega) (by omega) (by omega) _).mono ?_; rintro e w' ⟨rfl, o, p, rfl⟩))
    go_loop [6, 7] (fun rv bv => ∃ (k root : Nat), k ≤ 32 ∧ rv = .int .u64 root ∧ bv = .int .u64 (bitv k) ∧ rrel n k root) (fun _ bv => (intOf bv).toNat)
    case atStart =>
      have hnn := HN.out
      exact ⟨32, 0, by omega, rfl, rfl, by unfold rrel; have : (2 : Nat) ^ 32 = 4294967296 := rfl; rw [this]; omega⟩
    case round =>
      obtain ⟨k, root, hk, rfl, rfl, q1, q2, q3⟩ := hrel
      have Q1 : Hid (root * root ≤ n) := q1
      have Q2 : Hid (n < (root + 2 ^ k) * (root + 2 ^ k)) := q2
      have Q3 : Hid (root + 2 ^ k ≤ 4294967296) := q3
      have hroot : (root : Int) < 4294967296 := by have := Nat.two_pow_pos k; omega
      rcases Nat.eq_zero_or_pos k with hz | hz
      · subst hz
        have hb : bitv 0 = 0 := rfl
        rw [hb]
        obtain ⟨R2, hR2⟩ : ∃ R2 : Int, (root : Int) * root = R2 := ⟨_, rfl⟩
        have hR2n : R2 = ((root * root : Nat) : Int) := by rw [← hR2, Int.natCast_mul]
        have hnn := HN.out
        have hw : IntKind.u64.wrap ((root : Int) * root) = R2 := by rw [hR2, IntKind.wrap_u64]; omega
        have hF := HV2.out root q1 (by rw [Nat.pow_zero] at q2; exact q2)
        have HR : Hid (R2 = ((root * root : Nat) : Int)) := hR2n
        clear q1 q2 q3 hR2 hR2n hnn
        by_cases c2 : R2 < N
        · rw [if_pos (by have := HR.out; have := HN.out; omega)] at hF
          have HF : Hid (F = (Ieee.single.nearest false _ (E2 - 1) : Nat)) := hF
          clear hF HV2
          go_wp2_with (go_at_call 49; refine (rround_any _ _ (by omega) (by omega) _ (by omega) (by omega) _).mono ?_; rintro e w' ⟨rfl, rfl⟩)
          go_ret
          refine ⟨?_, by go_grown⟩
          rw [HF.out]
          exact ret_near (by omega) rfl
        · rw [if_neg (by have := HR.out; have := HN.out; omega)] at hF
          have HF : Hid (F = (Ieee.single.nearest false _ (E2 - 1) : Nat)) := hF
          clear hF HV2
          go_wp2_with (go_at_call 49; refine (rround_any _ _ (by omega) (by omega) _ (by omega) (by omega) _).mono ?_; rintro e w' ⟨rfl, rfl⟩)
          go_ret
          refine ⟨?_, by go_grown⟩
          rw [HF.out]
          exact ret_near (by omega) rfl
      · obtain ⟨j, rfl⟩ : ∃ j, k = j + 1 := ⟨k - 1, by omega⟩
        rw [bitv_succ]
        have hh := bitv_half j
        obtain ⟨b, hb⟩ : ∃ b : Int, (2 : Int) ^ j = b := ⟨_, rfl⟩
        have hbn : b = ((2 ^ j : Nat) : Int) := by rw [pow_cast]; exact hb.symm
        have hb1 : 1 ≤ b := by have := Nat.two_pow_pos j; omega
        have hp2 : 2 ^ (j + 1) = 2 * 2 ^ j := by rw [Nat.pow_succ, Nat.mul_comm]
        have hsum : (root : Int) + b < 4294967296 := by rw [hp2] at q3; have := Nat.two_pow_pos j; omega
        obtain ⟨y, hy⟩ : ∃ y : Nat, y = root + 2 ^ j := ⟨_, rfl⟩
        obtain ⟨R, hR⟩ : ∃ R : Int, (root : Int) = R := ⟨_, rfl⟩
        obtain ⟨S, hS⟩ : ∃ S : Int, (R + b) * (R + b) = S := ⟨_, rfl⟩
        have hSn : S = ((y * y : Nat) : Int) := by rw [← hS, Int.natCast_mul, hy, Int.natCast_add, hbn, hR]
        have hSb : 0 ≤ S ∧ S < 18446744073709551616 := by
          have := Nat.mul_self_le_mul_self (show y ≤ 4294967295 by omega)
          omega
        have hw : IntKind.u64.wrap ((R + b) * (R + b)) = S := by rw [hS, IntKind.wrap_u64]; omega
        have hR0 : 0 ≤ R := by omega
        have HR : Hid ((root : Int) = R) := hR
        rw [hR] at hsum hroot ⊢
        clear hR
        rw [hb] at hh ⊢
        have HB : Hid (b = ((2 ^ j : Nat) : Int)) := hbn
        have HS : Hid (S = ((y * y : Nat) : Int)) := hSn
        have HY : Hid (y = root + 2 ^ j) := hy
        clear q1 q2 q3 hS hSn hbn hb hy hp2
        by_cases c2 : S ≤ N
        · go_wp2
          go_round
          case rel =>
            have e1 := HB.out
            have e2 := HS.out
            have e3 := HY.out
            have e4 := HN.out
            have e5 := Q2.out
            have e6 := Q3.out
            have hp2 : 2 ^ (j + 1) = 2 * 2 ^ j := by rw [Nat.pow_succ, Nat.mul_comm]
            refine ⟨j, root + 2 ^ j, by omega, by rw [Int.natCast_add, ← e1, HR.out], by first | rfl | rw [hh], ?_, ?_, by omega⟩
            · rw [← e3]; omega
            · rw [show root + 2 ^ j + 2 ^ j = root + 2 ^ (j + 1) by omega]; exact e5
          case measure => simp [intOf]; omega
        · go_wp2
          go_round
          case rel =>
            have e1 := HB.out
            have e2 := HS.out
            have e3 := HY.out
            have e4 := HN.out
            have e5 := Q2.out
            have e6 := Q3.out
            have hp2 : 2 ^ (j + 1) = 2 * 2 ^ j := by rw [Nat.pow_succ, Nat.mul_comm]
            refine ⟨j, root, by omega, by rw [HR.out], by first | rfl | rw [hh], Q1.out, ?_, by omega⟩
            rw [← e3]; omega
          case measure => simp [intOf]; omega
  · skip
    have hodd : (EA - 36).tmod 2 ≠ 0 := by rw [Int.tmod_eq_emod]; split <;> omega
    obtain ⟨N, hN⟩ : ∃ N : Int, A * 68719476736 * 2 = N := ⟨_, rfl⟩
    obtain ⟨e, he⟩ : ∃ e : Int, EA - 36 - 1 = e := ⟨_, rfl⟩
    obtain ⟨E2, hE2⟩ : ∃ E2 : Int, e / 2 = E2 := ⟨_, rfl⟩
    have hNb : 576460752303423488 ≤ N ∧ N < 2305843009213693952 := by omega
    obtain ⟨n, hn⟩ : ∃ n : Nat, (n : Int) = N := ⟨N.toNat, by omega⟩
    have hv2 := fun root => HV.out root n e (by omega) (Or.inr ⟨by omega, by omega⟩)
    rw [hE2] at hv2
    have htd : e.tdiv 2 = E2 := by rw [← hE2, Int.tdiv_eq_ediv]; split <;> omega
    have HV2 : Hid (∀ root : Nat, root * root ≤ n → n < (root + 1) * (root + 1) → F = (Ieee.single.nearest false (2 * root + (if root * root < n then 1 else 0)) (E2 - 1) : Nat)) := hv2
    have HN : Hid ((n : Int) = N) := hn
    have hE2b : -200 ≤ E2 ∧ E2 ≤ 60 := by omega
    clear hv2 hn hE2 HV
    go_enter Try.func63, Try.ntmps63
    go_wp2_with (first
      | (go_at_call 44; refine (rof_any _ (by omega) (by omega) _).mono ?_; rintro e w' ⟨rfl, o, rfl⟩)
      | (go_at_call 75; refine (rup_fn _ _ _ _ _ (by omega) (by omega) (by omega) (by omega) _).mono ?_; rintro e w' ⟨rfl, o, p, rfl⟩))
    go_loop [6, 7] (fun rv bv => ∃ (k root : Nat), k ≤ 32 ∧ rv = .int .u64 root ∧ bv = .int .u64 (bitv k) ∧ rrel n k root) (fun _ bv => (intOf bv).toNat)
    case atStart =>
      have hnn := HN.out
      exact ⟨32, 0, by omega, rfl, rfl, by unfold rrel; have : (2 : Nat) ^ 32 = 4294967296 := rfl; rw [this]; omega⟩
    case round =>
      obtain ⟨k, root, hk, rfl, rfl, q1, q2, q3⟩ := hrel
      have Q1 : Hid (root * root ≤ n) := q1
      have Q2 : Hid (n < (root + 2 ^ k) * (root + 2 ^ k)) := q2
      have Q3 : Hid (root + 2 ^ k ≤ 4294967296) := q3
      have hroot : (root : Int) < 4294967296 := by have := Nat.two_pow_pos k; omega
      rcases Nat.eq_zero_or_pos k with hz | hz
      · subst hz
        have hb : bitv 0 = 0 := rfl
        rw [hb]
        obtain ⟨R2, hR2⟩ : ∃ R2 : Int, (root : Int) * root = R2 := ⟨_, rfl⟩
        have hR2n : R2 = ((root * root : Nat) : Int) := by rw [← hR2, Int.natCast_mul]
        have hnn := HN.out
        have hw : IntKind.u64.wrap ((root : Int) * root) = R2 := by rw [hR2, IntKind.wrap_u64]; omega
        have hF := HV2.out root q1 (by rw [Nat.pow_zero] at q2; exact q2)
        have HR : Hid (R2 = ((root * root : Nat) : Int)) := hR2n
        clear q1 q2 q3 hR2 hR2n hnn
        by_cases c2 : R2 < N
        · rw [if_pos (by have := HR.out; have := HN.out; omega)] at hF
          have HF : Hid (F = (Ieee.single.nearest false _ (E2 - 1) : Nat)) := hF
          clear hF HV2
          go_wp2_with (go_at_call 49; refine (rround_any _ _ (by omega) (by omega) _ (by omega) (by omega) _).mono ?_; rintro e w' ⟨rfl, rfl⟩)
          go_ret
          refine ⟨?_, by go_grown⟩
          rw [HF.out]
          exact ret_near (by omega) rfl
        · rw [if_neg (by have := HR.out; have := HN.out; omega)] at hF
          have HF : Hid (F = (Ieee.single.nearest false _ (E2 - 1) : Nat)) := hF
          clear hF HV2
          go_wp2_with (go_at_call 49; refine (rround_any _ _ (by omega) (by omega) _ (by omega) (by omega) _).mono ?_; rintro e w' ⟨rfl, rfl⟩)
          go_ret
          refine ⟨?_, by go_grown⟩
          rw [HF.out]
          exact ret_near (by omega) rfl
      · obtain ⟨j, rfl⟩ : ∃ j, k = j + 1 := ⟨k - 1, by omega⟩
        rw [bitv_succ]
        have hh := bitv_half j
        obtain ⟨b, hb⟩ : ∃ b : Int, (2 : Int) ^ j = b := ⟨_, rfl⟩
        have hbn : b = ((2 ^ j : Nat) : Int) := by rw [pow_cast]; exact hb.symm
        have hb1 : 1 ≤ b := by have := Nat.two_pow_pos j; omega
        have hp2 : 2 ^ (j + 1) = 2 * 2 ^ j := by rw [Nat.pow_succ, Nat.mul_comm]
        have hsum : (root : Int) + b < 4294967296 := by rw [hp2] at q3; have := Nat.two_pow_pos j; omega
        obtain ⟨y, hy⟩ : ∃ y : Nat, y = root + 2 ^ j := ⟨_, rfl⟩
        obtain ⟨R, hR⟩ : ∃ R : Int, (root : Int) = R := ⟨_, rfl⟩
        obtain ⟨S, hS⟩ : ∃ S : Int, (R + b) * (R + b) = S := ⟨_, rfl⟩
        have hSn : S = ((y * y : Nat) : Int) := by rw [← hS, Int.natCast_mul, hy, Int.natCast_add, hbn, hR]
        have hSb : 0 ≤ S ∧ S < 18446744073709551616 := by
          have := Nat.mul_self_le_mul_self (show y ≤ 4294967295 by omega)
          omega
        have hw : IntKind.u64.wrap ((R + b) * (R + b)) = S := by rw [hS, IntKind.wrap_u64]; omega
        have hR0 : 0 ≤ R := by omega
        have HR : Hid ((root : Int) = R) := hR
        rw [hR] at hsum hroot ⊢
        clear hR
        rw [hb] at hh ⊢
        have HB : Hid (b = ((2 ^ j : Nat) : Int)) := hbn
        have HS : Hid (S = ((y * y : Nat) : Int)) := hSn
        have HY : Hid (y = root + 2 ^ j) := hy
        clear q1 q2 q3 hS hSn hbn hb hy hp2
        by_cases c2 : S ≤ N
        · go_wp2
          go_round
          case rel =>
            have e1 := HB.out
            have e2 := HS.out
            have e3 := HY.out
            have e4 := HN.out
            have e5 := Q2.out
            have e6 := Q3.out
            have hp2 : 2 ^ (j + 1) = 2 * 2 ^ j := by rw [Nat.pow_succ, Nat.mul_comm]
            refine ⟨j, root + 2 ^ j, by omega, by rw [Int.natCast_add, ← e1, HR.out], by first | rfl | rw [hh], ?_, ?_, by omega⟩
            · rw [← e3]; omega
            · rw [show root + 2 ^ j + 2 ^ j = root + 2 ^ (j + 1) by omega]; exact e5
          case measure => simp [intOf]; omega
        · go_wp2
          go_round
          case rel =>
            have e1 := HB.out
            have e2 := HS.out
            have e3 := HY.out
            have e4 := HN.out
            have e5 := Q2.out
            have e6 := Q3.out
            have hp2 : 2 ^ (j + 1) = 2 * 2 ^ j := by rw [Nat.pow_succ, Nat.mul_comm]
            refine ⟨j, root, by omega, by rw [HR.out], by first | rfl | rw [hh], Q1.out, ?_, by omega⟩
            rw [← e3]; omega
          case measure => simp [intOf]; omega

end Go.Proofs.Ytnogokikiekcbaa
/- The walk of the statement FloatRoots. -/
namespace Go.Proofs.Ytnogokikiekcbaa
open Go.RowKit
set_option linter.unusedVariables false

set_option maxHeartbeats 1000000 in
theorem rsqrt_any (a : Int) (h0 : 0 ≤ a) (h1 : a < 4294967296) (w : World) :
    Calls Try.prog 63 #[.int .i64 a] w fun e w' => e = .returned (.int .i64 (fsqrt a)) ∧ Below w.heap.size w w' := by
  cases hna : nNan a
  · cases hia : nInf a
    · by_cases za : nM a = 0
      · obtain ⟨ra, a1, a2, a3, a4, a5⟩ := ref_fin a h0 h1 hia hna
        have hv : fsqrt a = a := by
          rw [fsqrt_eq a ra, za]
          have e : ((Ieee.single.nearest (nMin a) 0 (nE a) : Nat) : Int) = sgn (nMin a) := near_zero _ _
          show ((Ieee.single.nearest (nMin a) 0 (nE a) : Nat) : Int) = a
          rw [e]
          have h2 := ref_mg a h0 h1 hia hna
          have h3 := toNat_parts a h0 h1
          have h4 : rg a.toNat = 0 := by
            have : mg a.toNat = 0 := by omega
            unfold mg at this; split at this <;> omega
          rw [h2.2.1, h4] at h3
          unfold sgn; omega
        rw [hv]; clear hv ra a5
        go_enter Try.func63, Try.ntmps63
        go_wp2_with (go_at_call 44; refine (rof_any _ (by omega) (by omega) _).mono ?_; rintro e w' ⟨rfl, o, rfl⟩)
        go_ret
        exact ⟨rfl, by go_grown⟩
      · cases hs : nMin a
        · exact rsqrt_pos a h0 h1 hia hna za hs w
        · obtain ⟨ra, a1, a2, a3, a4, a5⟩ := ref_fin a h0 h1 hia hna
          have hv : fsqrt a = 2143289344 := by
            rw [fsqrt_eq a ra, hs]
            have : (nM a).toNat ≠ 0 := by omega
            simp only [Ieee.Datum.root, if_neg this, if_true]; rfl
          rw [hv]; clear hv ra a5
          go_enter Try.func63, Try.ntmps63
          go_wp2_with (go_at_call 44; refine (rof_any _ (by omega) (by omega) _).mono ?_; rintro e w' ⟨rfl, o, rfl⟩)
          go_ret
          exact ⟨rfl, by go_grown⟩
    · obtain ⟨ra, -, a1⟩ := ref_inf a h0 h1 hia
      cases hs : nMin a
      · have hv : fsqrt a = a := by
          rw [fsqrt_eq a ra, hs]
          have h2 : rg a.toNat = 2139095040 := by
            rcases Nat.lt_trichotomy (rg a.toNat) 2139095040 with c | c | c
            · rw [read_fin _ c] at ra; cases ra
            · exact c
            · rw [read_nan _ c] at ra; cases ra
          have h3 := toNat_parts a h0 h1
          rw [← nMin_ng a h0 h1, hs, h2] at h3
          show ((Ieee.single.write (.infinity false) : Nat) : Int) = a
          rw [write_inf]; unfold sgn; omega
        rw [hv]; clear hv ra
        go_enter Try.func63, Try.ntmps63
        go_wp2_with (go_at_call 44; refine (rof_any _ (by omega) (by omega) _).mono ?_; rintro e w' ⟨rfl, o, rfl⟩)
        go_ret
        exact ⟨rfl, by go_grown⟩
      · have hv : fsqrt a = 2143289344 := by rw [fsqrt_eq a ra, hs]; rfl
        rw [hv]; clear hv ra
        go_enter Try.func63, Try.ntmps63
        go_wp2_with (go_at_call 44; refine (rof_any _ (by omega) (by omega) _).mono ?_; rintro e w' ⟨rfl, o, rfl⟩)
        go_ret
        exact ⟨rfl, by go_grown⟩
  · have hv : fsqrt a = 2143289344 := by
      obtain ⟨s, t, e⟩ := ref_nan a h0 h1 hna
      rw [fsqrt_eq a e]; rfl
    rw [hv]; clear hv
    go_enter Try.func63, Try.ntmps63
    go_wp2_with (go_at_call 44; refine (rof_any _ (by omega) (by omega) _).mono ?_; rintro e w' ⟨rfl, o, rfl⟩)
    go_ret
    exact ⟨rfl, by go_grown⟩

end Go.Proofs.Ytnogokikiekcbaa
/- Sums, differences and products of numbers of Go's own, whose NaNs are not yet told as the one: which pattern, how many draws; the same of complex numbers. -/
namespace Go.Proofs.Ytnogokikiekcbaa
open Go.RowKit
set_option linter.unusedVariables false

def dn (o : Option Nat) : Nat := match o with
  | some _ => 0
  | none => 1
section
variable {P : Program} (w : World)
end

section
variable (w : World) (n : Nat)
@[go_sem] theorem alloc_drewN (o : Obj) : (w.drewN n).alloc o = (w.alloc o).drewN n := rfl
@[go_sem] theorem setCell_drewN (a : Addr) (v : Value) : (w.drewN n).setCell a v = (w.setCell a v).drewN n := rfl
end

end Go.Proofs.Ytnogokikiekcbaa
/- What lies in memory, as a list of cells, in a world that is a letter. -/
namespace Go.Proofs.Ytnogokikiekcbaa
open Go.RowKit
set_option linter.unusedVariables false

theorem mcell_lt {w : World} {a : Addr} {v : Value} (h : w.cell? a = some v) : a.block < w.heap.size := by
  rcases Nat.lt_or_ge a.block w.heap.size with c | c
  · exact c
  · have : w.heap[a.block]? = none := Array.getElem?_eq_none c
    simp [World.cell?, this] at h

section
variable {w : World} {cs : List (Addr × Value)} {g : Nat} {x y : Value} {v v' : World}
end

end Go.Proofs.Ytnogokikiekcbaa
/- Rows of numbers: what is read, what is made. -/
namespace Go.Proofs.Ytnogokikiekcbaa
open Go.RowKit
set_option linter.unusedVariables false

theorem info_F : (Try.prog.info? 31).map (fun i => (i.zero, i.size, i.bytes)) = some (some (.int .u32 0), 1, 4) := by kernel_rfl

end Go.Proofs.Ytnogokikiekcbaa
