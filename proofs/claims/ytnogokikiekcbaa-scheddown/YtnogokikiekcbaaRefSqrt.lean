import Derived.Test.YtnogokikiekcbaaRefDiv
import Derived.Test.YtnogokikiekcbaaRefAdd2
/- Sqrt, of the reference of layer 2. -/
namespace Go.Proofs.Ytnogokikiekcbaa
open Go.RowKit
set_option linter.unusedVariables false

theorem fsqrt_eq (a : Int) {d : Ieee.Datum} (h : Ieee.single.read a.toNat = d) : fsqrt a = op2 ((d.root 25).map Ieee.single.write) := by
  unfold fsqrt Ieee.Format.sqrt; rw [h]; rfl

/-- The root's digits: n = M * 2^j * 2^36, or twice that, the place even. -/
theorem fsqrt_ref (a : Int) (h0 : 0 ≤ a) (h1 : a < 4294967296) (hia : nInf a = false) (hna : nNan a = false) (za : nM a ≠ 0) (hs : nMin a = false) (root n : Nat) (e : Int) (he : e % 2 = 0)
    (hn : (n : Int) = nM a * 2 ^ nk (nM a) * 68719476736 ∧ e = nE a - nk (nM a) - 36 ∨ (n : Int) = nM a * 2 ^ nk (nM a) * 68719476736 * 2 ∧ e = nE a - nk (nM a) - 37) (hr1 : root * root ≤ n) (hr2 : n < (root + 1) * (root + 1)) :
    fsqrt a = (Ieee.single.nearest false (2 * root + (if root * root < n then 1 else 0)) (e / 2 - 1) : Nat) := by
  obtain ⟨fa, sa, ma, ta⟩ := ref_mg a h0 h1 hia hna
  obtain ⟨-, a1, a2, a3, a4, -⟩ := ref_fin a h0 h1 hia hna
  obtain ⟨ka, A1, A2⟩ := nk_range (nM a) (by omega) a2
  obtain ⟨r, hr, hnear⟩ := root_single a.toNat fa (by rw [sa]; exact hs) (by omega)
  have hst : (root * root != n).toNat = if root * root < n then 1 else 0 := by
    by_cases c : root * root = n
    · rw [if_neg (by omega)]; simp [c]
    · rw [if_pos (by omega)]; simp [c]
  obtain ⟨x, hx⟩ : ∃ x : Nat, (x : Int) = e / 2 + 149 := ⟨(e / 2 + 149).toNat, by omega⟩
  have hn59 : 576460752303423488 ≤ n := by omega
  have hroot : 16777216 ≤ root := by
    rcases Nat.lt_or_ge root 16777216 with c | c
    · exfalso
      have := Nat.mul_self_le_mul_self (show root + 1 ≤ 16777216 from c)
      omega
    · exact c
  have big : 23 + 2 ≤ (2 * root + (root * root != n).toNat).log2 := by
    apply (Nat.le_log2 (by omega)).2
    omega
  have h2 := near_root 23 (-149) root n (e / 2 - 1) (by decide) hr1 hr2 big x (by omega)
  have hval : n * (2 ^ x * 2 ^ x) = mv a.toNat * 2 ^ 149 := by
    have cA : nM a * 2 ^ nk (nM a) = ((mg a.toNat * 2 ^ nk (nM a) : Nat) : Int) := by rw [Int.natCast_mul, pow_cast, ma]
    rw [cA] at hn
    obtain ⟨z, hz⟩ : ∃ z : Nat, z = 149 := ⟨_, rfl⟩
    rw [mv_eq, ← hz]
    rcases hn with ⟨hn, hE⟩ | ⟨hn, hE⟩
    · have hn' : n = mg a.toNat * 2 ^ nk (nM a) * 2 ^ 36 := by
        have : (2 : Nat) ^ 36 = 68719476736 := rfl
        omega
      rw [hn', Nat.mul_assoc, Nat.mul_assoc, Nat.mul_assoc, ← Nat.pow_add, ← Nat.pow_add, ← Nat.pow_add, ← Nat.pow_add]
      congr 2; omega
    · have hn' : n = mg a.toNat * 2 ^ nk (nM a) * 2 ^ 37 := by
        have : (2 : Nat) ^ 37 = 68719476736 * 2 := rfl
        omega
      rw [hn', Nat.mul_assoc, Nat.mul_assoc, Nat.mul_assoc, ← Nat.pow_add, ← Nat.pow_add, ← Nat.pow_add, ← Nat.pow_add]
      congr 2; omega
  rw [hval, hst] at h2
  have key := hnear.unique h2
  unfold fsqrt
  rw [hr]
  show ((wd false r : Nat) : Int) = _
  rw [nearest_eq, single_fb, single_least, word_wd, ← key]

def rrel (n k root : Nat) : Prop := root * root ≤ n ∧ n < (root + 2 ^ k) * (root + 2 ^ k) ∧ root + 2 ^ k ≤ 4294967296
def bitv (k : Nat) : Int := if k = 0 then 0 else 2 ^ (k - 1)
theorem bitv_succ (k : Nat) : bitv (k + 1) = 2 ^ k := by unfold bitv; rw [if_neg (by omega)]; rfl
theorem bitv_half (k : Nat) : (2 : Int) ^ k / 2 = bitv k := by
  unfold bitv
  rcases Nat.eq_zero_or_pos k with c | c
  · subst c; rfl
  · rw [if_neg (by omega)]
    obtain ⟨j, rfl⟩ : ∃ j, k = j + 1 := ⟨k - 1, by omega⟩
    rw [Int.pow_succ, Nat.add_sub_cancel]; omega

set_option maxHeartbeats 2000000 in
theorem rsqrt_pos (a : Int) (h0 : 0 ≤ a) (h1 : a < 4294967296) (hia : nInf a = false) (hna : nNan a = false) (za : nM a ≠ 0) (hs : nMin a = false) (w : World) :
    Calls Try.prog 63 #[.int .i64 a] w fun e w' => e = .returned (.int .i64 (fsqrt a)) ∧ Below w.heap.size w w' := by
  obtain ⟨ra, a1, a2, a3, a4, a5⟩ := ref_fin a h0 h1 hia hna
  obtain ⟨ka, A1, A2⟩ := nk_range (nM a) (by omega) a2
  obtain ⟨A, hA⟩ : ∃ A, nM a * 2 ^ nk (nM a) = A := ⟨_, rfl⟩
  obtain ⟨EA, hEA⟩ : ∃ EA, nE a - (nk (nM a) : Int) = EA := ⟨_, rfl⟩
  have hv := fsqrt_ref a h0 h1 hia hna za hs
  rw [hA, hEA] at hv
  rw [hA] at A1 A2
  have eb : -172 ≤ EA ∧ EA ≤ 104 := by omega
  clear ra a5
  have HV : Hid (∀ (root n : Nat) (e : Int), e % 2 = 0 → ((n : Int) = A * 68719476736 ∧ e = EA - 36 ∨ (n : Int) = A * 68719476736 * 2 ∧ e = EA - 37) → root * root ≤ n → n < (root + 1) * (root + 1) → fsqrt a = (Ieee.single.nearest false (2 * root + (if root * root < n then 1 else 0)) (e / 2 - 1) : Nat)) := fun root n e p q r s => hv root n e p q r s
  clear hv
  generalize hF : fsqrt a = F at *
  clear hF
  by_cases c : EA % 2 = 0
  · skip
    obtain ⟨N, hN⟩ : ∃ N : Int, A * 68719476736 = N := ⟨_, rfl⟩
    obtain ⟨e, he⟩ : ∃ e : Int, EA - 36 = e := ⟨_, rfl⟩
    obtain ⟨E2, hE2⟩ : ∃ E2 : Int, e / 2 = E2 := ⟨_, rfl⟩
    have hNb : 576460752303423488 ≤ N ∧ N < 2305843009213693952 := by omega
    obtain ⟨n, hn⟩ : ∃ n : Nat, (n : Int) = N := ⟨N.toNat, by omega⟩
    have hv2 := fun root => HV.out root n e (by omega) (Or.inl ⟨by omega, by omega⟩)
    rw [hE2] at hv2
    have htd : e.tdiv 2 = E2 := by rw [← hE2, Int.tdiv_eq_ediv]; split <;> omega
    have hodd : e.tmod 2 = 0 := by rw [Int.tmod_eq_emod]; split <;> omega
    have HV2 : Hid (∀ root : Nat, root * root ≤ n → n < (root + 1) * (root + 1) → F = (Ieee.single.nearest false (2 * root + (if root * root < n then 1 else 0)) (E2 - 1) : Nat)) := hv2
    have HN : Hid ((n : Int) = N) := hn
    have hE2b : -200 ≤ E2 ∧ E2 ≤ 60 := by omega
    clear hv2 hn hE2 HV
    go_enter Try.func63, Try.ntmps63
    go_wp2_with (first
      | (go_at_call 44; refine (rof_any _ (by omega) (by omega) _).mono ?_; rintro e w' ⟨rfl, o, rfl⟩)
      | (go_at_call 75; refine (rup_fn _ _ _ _ _ (by omega) (by omega) (by omega) (by omega) _).mono ?_; rintro e w' ⟨rfl, o, p, rfl⟩))
    go_loop [6, 7] (fun rv bv => ∃ (k root : Nat), k ≤ 32 ∧ rv = .int .u64 root ∧ bv = .int .u64 (bitv k) ∧ rrel n k root) (fun _ bv => (intOf bv).toNat)
    case atStart =>
      have hnn := HN.out
      exact ⟨32, 0, by omega, rfl, rfl, by unfold rrel; have : (2 : Nat) ^ 32 = 4294967296 := rfl; rw [this]; omega⟩
    case round =>
      obtain ⟨k, root, hk, rfl, rfl, q1, q2, q3⟩ := hrel
      have Q1 : Hid (root * root ≤ n) := q1
      have Q2 : Hid (n < (root + 2 ^ k) * (root + 2 ^ k)) := q2
      have Q3 : Hid (root + 2 ^ k ≤ 4294967296) := q3
      have hroot : (root : Int) < 4294967296 := by have := Nat.two_pow_pos k; omega
      rcases Nat.eq_zero_or_pos k with hz | hz
      · subst hz
        have hb : bitv 0 = 0 := rfl
        rw [hb]
        obtain ⟨R2, hR2⟩ : ∃ R2 : Int, (root : Int) * root = R2 := ⟨_, rfl⟩
        have hR2n : R2 = ((root * root : Nat) : Int) := by rw [← hR2, Int.natCast_mul]
        have hnn := HN.out
        have hw : IntKind.u64.wrap ((root : Int) * root) = R2 := by rw [hR2, IntKind.wrap_u64]; omega
        have hF := HV2.out root q1 (by rw [Nat.pow_zero] at q2; exact q2)
        have HR : Hid (R2 = ((root * root : Nat) : Int)) := hR2n
        clear q1 q2 q3 hR2 hR2n hnn
        by_cases c2 : R2 < N
        · rw [if_pos (by have := HR.out; have := HN.out; omega)] at hF
          have HF : Hid (F = (Ieee.single.nearest false _ (E2 - 1) : Nat)) := hF
          clear hF HV2
          go_wp2_with (go_at_call 49; refine (rround_any _ _ (by omega) (by omega) _ (by omega) (by omega) _).mono ?_; rintro e w' ⟨rfl, rfl⟩)
          go_ret
          refine ⟨?_, by go_grown⟩
          rw [HF.out]
          exact ret_near (by omega) rfl
        · rw [if_neg (by have := HR.out; have := HN.out; omega)] at hF
          have HF : Hid (F = (Ieee.single.nearest false _ (E2 - 1) : Nat)) := hF
          clear hF HV2
          go_wp2_with (go_at_call 49; refine (rround_any _ _ (by omega) (by omega) _ (by omega) (by omega) _).mono ?_; rintro e w' ⟨rfl, rfl⟩)
          go_ret
          refine ⟨?_, by go_grown⟩
          rw [HF.out]
          exact ret_near (by omega) rfl
      · obtain ⟨j, rfl⟩ : ∃ j, k = j + 1 := ⟨k - 1, by omega⟩
        rw [bitv_succ]
        have hh := bitv_half j
        obtain ⟨b, hb⟩ : ∃ b : Int, (2 : Int) ^ j = b := ⟨_, rfl⟩
        have hbn : b = ((2 ^ j : Nat) : Int) := by rw [pow_cast]; exact hb.symm
        have hb1 : 1 ≤ b := by have := Nat.two_pow_pos j; omega
        have hp2 : 2 ^ (j + 1) = 2 * 2 ^ j := by rw [Nat.pow_succ, Nat.mul_comm]
        have hsum : (root : Int) + b < 4294967296 := by rw [hp2] at q3; have := Nat.two_pow_pos j; omega
        obtain ⟨y, hy⟩ : ∃ y : Nat, y = root + 2 ^ j := ⟨_, rfl⟩
        obtain ⟨R, hR⟩ : ∃ R : Int, (root : Int) = R := ⟨_, rfl⟩
        obtain ⟨S, hS⟩ : ∃ S : Int, (R + b) * (R + b) = S := ⟨_, rfl⟩
        have hSn : S = ((y * y : Nat) : Int) := by rw [← hS, Int.natCast_mul, hy, Int.natCast_add, hbn, hR]
        have hSb : 0 ≤ S ∧ S < 18446744073709551616 := by
          have := Nat.mul_self_le_mul_self (show y ≤ 4294967295 by omega)
          omega
        have hw : IntKind.u64.wrap ((R + b) * (R + b)) = S := by rw [hS, IntKind.wrap_u64]; omega
        have hR0 : 0 ≤ R := by omega
        have HR : Hid ((root : Int) = R) := hR
        rw [hR] at hsum hroot ⊢
        clear hR
        rw [hb] at hh ⊢
        have HB : Hid (b = ((2 ^ j : Nat) : Int)) := hbn
        have HS : Hid (S = ((y * y : Nat) : Int)) := hSn
        have HY : Hid (y = root + 2 ^ j) := hy
        clear q1 q2 q3 hS hSn hbn hb hy hp2
        by_cases c2 : S ≤ N
        · go_wp2
          go_round
          case rel =>
            have e1 := HB.out
            have e2 := HS.out
            have e3 := HY.out
            have e4 := HN.out
            have e5 := Q2.out
            have e6 := Q3.out
            have hp2 : 2 ^ (j + 1) = 2 * 2 ^ j := by rw [Nat.pow_succ, Nat.mul_comm]
            refine ⟨j, root + 2 ^ j, by omega, by rw [Int.natCast_add, ← e1, HR.out], by first | rfl | rw [hh], ?_, ?_, by omega⟩
            · rw [← e3]; omega
            · rw [show root + 2 ^ j + 2 ^ j = root + 2 ^ (j + 1) by omega]; exact e5
          case measure => simp [intOf]; omega
        · go_wp2
          go_round
          case rel =>
            have e1 := HB.out
            have e2 := HS.out
            have e3 := HY.out
            have e4 := HN.out
            have e5 := Q2.out
            have e6 := Q3.out
            have hp2 : 2 ^ (j + 1) = 2 * 2 ^ j := by rw [Nat.pow_succ, Nat.mul_comm]
            refine ⟨j, root, by omega, by rw [HR.out], by first | rfl | rw [hh], Q1.out, ?_, by omega⟩
            rw [← e3]; omega
          case measure => simp [intOf]; omega
  · skip
    have hodd : (EA - 36).tmod 2 ≠ 0 := by rw [Int.tmod_eq_emod]; split <;> omega
    obtain ⟨N, hN⟩ : ∃ N : Int, A * 68719476736 * 2 = N := ⟨_, rfl⟩
    obtain ⟨e, he⟩ : ∃ e : Int, EA - 36 - 1 = e := ⟨_, rfl⟩
    obtain ⟨E2, hE2⟩ : ∃ E2 : Int, e / 2 = E2 := ⟨_, rfl⟩
    have hNb : 576460752303423488 ≤ N ∧ N < 2305843009213693952 := by omega
    obtain ⟨n, hn⟩ : ∃ n : Nat, (n : Int) = N := ⟨N.toNat, by omega⟩
    have hv2 := fun root => HV.out root n e (by omega) (Or.inr ⟨by omega, by omega⟩)
    rw [hE2] at hv2
    have htd : e.tdiv 2 = E2 := by rw [← hE2, Int.tdiv_eq_ediv]; split <;> omega
    have HV2 : Hid (∀ root : Nat, root * root ≤ n → n < (root + 1) * (root + 1) → F = (Ieee.single.nearest false (2 * root + (if root * root < n then 1 else 0)) (E2 - 1) : Nat)) := hv2
    have HN : Hid ((n : Int) = N) := hn
    have hE2b : -200 ≤ E2 ∧ E2 ≤ 60 := by omega
    clear hv2 hn hE2 HV
    go_enter Try.func63, Try.ntmps63
    go_wp2_with (first
      | (go_at_call 44; refine (rof_any _ (by omega) (by omega) _).mono ?_; rintro e w' ⟨rfl, o, rfl⟩)
      | (go_at_call 75; refine (rup_fn _ _ _ _ _ (by omega) (by omega) (by omega) (by omega) _).mono ?_; rintro e w' ⟨rfl, o, p, rfl⟩))
    go_loop [6, 7] (fun rv bv => ∃ (k root : Nat), k ≤ 32 ∧ rv = .int .u64 root ∧ bv = .int .u64 (bitv k) ∧ rrel n k root) (fun _ bv => (intOf bv).toNat)
    case atStart =>
      have hnn := HN.out
      exact ⟨32, 0, by omega, rfl, rfl, by unfold rrel; have : (2 : Nat) ^ 32 = 4294967296 := rfl; rw [this]; omega⟩
    case round =>
      obtain ⟨k, root, hk, rfl, rfl, q1, q2, q3⟩ := hrel
      have Q1 : Hid (root * root ≤ n) := q1
      have Q2 : Hid (n < (root + 2 ^ k) * (root + 2 ^ k)) := q2
      have Q3 : Hid (root + 2 ^ k ≤ 4294967296) := q3
      have hroot : (root : Int) < 4294967296 := by have := Nat.two_pow_pos k; omega
      rcases Nat.eq_zero_or_pos k with hz | hz
      · subst hz
        have hb : bitv 0 = 0 := rfl
        rw [hb]
        obtain ⟨R2, hR2⟩ : ∃ R2 : Int, (root : Int) * root = R2 := ⟨_, rfl⟩
        have hR2n : R2 = ((root * root : Nat) : Int) := by rw [← hR2, Int.natCast_mul]
        have hnn := HN.out
        have hw : IntKind.u64.wrap ((root : Int) * root) = R2 := by rw [hR2, IntKind.wrap_u64]; omega
        have hF := HV2.out root q1 (by rw [Nat.pow_zero] at q2; exact q2)
        have HR : Hid (R2 = ((root * root : Nat) : Int)) := hR2n
        clear q1 q2 q3 hR2 hR2n hnn
        by_cases c2 : R2 < N
        · rw [if_pos (by have := HR.out; have := HN.out; omega)] at hF
          have HF : Hid (F = (Ieee.single.nearest false _ (E2 - 1) : Nat)) := hF
          clear hF HV2
          go_wp2_with (go_at_call 49; refine (rround_any _ _ (by omega) (by omega) _ (by omega) (by omega) _).mono ?_; rintro e w' ⟨rfl, rfl⟩)
          go_ret
          refine ⟨?_, by go_grown⟩
          rw [HF.out]
          exact ret_near (by omega) rfl
        · rw [if_neg (by have := HR.out; have := HN.out; omega)] at hF
          have HF : Hid (F = (Ieee.single.nearest false _ (E2 - 1) : Nat)) := hF
          clear hF HV2
          go_wp2_with (go_at_call 49; refine (rround_any _ _ (by omega) (by omega) _ (by omega) (by omega) _).mono ?_; rintro e w' ⟨rfl, rfl⟩)
          go_ret
          refine ⟨?_, by go_grown⟩
          rw [HF.out]
          exact ret_near (by omega) rfl
      · obtain ⟨j, rfl⟩ : ∃ j, k = j + 1 := ⟨k - 1, by omega⟩
        rw [bitv_succ]
        have hh := bitv_half j
        obtain ⟨b, hb⟩ : ∃ b : Int, (2 : Int) ^ j = b := ⟨_, rfl⟩
        have hbn : b = ((2 ^ j : Nat) : Int) := by rw [pow_cast]; exact hb.symm
        have hb1 : 1 ≤ b := by have := Nat.two_pow_pos j; omega
        have hp2 : 2 ^ (j + 1) = 2 * 2 ^ j := by rw [Nat.pow_succ, Nat.mul_comm]
        have hsum : (root : Int) + b < 4294967296 := by rw [hp2] at q3; have := Nat.two_pow_pos j; omega
        obtain ⟨y, hy⟩ : ∃ y : Nat, y = root + 2 ^ j := ⟨_, rfl⟩
        obtain ⟨R, hR⟩ : ∃ R : Int, (root : Int) = R := ⟨_, rfl⟩
        obtain ⟨S, hS⟩ : ∃ S : Int, (R + b) * (R + b) = S := ⟨_, rfl⟩
        have hSn : S = ((y * y : Nat) : Int) := by rw [← hS, Int.natCast_mul, hy, Int.natCast_add, hbn, hR]
        have hSb : 0 ≤ S ∧ S < 18446744073709551616 := by
          have := Nat.mul_self_le_mul_self (show y ≤ 4294967295 by omega)
          omega
        have hw : IntKind.u64.wrap ((R + b) * (R + b)) = S := by rw [hS, IntKind.wrap_u64]; omega
        have hR0 : 0 ≤ R := by omega
        have HR : Hid ((root : Int) = R) := hR
        rw [hR] at hsum hroot ⊢
        clear hR
        rw [hb] at hh ⊢
        have HB : Hid (b = ((2 ^ j : Nat) : Int)) := hbn
        have HS : Hid (S = ((y * y : Nat) : Int)) := hSn
        have HY : Hid (y = root + 2 ^ j) := hy
        clear q1 q2 q3 hS hSn hbn hb hy hp2
        by_cases c2 : S ≤ N
        · go_wp2
          go_round
          case rel =>
            have e1 := HB.out
            have e2 := HS.out
            have e3 := HY.out
            have e4 := HN.out
            have e5 := Q2.out
            have e6 := Q3.out
            have hp2 : 2 ^ (j + 1) = 2 * 2 ^ j := by rw [Nat.pow_succ, Nat.mul_comm]
            refine ⟨j, root + 2 ^ j, by omega, by rw [Int.natCast_add, ← e1, HR.out], by first | rfl | rw [hh], ?_, ?_, by omega⟩
            · rw [← e3]; omega
            · rw [show root + 2 ^ j + 2 ^ j = root + 2 ^ (j + 1) by omega]; exact e5
          case measure => simp [intOf]; omega
        · go_wp2
          go_round
          case rel =>
            have e1 := HB.out
            have e2 := HS.out
            have e3 := HY.out
            have e4 := HN.out
            have e5 := Q2.out
            have e6 := Q3.out
            have hp2 : 2 ^ (j + 1) = 2 * 2 ^ j := by rw [Nat.pow_succ, Nat.mul_comm]
            refine ⟨j, root, by omega, by rw [HR.out], by first | rfl | rw [hh], Q1.out, ?_, by omega⟩
            rw [← e3]; omega
          case measure => simp [intOf]; omega

end Go.Proofs.Ytnogokikiekcbaa
