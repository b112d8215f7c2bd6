import Derived.Test.YtnogokikiekcbabFloatOrd
/- What is nearest, by the digits of the outcome. -/
namespace Go.Proofs.Ytnogokikiekcbab
set_option linter.unusedVariables false

theorem low_step (p t k q : Nat) (hk : k < 2 * 2 ^ p) (h : t * 2 ^ p + k = q + 1) : V p (q + 1) ≤ V p q + 2 ^ t := by
  rw [V_step]
  have hB : 0 < 2 ^ p := Nat.two_pow_pos p
  have : q / 2 ^ p - 1 ≤ t := by
    have : q / 2 ^ p < t + 2 := (Nat.div_lt_iff_lt_mul hB).2 (by rw [Nat.add_mul]; omega)
    omega
  have := Nat.pow_le_pow_right (show 0 < 2 by decide) this
  omega

theorem Near.cut {p n d t k : Nat} (h : Near p n d (t * 2 ^ p + k)) (hp : 1 ≤ p) (hk : k < 2 * 2 ^ p) (hkt : t = 0 ∨ 2 ^ p ≤ k) (hd : 0 < d) : Cut n d k t := by
  have hB : 0 < 2 ^ p := Nat.two_pow_pos p
  have hB2 : 2 ^ p % 2 = 0 := by
    obtain ⟨q, rfl⟩ : ∃ q, p = q + 1 := ⟨p - 1, by omega⟩
    rw [Nat.pow_succ]; omega
  have par : (t * 2 ^ p + k) % 2 = k % 2 := by
    have : (t * 2 ^ p) % 2 = 0 := by rw [Nat.mul_mod, hB2, Nat.mul_zero, Nat.zero_mod]
    omega
  have v0 : V p (t * 2 ^ p + k) = k * 2 ^ t := V_at p t k (by omega) hkt
  have v1 : V p (t * 2 ^ p + k + 1) = (k + 1) * 2 ^ t := by rw [Nat.add_assoc]; exact V_at p t (k + 1) (by omega) (by omega)
  have es : V p (t * 2 ^ p + k) + V p (t * 2 ^ p + k + 1) = (2 * k + 1) * 2 ^ t := by
    rw [v0, v1, ← Nat.add_mul]; congr 1; omega
  have up := h.up
  have ue := h.ue
  rw [es] at up ue
  rw [par] at ue
  have hk0 : k = 0 ∨ ∃ q, t * 2 ^ p + k = q + 1 := by
    rcases Nat.eq_zero_or_pos k with c | c
    · exact Or.inl c
    · exact Or.inr ⟨t * 2 ^ p + k - 1, by omega⟩
  refine ⟨up, ue, ?_, ?_⟩
  · rcases hk0 with c | ⟨q, hq⟩
    · rw [c]; simp
    · have dn := h.dn q hq
      have hl := low_step p t k q hk hq
      rw [← hq, v0] at hl
      rw [v0] at dn
      have h2 : (2 * k * 2 ^ t) * d ≤ (V p q + k * 2 ^ t + 2 ^ t) * d := Nat.mul_le_mul_right _ (by rw [Nat.mul_assoc]; omega)
      rw [Nat.add_mul] at h2
      omega
  · intro e
    rcases hk0 with c | ⟨q, hq⟩
    · rw [c]
    · have dn := h.dn q hq
      have de := h.de q hq
      have hl := low_step p t k q hk hq
      rw [← hq, v0] at hl
      rw [v0] at dn de
      rw [par] at de
      apply de
      have h2 : (2 * k * 2 ^ t) * d ≤ (V p q + k * 2 ^ t + 2 ^ t) * d := Nat.mul_le_mul_right _ (by rw [Nat.mul_assoc]; omega)
      rw [Nat.add_mul] at h2
      omega

theorem Cut.unscale {n k b s t : Nat} (u : Nat) (h : Cut (n * 2 ^ b) (2 ^ s) k t) (e : u + b = t + s) : Cut n 1 k u := by
  have up := h.up
  have ue := h.ue
  have dn := h.dn
  have de := h.de
  have hb : 0 < 2 ^ b := Nat.two_pow_pos b
  have ets : ∀ x : Nat, x * 2 ^ t * 2 ^ s = x * 2 ^ u * 2 ^ b := by
    intro x; rw [Nat.mul_assoc, Nat.mul_assoc, ← Nat.pow_add, ← Nat.pow_add, e]
  have ets1 : 2 ^ t * 2 ^ s = 2 ^ u * 2 ^ b := by rw [← Nat.pow_add, ← Nat.pow_add, e]
  rw [ets, ← Nat.mul_assoc] at up ue
  rw [ets, ets1, ← Nat.mul_assoc, ← Nat.add_mul] at dn de
  refine ⟨?_, ?_, ?_, ?_⟩
  · rw [Nat.mul_one]; exact Nat.le_of_mul_le_mul_right up hb
  · rw [Nat.mul_one]; intro q; exact ue (by rw [q])
  · rw [Nat.mul_one, Nat.mul_one]; exact Nat.le_of_mul_le_mul_right dn hb
  · rw [Nat.mul_one, Nat.mul_one]; intro q; exact de (by rw [q])

theorem rg_parts (z : Nat) : rg z = te z * 2 ^ 23 + mg z := by
  unfold te mg; split <;> omega
theorem wd_fin {s : Bool} {r : Nat} (h : rg (wd s r) < 2139095040) : r < 2139095040 ∧ rg (wd s r) = r ∧ ng (wd s r) = s := by
  rw [rg_wd] at h
  exact ⟨by omega, by rw [rg_wd]; omega, ng_wd s r⟩
theorem cut_word {n d z : Nat} (hd : 0 < d) (h : Near 23 n d (rg z)) : Cut n d (mg z) (te z) := by
  rw [rg_parts z] at h
  exact h.cut (by decide) (mg_lt z) (mg_or z) hd

theorem mul_cut (a b : Int) (ha : ffin a = true) (hb : ffin b = true) (h0 : 0 ≤ a) (g0 : 0 ≤ b) (hz : ffin (fmul a b) = true) :
    Cut (mv a.toNat * mv b.toNat) (2 ^ 149) (mg (fmul a b).toNat) (te (fmul a b).toNat) ∧ ng (fmul a b).toNat = (ng a.toNat ^^ ng b.toNat) := by
  rw [ffin_rg _ h0] at ha
  rw [ffin_rg _ g0] at hb
  rw [ffin_rg _ (fmul_lo a b).1] at hz
  obtain ⟨r, hr, hn⟩ := mul_fin a.toNat b.toNat (by simpa using ha) (by simpa using hb)
  have e : (fmul a b).toNat = wd (ng a.toNat ^^ ng b.toNat) r := by unfold fmul; rw [hr]; rfl
  rw [e] at hz ⊢
  obtain ⟨h1, h2, h3⟩ := wd_fin (of_decide_eq_true hz)
  exact ⟨cut_word (Nat.two_pow_pos _) (by rw [h2]; exact hn), h3⟩

theorem add_cut (a b : Int) (ha : ffin a = true) (hb : ffin b = true) (h0 : 0 ≤ a) (g0 : 0 ≤ b) (hz : ffin (fadd a b) = true) :
    Cut (sv a.toNat + sv b.toNat).natAbs 1 (mg (fadd a b).toNat) (te (fadd a b).toNat) ∧ Near 23 (sv a.toNat + sv b.toNat).natAbs 1 (rg (fadd a b).toNat) ∧
    ng (fadd a b).toNat = (if sv a.toNat + sv b.toNat = 0 then ng a.toNat && ng b.toNat else decide (sv a.toNat + sv b.toNat < 0)) := by
  rw [ffin_rg _ h0] at ha
  rw [ffin_rg _ g0] at hb
  rw [ffin_rg _ (fadd_lo a b).1] at hz
  have hr := add_fin a.toNat b.toNat (by simpa using ha) (by simpa using hb)
  have e : (fadd a b).toNat = wd (if sv a.toNat + sv b.toNat = 0 then ng a.toNat && ng b.toNat else decide (sv a.toNat + sv b.toNat < 0)) (R (sv a.toNat + sv b.toNat).natAbs) := by unfold fadd; rw [hr]; rfl
  rw [e] at hz ⊢
  obtain ⟨h1, h2, h3⟩ := wd_fin (of_decide_eq_true hz)
  have hn : Near 23 (sv a.toNat + sv b.toNat).natAbs 1 (rg (wd (if sv a.toNat + sv b.toNat = 0 then ng a.toNat && ng b.toNat else decide (sv a.toNat + sv b.toNat < 0)) (R (sv a.toNat + sv b.toNat).natAbs))) := by rw [h2]; exact near_R _
  exact ⟨cut_word (by decide) hn, hn, h3⟩

theorem div_cut (a b : Int) (ha : ffin a = true) (hb : ffin b = true) (h0 : 0 ≤ a) (g0 : 0 ≤ b) (ma : mg a.toNat ≠ 0) (mb : mg b.toNat ≠ 0) (hz : ffin (fdiv a b) = true) :
    Cut (mv a.toNat * 2 ^ 149) (mv b.toNat) (mg (fdiv a b).toNat) (te (fdiv a b).toNat) ∧ ng (fdiv a b).toNat = (ng a.toNat ^^ ng b.toNat) := by
  rw [ffin_rg _ h0] at ha
  rw [ffin_rg _ g0] at hb
  rw [ffin_rg _ (fdiv_lo a b).1] at hz
  obtain ⟨r, hr, hn⟩ := div_fin a.toNat b.toNat (by simpa using ha) (by simpa using hb) ma mb
  have e : (fdiv a b).toNat = wd (ng a.toNat ^^ ng b.toNat) r := by unfold fdiv; rw [hr]; rfl
  rw [e] at hz ⊢
  obtain ⟨h1, h2, h3⟩ := wd_fin (of_decide_eq_true hz)
  have hbp : 0 < mv b.toNat := by rw [mv_eq]; exact Nat.mul_pos (Nat.pos_of_ne_zero mb) (Nat.two_pow_pos _)
  exact ⟨cut_word hbp (by rw [h2]; exact hn), h3⟩

/-! The statements' own parts. -/
def pS (a : Int) (x : Int) : Int := if 2147483648 ≤ a then -x else x
def pM (a : Int) : Int := pS a (if 0 < a / 8388608 % 256 then a % 8388608 + 8388608 else a % 8388608)
def pE (a : Int) : Int := max (a / 8388608 % 256) 1 - 150
theorem pM_eq (a : Int) (h0 : 0 ≤ a) (h1 : a < 4294967296) : pM a = sg (ng a.toNat) (mg a.toNat) := by
  have hr := rg_toNat a h0
  unfold pM pS sg
  rw [ng_le' a h0 h1]
  have e : (if 0 < a / 8388608 % 256 then a % 8388608 + 8388608 else a % 8388608) = (mg a.toNat : Int) := by
    unfold mg
    by_cases c : 0 < a / 8388608 % 256
    · rw [if_pos c, if_neg (by omega)]; omega
    · rw [if_neg c, if_pos (by omega)]; omega
  rw [e]
  by_cases c : 2147483648 ≤ a
  · rw [if_pos c, if_pos (by simpa using c)]
  · rw [if_neg c, if_neg (by simpa using c)]
theorem pE_eq (a : Int) (h0 : 0 ≤ a) (h1 : a < 4294967296) : pE a = (te a.toNat : Int) - 149 := by
  have hr := rg_toNat a h0
  unfold pE te; omega
theorem pE_lo (a : Int) (h0 : 0 ≤ a) (h1 : a < 4294967296) : -149 ≤ pE a ∧ pE a ≤ 105 := by unfold pE; omega
theorem pM_lo (a : Int) (h0 : 0 ≤ a) (h1 : a < 4294967296) : -16777216 < pM a ∧ pM a < 16777216 := by
  unfold pM pS; split <;> split <;> omega
theorem sg_mul (s : Bool) (m n : Nat) : sg s (m * n) = sg s m * n := by
  unfold sg; cases s
  · simp
  · simp [Int.neg_mul]
theorem sv_parts (a : Int) (h0 : 0 ≤ a) (h1 : a < 4294967296) : sv a.toNat = pM a * 2 ^ te a.toNat := by
  rw [pM_eq a h0 h1]; unfold sv; rw [mv_eq, sg_mul, Int.natCast_pow]; rfl

/-- even: is m the whole number nearest to n / 2^d (of two the even one)? -/
def evenB (m n : Int) (d : Nat) : Bool := if d = 0 then decide (m = n) else
  decide ((n - m * 2 ^ d).natAbs < 2 ^ (d - 1)) || (decide ((n - m * 2 ^ d).natAbs = 2 ^ (d - 1)) && decide (m % 2 = 0))
theorem even_of_cut {X M d : Nat} (h : Cut X 1 M d) (s : Bool) : evenB (sg s M) (sg s X) d = true := by
  have up := h.up
  have ue := h.ue
  have dn := h.dn
  have de := h.de
  simp only [Nat.mul_one] at up ue dn de
  unfold evenB
  rcases Nat.eq_zero_or_pos d with c | c
  · subst c
    rw [if_pos rfl]
    simp only [Nat.pow_zero, Nat.mul_one] at up ue dn de
    have : X = M := by omega
    simp [this]
  · rw [if_neg (by omega)]
    have hG : 2 ^ d = 2 * 2 ^ (d - 1) := by
      obtain ⟨e, rfl⟩ : ∃ e, d = e + 1 := ⟨d - 1, by omega⟩
      rw [Nat.add_sub_cancel, Nat.pow_succ, Nat.mul_comm]
    have hcast : (2 : Int) ^ d = ((2 ^ d : Nat) : Int) := (Int.natCast_pow 2 d).symm
    have e1 : (sg s X - sg s M * 2 ^ d).natAbs = ((X : Int) - ((M * 2 ^ d : Nat) : Int)).natAbs := by
      rw [hcast]; unfold sg; cases s
      · simp
      · simp only [if_true]; rw [Int.neg_mul, Int.natCast_mul]; omega
    have e2 : sg s M % 2 = 0 ↔ M % 2 = 0 := by unfold sg; cases s <;> simp <;> omega
    rw [e1]
    have k1 : (2 * M + 1) * 2 ^ d = 2 * (M * 2 ^ d) + 2 ^ d := by rw [Nat.add_mul, Nat.mul_assoc, Nat.one_mul]
    have k2 : 2 * M * 2 ^ d = 2 * (M * 2 ^ d) := Nat.mul_assoc ..
    rw [k1] at up ue
    rw [k2] at dn de
    generalize M * 2 ^ d = Y at *
    rw [hG] at up ue dn de
    generalize 2 ^ (d - 1) = H at *
    simp only [Bool.or_eq_true, Bool.and_eq_true, decide_eq_true_eq, e2]
    omega

end Go.Proofs.Ytnogokikiekcbab
