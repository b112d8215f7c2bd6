import Derived.Test.YtjbcafkpcgehdaaSterbP
/- Products of numbers of 12 bits; the root of a square; whole numbers. -/
namespace Go.Proofs.Ytjbcafkpcgehdaa
open Go.RowKit
set_option linter.unusedVariables false

/-! Whole numbers. -/
theorem ffrom_lo' (n : Int) : 0 ≤ ffrom n := Int.natCast_nonneg _
theorem ffrom_sv (n : Int) (h : n.natAbs ≤ 16777216) : ffin (ffrom n) = true ∧ sv (ffrom n).toNat = n * 2 ^ 149 ∧ ng (ffrom n).toNat = decide (n < 0) := by
  have e : (ffrom n).toNat = wd (decide (n < 0)) (rungOf 23 (-149) n.natAbs (-149 + ((149 : Nat) : Int))) := by
    unfold ffrom; rw [Int.toNat_natCast, nearest_eq, single_fb, single_least, word_wd]; rfl
  rw [rungOf_R] at e
  obtain ⟨z, hz⟩ : ∃ z : Nat, z = 149 := ⟨_, rfl⟩
  rw [← hz] at e ⊢
  have hV : V 23 (R (n.natAbs * 2 ^ z)) = n.natAbs * 2 ^ z := by
    rcases Nat.lt_or_ge n.natAbs 16777216 with c | c
    · exact R_repr _ _ _ c rfl
    · have : n.natAbs = 16777216 := by omega
      exact R_repr _ 8388608 (z + 1) (by decide) (by rw [this, Nat.pow_succ]; omega)
  have hlt : R (n.natAbs * 2 ^ z) < 2139095040 := by
    rw [← V_lt_iff 23, hV]
    have h1 : n.natAbs * 2 ^ z ≤ 16777216 * 2 ^ z := Nat.mul_le_mul_right _ h
    have h2 := V_big 23 200 2139095040 (by decide)
    have h3 : 16777216 * 2 ^ z < 2 ^ (23 + 200) := by
      rw [show 16777216 = 2 ^ 24 from rfl, ← Nat.pow_add]; exact Nat.pow_lt_pow_right (by decide) (by omega)
    exact Nat.lt_of_le_of_lt h1 (Nat.lt_of_lt_of_le h3 h2)
  have hl := ffrom_lo' n
  refine ⟨?_, ?_, ?_⟩
  · rw [ffin_rg _ hl, e, rg_wd]; simp; omega
  · rw [e, sv_wd, Nat.min_eq_left (by omega), hV, sg_mul]
    have : sg (decide (n < 0)) n.natAbs = n := by
      unfold sg; by_cases c : n < 0
      · rw [if_pos (by simpa using c)]; omega
      · rw [if_neg (by simpa using c)]; omega
    rw [this, Int.natCast_pow]; rfl
  · rw [e, ng_wd]

theorem ffrom_add (p q : Int) (hp : p.natAbs ≤ 4096) (hq : q.natAbs ≤ 4096) : ffrom (p + q) = fadd (ffrom p) (ffrom q) := by
  obtain ⟨f1, s1, n1⟩ := ffrom_sv p (by omega)
  obtain ⟨f2, s2, n2⟩ := ffrom_sv q (by omega)
  obtain ⟨f3, s3, n3⟩ := ffrom_sv (p + q) (by omega)
  have lp := ffrom_lo' p
  have lq := ffrom_lo' q
  have hT : sv (ffrom p).toNat + sv (ffrom q).toNat = (p + q) * 2 ^ 149 := by rw [s1, s2, Int.add_mul]
  have hTa : (sv (ffrom p).toNat + sv (ffrom q).toNat).natAbs = (p + q).natAbs * 2 ^ 149 := by
    rw [hT, Int.natAbs_mul, Int.natAbs_pow]; rfl
  have hlt : (sv (ffrom p).toNat + sv (ffrom q).toNat).natAbs < V 23 2139095040 := by
    rw [hT, ← s3]
    have h3 : rg (ffrom (p + q)).toNat < 2139095040 := by rw [ffin_rg _ (ffrom_lo' _)] at f3; simpa using f3
    have := mv_fin h3
    unfold sv sg; split <;> omega
  obtain ⟨k1, k2⟩ := add_exact (ffrom p) (ffrom q) lp lq f1 f2 (R_repr _ _ _ (by omega) hTa) hlt
  obtain ⟨-, -, k3⟩ := add_cut (ffrom p) (ffrom q) f1 f2 lp lq k1
  rw [hT, ← s3] at k2
  have hl := fadd_lo (ffrom p) (ffrom q)
  have hl3 : ffrom (p + q) < 4294967296 := by
    unfold ffrom; exact Int.ofNat_lt.2 (Ieee.single.write_lt (.number (decide (p + q < 0)) (p + q).natAbs 0))
  obtain ⟨e1, e2⟩ := sv_inj k2.symm
  refine pat_ext (ffrom_lo' _) hl3 hl.1 hl.2 e1 ?_
  rcases e2 with e2 | e2
  · exact e2
  · have hz : p + q = 0 := by
      have h0 : sv (ffrom (p + q)).toNat = 0 := by unfold sv mv; rw [e2, V_zero]; simp [sg]
      rw [s3] at h0
      rcases Int.mul_eq_zero.1 h0 with h0 | h0
      · exact h0
      · exact absurd h0 (by have : (0 : Int) < 2 ^ 149 := Int.pow_pos (by decide); omega)
    rw [k3, n3, hT, hz, Int.zero_mul, if_pos rfl, n1, n2]
    simp; omega

theorem ffrom_mul (p q : Int) (hp : p.natAbs ≤ 4096) (hq : q.natAbs ≤ 4096) : ffrom (p * q) = if fmul (ffrom p) (ffrom q) = 2147483648 then 0 else fmul (ffrom p) (ffrom q) := by
  obtain ⟨f1, s1, n1⟩ := ffrom_sv p (by omega)
  obtain ⟨f2, s2, n2⟩ := ffrom_sv q (by omega)
  have hpq : (p * q).natAbs ≤ 16777216 := by rw [Int.natAbs_mul]; exact Nat.mul_le_mul hp hq
  rw [ffin_rg _ (ffrom_lo' _)] at f1 f2
  obtain ⟨r, hr, hn⟩ := mul_fin (ffrom p).toNat (ffrom q).toNat (by simpa using f1) (by simpa using f2)
  have m1 : mv (ffrom p).toNat = p.natAbs * 2 ^ 149 := by
    have : (sv (ffrom p).toNat).natAbs = mv (ffrom p).toNat := by unfold sv sg; split <;> omega
    rw [← this, s1, Int.natAbs_mul, Int.natAbs_pow]; rfl
  have m2 : mv (ffrom q).toNat = q.natAbs * 2 ^ 149 := by
    have : (sv (ffrom q).toNat).natAbs = mv (ffrom q).toNat := by unfold sv sg; split <;> omega
    rw [← this, s2, Int.natAbs_mul, Int.natAbs_pow]; rfl
  have e : ffrom (p * q) = (wd (decide (p * q < 0)) (R ((p * q).natAbs * 2 ^ 149)) : Nat) := by
    unfold ffrom; rw [nearest_eq, single_fb, single_least, word_wd]
    have := rungOf_R (p * q).natAbs 149
    rw [show -149 + ((149 : Nat) : Int) = 0 from rfl] at this
    rw [this]
  have hz : (2 : Nat) ^ 149 = 2 ^ 149 := rfl
  generalize hZ : (2 : Nat) ^ 149 = Z at *
  have hZp : 0 < Z := by rw [← hZ]; exact Nat.two_pow_pos _
  have hrR : r = R ((p * q).natAbs * Z) := by
    have hV : V 23 (R ((p * q).natAbs * Z)) = (p * q).natAbs * Z := by
      rw [← hZ]
      rcases Nat.lt_or_ge (p * q).natAbs 16777216 with c | c
      · exact R_repr _ _ _ c rfl
      · have : (p * q).natAbs = 16777216 := by omega
        exact R_repr _ 8388608 150 (by decide) (by rw [this, Nat.pow_succ 2 149])
    have h2 := near_exact 23 (R ((p * q).natAbs * Z)) Z hZp
    rw [hV] at h2
    refine hn.unique h2 hZp hZp ?_
    rw [m1, m2, Int.natAbs_mul]; grind
  have e2 : fmul (ffrom p) (ffrom q) = (wd (ng (ffrom p).toNat ^^ ng (ffrom q).toNat) r : Nat) := by unfold fmul; rw [hr]; rfl
  rw [e, e2, n1, n2, hrR]
  by_cases hpz : p = 0
  · subst hpz
    have : R (((0 : Int) * q).natAbs * Z) = 0 := by rw [Int.zero_mul]; simp [R, rungOf]
    rw [this, Int.zero_mul]
    by_cases c : q < 0 <;> simp [c, wd]
  · by_cases hqz : q = 0
    · subst hqz
      have : R ((p * 0).natAbs * Z) = 0 := by rw [Int.mul_zero]; simp [R, rungOf]
      rw [this, Int.mul_zero]
      by_cases c : p < 0 <;> simp [c, wd]
    · have hne : (p * q).natAbs ≠ 0 := by rw [Int.natAbs_mul]; exact Nat.mul_ne_zero (by omega) (by omega)
      have hR0 : R ((p * q).natAbs * Z) ≠ 0 := by
        intro c
        have hV : V 23 (R ((p * q).natAbs * Z)) = (p * q).natAbs * Z := by
          rw [← hZ]
          rcases Nat.lt_or_ge (p * q).natAbs 16777216 with c | c
          · exact R_repr _ _ _ c rfl
          · have : (p * q).natAbs = 16777216 := by omega
            exact R_repr _ 8388608 150 (by decide) (by rw [this, Nat.pow_succ 2 149])
        rw [c, V_zero] at hV
        exact absurd hV.symm (Nat.mul_ne_zero hne (by omega))
      have hsg : (decide (p < 0) ^^ decide (q < 0)) = decide (p * q < 0) := by
        by_cases c1 : p < 0 <;> by_cases c2 : q < 0 <;> simp only [c1, c2, decide_true, decide_false]
        · have : ¬ (p * q < 0) := Int.not_lt.2 (Int.le_of_lt (Int.mul_pos_of_neg_of_neg c1 c2)); simp [this]
        · have : p * q < 0 := Int.mul_neg_of_neg_of_pos c1 (by omega); simp [this]
        · have : p * q < 0 := Int.mul_neg_of_pos_of_neg (by omega) c2; simp [this]
        · have : ¬ (p * q < 0) := Int.not_lt.2 (Int.mul_nonneg (by omega) (by omega)); simp [this]
      rw [hsg, if_neg]
      unfold wd; split <;> omega

/-! The root of a square. -/
theorem sq_root (M t ry : Nat) (hM : 8388608 ≤ M) (hM2 : M < 16777216) (ht : 66 ≤ t) (D z : Nat) (hz : z = 149) (hD : D = 2 ^ z) (h : Near 23 (M * 2 ^ t * (M * 2 ^ t)) D ry) : RNear 23 (V 23 ry * D) (t * 2 ^ 23 + M) := by
  have hDp : 0 < D := by rw [hD]; exact Nat.two_pow_pos _
  have v0 : V 23 (t * 2 ^ 23 + M) = M * 2 ^ t := V_at 23 t M (by omega) (Or.inr hM)
  have v1 : V 23 (t * 2 ^ 23 + M + 1) = (M + 1) * 2 ^ t := by rw [Nat.add_assoc]; exact V_at 23 t (M + 1) (by omega) (Or.inr (by omega))
  obtain ⟨P, hP⟩ : ∃ P, 2 ^ t * 2 ^ t = P := ⟨_, rfl⟩
  have hPp : 0 < P := by rw [← hP]; exact Nat.mul_pos (Nat.two_pow_pos _) (Nat.two_pow_pos _)
  have hC : M * 2 ^ t * (M * 2 ^ t) = M * M * P := by rw [← hP]; exact Nat.mul_mul_mul_comm ..
  have cu : (V 23 (t * 2 ^ 23 + M) + V 23 (t * 2 ^ 23 + M + 1)) * (V 23 (t * 2 ^ 23 + M) + V 23 (t * 2 ^ 23 + M + 1)) = 4 * (M * M * P) + (4 * M + 1) * P := by
    rw [v0, v1, ← Nat.add_mul, Nat.mul_mul_mul_comm, hP]; grind
  by_cases hpow : M = 8388608
  · -- a power of two: its square is a number
    obtain ⟨tM, kM, hV, -, -, -⟩ := rung_exact 23 8388608 (t + t + 23 - z) (by decide)
    have hex : V 23 (tM * 2 ^ 23 + kM) * D = M * 2 ^ t * (M * 2 ^ t) := by
      have e1 : 2 ^ (t + t + 23 - z) * D = 2 ^ t * 2 ^ t * 8388608 := by
        rw [hD, ← Nat.pow_add, show t + t + 23 - z + z = t + t + 23 by omega, Nat.pow_add, Nat.pow_add]
      rw [hV, Nat.mul_assoc, e1, hpow]
      ac_rfl
    have h2 := near_exact 23 (tM * 2 ^ 23 + kM) D hDp
    rw [hex] at h2
    have er := h.unique h2 hDp hDp rfl
    rw [er, hex]
    have hlow : ∀ q, t * 2 ^ 23 + M = q + 1 → V 23 q < M * 2 ^ t := by
      intro q hq; rw [← v0]; exact V_lt 23 (by omega)
    refine ⟨?_, ?_, ?_, ?_⟩
    · show ¬ (_ < _); rw [cu, hC]; have : 0 < (4 * M + 1) * P := Nat.mul_pos (by omega) hPp; omega
    · intro k; exfalso
      have k' : (V 23 (t * 2 ^ 23 + M) + V 23 (t * 2 ^ 23 + M + 1)) * (V 23 (t * 2 ^ 23 + M) + V 23 (t * 2 ^ 23 + M + 1)) ≤ 4 * (M * 2 ^ t * (M * 2 ^ t)) := k
      rw [cu, hC] at k'; have : 0 < (4 * M + 1) * P := Nat.mul_pos (by omega) hPp; omega
    · intro q hq
      show (V 23 q + V 23 (t * 2 ^ 23 + M)) * (V 23 q + V 23 (t * 2 ^ 23 + M)) ≤ 4 * (M * 2 ^ t * (M * 2 ^ t))
      have h3 := hlow q hq
      have h4 := Nat.mul_self_le_mul_self (show V 23 q + V 23 (t * 2 ^ 23 + M) ≤ 2 * (M * 2 ^ t) by rw [v0]; omega)
      have h5 : 2 * (M * 2 ^ t) * (2 * (M * 2 ^ t)) = 4 * (M * 2 ^ t * (M * 2 ^ t)) := by grind
      omega
    · intro q hq k; exfalso
      apply k
      show (V 23 q + V 23 (t * 2 ^ 23 + M)) * (V 23 q + V 23 (t * 2 ^ 23 + M)) < 4 * (M * 2 ^ t * (M * 2 ^ t))
      have h3 := hlow q hq
      have h4 := Nat.mul_self_lt_mul_self (show V 23 q + V 23 (t * 2 ^ 23 + M) < 2 * (M * 2 ^ t) by rw [v0]; omega)
      have h5 : 2 * (M * 2 ^ t) * (2 * (M * 2 ^ t)) = 4 * (M * 2 ^ t * (M * 2 ^ t)) := by grind
      omega
  · -- the square's digits
    obtain ⟨ty, My, hsp, hMy, hMyt, -⟩ := rung_split 23 ry
    rw [hsp] at h ⊢
    have hc := h.cut (by decide) hMy hMyt hDp
    have vy : V 23 (ty * 2 ^ 23 + My) = My * 2 ^ ty := V_at 23 ty My (by omega) hMyt
    have up := hc.up
    have dn := hc.dn
    rw [hC] at up dn
    obtain ⟨g, hg⟩ : ∃ g, 2 ^ ty * D = g := ⟨_, rfl⟩
    rw [Nat.mul_assoc (2 * My + 1), hg] at up
    rw [Nat.mul_assoc (2 * My), hg] at dn
    rw [vy, Nat.mul_assoc, hg]
    have hgp : 0 < g := by rw [← hg]; exact Nat.mul_pos (Nat.two_pow_pos _) hDp
    have hMyge : 8388608 ≤ My := by
      rcases hMyt with c | c
      · exfalso
        rw [c, Nat.pow_zero, Nat.one_mul] at hg
        rw [← hg] at up
        have h1 : (2 * My + 1) * D ≤ 33554432 * D := Nat.mul_le_mul_right _ (by omega)
        have h2 : 2 ^ 132 ≤ P := by rw [← hP, ← Nat.pow_add]; exact Nat.pow_le_pow_right (by decide) (by omega)
        have h3 : 70368744177664 * 2 ^ 132 ≤ M * M * P := Nat.mul_le_mul (Nat.mul_self_le_mul_self hM) h2
        have h4 : 33554432 * 2 ^ 149 < 2 * (70368744177664 * 2 ^ 132) := by decide
        rw [← hz, ← hD] at h4
        omega
      · exact c
    have hMM : M * M ≤ 16777215 * M := Nat.mul_le_mul_right _ (by omega)
    have k1 : (2 * My + 1) * g = 2 * (My * g) + g := by rw [Nat.add_mul, Nat.mul_assoc, Nat.one_mul]
    have k2 : 2 * My * g = 2 * (My * g) := Nat.mul_assoc ..
    rw [k1] at up
    rw [k2] at dn
    have hY : 8388608 * g ≤ My * g := Nat.mul_le_mul_right _ hMyge
    have hMP : M * M * P ≤ 16777215 * (M * P) := by
      have := Nat.mul_le_mul_right P hMM; rw [Nat.mul_assoc 16777215] at this; exact this
    have e4 : (4 * M + 1) * P = 4 * (M * P) + P := by rw [Nat.add_mul, Nat.mul_assoc, Nat.one_mul]
    have hMP8 : 8388608 * P ≤ M * P := Nat.mul_le_mul_right _ hM
    obtain ⟨q0, hq0⟩ : ∃ q0, t * 2 ^ 23 + M = q0 + 1 := ⟨t * 2 ^ 23 + M - 1, by omega⟩
    have vq : V 23 q0 = (M - 1) * 2 ^ t := by
      rw [show q0 = t * 2 ^ 23 + (M - 1) by omega]; exact V_at 23 t (M - 1) (by omega) (Or.inr (by omega))
    have cl : (V 23 q0 + V 23 (t * 2 ^ 23 + M)) * (V 23 q0 + V 23 (t * 2 ^ 23 + M)) + (4 * (M * P) - P) = 4 * (M * M * P) := by
      obtain ⟨m, rfl⟩ : ∃ m, M = m + 1 := ⟨M - 1, by omega⟩
      rw [v0, vq, Nat.add_sub_cancel, ← Nat.add_mul, Nat.mul_mul_mul_comm, hP]
      have : P ≤ 4 * ((m + 1) * P) := by
        have := Nat.le_mul_of_pos_left P (show 0 < m + 1 by omega); omega
      have e : (m + (m + 1)) * (m + (m + 1)) * P + 4 * ((m + 1) * P) = 4 * ((m + 1) * (m + 1) * P) + P := by grind
      omega
    have lowlt : 4 * (M * M * P) < 4 * (My * g) + (4 * (M * P) - P) := by
      generalize M * M * P = X at *
      generalize M * P = W at *
      generalize My * g = Y at *
      omega
    have uplt : 4 * (My * g) < 4 * (M * M * P) + (4 * (M * P) + P) := by
      generalize M * M * P = X at *
      generalize M * P = W at *
      generalize My * g = Y at *
      omega
    refine ⟨?_, ?_, ?_, ?_⟩
    · show ¬ (_ < _); rw [cu, e4]; omega
    · intro k; exfalso
      have k' : (V 23 (t * 2 ^ 23 + M) + V 23 (t * 2 ^ 23 + M + 1)) * (V 23 (t * 2 ^ 23 + M) + V 23 (t * 2 ^ 23 + M + 1)) ≤ 4 * (My * g) := k
      rw [cu, e4] at k'; omega
    · intro q hq
      have : q = q0 := by omega
      subst this
      show (V 23 q + V 23 (t * 2 ^ 23 + M)) * (V 23 q + V 23 (t * 2 ^ 23 + M)) ≤ 4 * (My * g)
      omega
    · intro q hq k; exfalso
      have : q = q0 := by omega
      subst this
      apply k
      show (V 23 q + V 23 (t * 2 ^ 23 + M)) * (V 23 q + V 23 (t * 2 ^ 23 + M)) < 4 * (My * g)
      omega

end Go.Proofs.Ytjbcafkpcgehdaa
