import Derived.Test.YtnogokikiekcbabSterbP
import Derived.Test.YtnogokikiekcbabFloatRoot
/- Sums, products by what is above 0, roots keep the order. -/
namespace Go.Proofs.Ytnogokikiekcbab
open Go.RowKit
set_option linter.unusedVariables false

/-- A number rounded, with its sign. -/
theorem clamp_mono {r r' : Nat} (h : r ≤ r') : V 23 (min r 2139095040) ≤ V 23 (min r' 2139095040) := V_le 23 (by omega)

/-- Values of signed rungs keep the order of what was rounded: X, Y are told by sign and size. -/
theorem sgd_mono (s s' : Bool) (n n' r r' : Nat) (hm : n ≤ n' → r ≤ r') (hm' : n' ≤ n → r' ≤ r) (h : sg s n ≤ sg s' n') (hz : n = 0 → r = 0) (hz' : n' = 0 → r' = 0) :
    sg s (V 23 (min r 2139095040)) ≤ sg s' (V 23 (min r' 2139095040)) := by
  cases s <;> cases s' <;> simp only [sg, if_true, if_false, Bool.false_eq_true] at h ⊢
  · have := clamp_mono (hm (by omega)); omega
  · have h1 : n = 0 := by omega
    have h2 : n' = 0 := by omega
    rw [hz h1, hz' h2]; simp [V_zero]
  · omega
  · have := clamp_mono (hm' (by omega)); omega

theorem R_zero : R 0 = 0 := by simp [R, rungOf]

/-- The three kinds of patterns. -/
theorem kinds (a : Int) (h0 : 0 ≤ a) : nan a = true ∨ ffin a = true ∨ (nan a = false ∧ rg a.toNat = 2139095040) := by
  rw [nan_rg a h0, ffin_rg a h0]; simp only [decide_eq_true_eq, decide_eq_false_iff_not]; omega

theorem add_sv (a b : Int) (h0 : 0 ≤ a) (g0 : 0 ≤ b) (ha : ffin a = true) (hb : ffin b = true) :
    sv (fadd a b).toNat = sg (if sv a.toNat + sv b.toNat = 0 then ng a.toNat && ng b.toNat else decide (sv a.toNat + sv b.toNat < 0)) (V 23 (min (R (sv a.toNat + sv b.toNat).natAbs) 2139095040)) := by
  rw [ffin_rg _ h0] at ha
  rw [ffin_rg _ g0] at hb
  have hr := add_fin a.toNat b.toNat (by simpa using ha) (by simpa using hb)
  have e : (fadd a b).toNat = wd (if sv a.toNat + sv b.toNat = 0 then ng a.toNat && ng b.toNat else decide (sv a.toNat + sv b.toNat < 0)) (R (sv a.toNat + sv b.toNat).natAbs) := by unfold fadd; rw [hr]; rfl
  rw [e, sv_wd]

theorem sg_nat (T : Int) (s : Bool) : sg (if T = 0 then s else decide (T < 0)) T.natAbs = T := by
  by_cases c : T = 0
  · subst c; simp [sg]
  · rw [if_neg c]; unfold sg
    by_cases d : T < 0
    · rw [if_pos (by simpa using d)]; omega
    · rw [if_neg (by simpa using d)]; omega

/-- Sums of what is infinite. -/
theorem add_inf (a b : Int) (h0 : 0 ≤ a) (g0 : 0 ≤ b) (ia : rg a.toNat = 2139095040) (hb : rg b.toNat < 2139095040 ∨ (rg b.toNat = 2139095040 ∧ ng a.toNat = ng b.toNat)) : sv (fadd a b).toNat = sv a.toNat := by
  have e : (fadd a b).toNat = wd (ng a.toNat) 2139095040 := by
    unfold fadd Ieee.Format.add
    rw [read_inf _ ia]
    rcases hb with hb | ⟨hb, hs⟩
    · rw [read_fin _ hb]; rfl
    · rw [read_inf _ hb, hs]; simp only [Ieee.Datum.sum, if_true]; rfl
  rw [e, sv_wd]; unfold sv mv; rw [ia]; rfl
theorem add_inf_nan (a b : Int) (ia : rg a.toNat = 2139095040) (ib : rg b.toNat = 2139095040) (hs : ng a.toNat ≠ ng b.toNat) : nan (fadd a b) = true := by
  have e : fadd a b = 2143289344 := by
    unfold fadd Ieee.Format.add
    rw [read_inf _ ia, read_inf _ ib]; simp only [Ieee.Datum.sum, if_neg hs]; rfl
  rw [e]; decide
theorem add_nan (a b : Int) (h0 : 0 ≤ a) (hn : nan a = true) : nan (fadd b a) = true := by
  rw [nan_rg a h0] at hn
  have e : fadd b a = 2143289344 := by
    unfold fadd Ieee.Format.add
    rw [read_nan _ (of_decide_eq_true hn)]; cases Ieee.single.read b.toNat <;> rfl
  rw [e]; decide
theorem sv_le_inf (a : Int) (h0 : 0 ≤ a) (hn : nan a = false) : -(V 23 2139095040 : Int) ≤ sv a.toNat ∧ sv a.toNat ≤ (V 23 2139095040 : Int) := by
  rw [nan_rg a h0] at hn
  have : mv a.toNat ≤ V 23 2139095040 := V_le 23 (by simpa using hn)
  unfold sv sg; split <;> omega

theorem add_keeps (a b c : Int) (h0 : 0 ≤ a) (g0 : 0 ≤ b) (e0 : 0 ≤ c) (na : nan a = false) (nb : nan b = false) (hle : sv a.toNat ≤ sv b.toNat) (nx : nan (fadd a c) = false) (ny : nan (fadd b c) = false) : sv (fadd a c).toNat ≤ sv (fadd b c).toNat := by
  have svi : ∀ z : Int, rg z.toNat = 2139095040 → sv z.toNat = sg (ng z.toNat) (V 23 2139095040) := by
    intro z hz; unfold sv mv; rw [hz]
  rcases kinds c e0 with kc | kc | ⟨kc, ic⟩
  · exact absurd (add_nan c a e0 kc) (by rw [nx]; decide)
  · have rc : rg c.toNat < 2139095040 := by rw [ffin_rg c e0] at kc; simpa using kc
    rcases kinds a h0 with ka | ka | ⟨ka, ia⟩
    · rw [na] at ka; cases ka
    · rcases kinds b g0 with kb | kb | ⟨kb, ib⟩
      · rw [nb] at kb; cases kb
      · rw [add_sv a c h0 e0 ka kc, add_sv b c g0 e0 kb kc]
        apply sgd_mono (n := (sv a.toNat + sv c.toNat).natAbs) (n' := (sv b.toNat + sv c.toNat).natAbs)
        · intro q; exact (near_R _).mono (near_R _) (by decide) (by decide) (by omega)
        · intro q; exact (near_R _).mono (near_R _) (by decide) (by decide) (by omega)
        · rw [sg_nat, sg_nat]; omega
        · intro q; rw [q]; exact R_zero
        · intro q; rw [q]; exact R_zero
      · rw [add_inf b c g0 e0 ib (Or.inl rc)]
        have hb := sv_le_inf (fadd a c) (fadd_lo a c).1 nx
        have ha := sv_le_inf a h0 na
        have hai : -(V 23 2139095040 : Int) < sv a.toNat := (sv_fin (by rw [ffin_rg a h0] at ka; simpa using ka)).1
        rw [svi b ib] at hle ⊢
        cases hs : ng b.toNat <;> rw [hs] at hle <;> simp only [sg, if_true, if_false, Bool.false_eq_true] at hle ⊢ <;> omega
    · rw [add_inf a c h0 e0 ia (Or.inl rc)]
      rcases kinds b g0 with kb | kb | ⟨kb, ib⟩
      · rw [nb] at kb; cases kb
      · have hb := sv_le_inf (fadd b c) (fadd_lo b c).1 ny
        have hbi : sv b.toNat < (V 23 2139095040 : Int) := (sv_fin (by rw [ffin_rg b g0] at kb; simpa using kb)).2
        rw [svi a ia] at hle ⊢
        cases hs : ng a.toNat <;> rw [hs] at hle <;> simp only [sg, if_true, if_false, Bool.false_eq_true] at hle ⊢ <;> omega
      · rw [add_inf b c g0 e0 ib (Or.inl rc)]; exact hle
  · have hcc : ∀ z : Int, 0 ≤ z → nan z = false → nan (fadd z c) = false → sv (fadd z c).toNat = sv c.toNat := by
      intro z hz nz nzc
      rw [fadd_comm]
      rcases kinds z hz with k | k | ⟨k, i⟩
      · rw [nz] at k; cases k
      · exact add_inf c z e0 hz ic (Or.inl (by rw [ffin_rg z hz] at k; simpa using k))
      · by_cases hs : ng c.toNat = ng z.toNat
        · exact add_inf c z e0 hz ic (Or.inr ⟨i, hs⟩)
        · have := add_inf_nan c z ic i hs
          rw [fadd_comm, nzc] at this; cases this
    rw [hcc a h0 na nx, hcc b g0 nb ny]; exact Int.le_refl _

/-! Products. -/
theorem near_zero_r {r d : Nat} (hd : 0 < d) (h : Near 23 0 d r) : r = 0 := by
  have h2 := near_exact 23 0 d hd
  rw [V_zero, Nat.zero_mul] at h2
  exact h.unique h2 hd hd rfl
theorem mul_sv (a c : Int) (h0 : 0 ≤ a) (e0 : 0 ≤ c) (ha : ffin a = true) (hc : ffin c = true) (hs : ng c.toNat = false) :
    ∃ r, sv (fmul a c).toNat = sg (ng a.toNat) (V 23 (min r 2139095040)) ∧ Near 23 (mv a.toNat * mv c.toNat) (2 ^ 149) r := by
  rw [ffin_rg _ h0] at ha
  rw [ffin_rg _ e0] at hc
  obtain ⟨r, hr, hn⟩ := mul_fin a.toNat c.toNat (by simpa using ha) (by simpa using hc)
  have e : (fmul a c).toNat = wd (ng a.toNat ^^ ng c.toNat) r := by unfold fmul; rw [hr]; rfl
  rw [hs, Bool.xor_false] at e
  exact ⟨r, by rw [e, sv_wd], hn⟩
theorem mul_inf (a c : Int) (ia : rg a.toNat = 2139095040) (hc : rg c.toNat ≤ 2139095040) (c0 : mg c.toNat ≠ 0 ∨ rg c.toNat = 2139095040) (hs : ng c.toNat = false) : sv (fmul a c).toNat = sg (ng a.toNat) (V 23 2139095040) := by
  have e : (fmul a c).toNat = wd (ng a.toNat) 2139095040 := by
    unfold fmul Ieee.Format.mul
    rw [read_inf _ ia]
    rcases Nat.lt_or_eq_of_le hc with k | k
    · rw [read_fin _ k, hs]
      have : mg c.toNat ≠ 0 := by rcases c0 with q | q; exact q; omega
      simp only [Ieee.Datum.product, if_neg this, Bool.xor_false]; rfl
    · rw [read_inf _ k, hs]; simp only [Ieee.Datum.product, Bool.xor_false]; rfl
  rw [e, sv_wd]; rfl
theorem mul_by_inf (a c : Int) (fa : rg a.toNat < 2139095040) (ic : rg c.toNat = 2139095040) (hs : ng c.toNat = false) : (mg a.toNat = 0 ∧ nan (fmul a c) = true) ∨ (mg a.toNat ≠ 0 ∧ sv (fmul a c).toNat = sg (ng a.toNat) (V 23 2139095040)) := by
  by_cases m0 : mg a.toNat = 0
  · left
    refine ⟨m0, ?_⟩
    have e : fmul a c = 2143289344 := by
      unfold fmul Ieee.Format.mul
      rw [read_inf _ ic, read_fin _ fa, m0]; rfl
    rw [e]; decide
  · right
    refine ⟨m0, ?_⟩
    have e : (fmul a c).toNat = wd (ng a.toNat) 2139095040 := by
      unfold fmul Ieee.Format.mul
      rw [read_inf _ ic, read_fin _ fa, hs]
      simp only [Ieee.Datum.product, if_neg m0, Bool.false_xor]; rfl
    rw [e, sv_wd]; rfl

theorem mul_keeps (a b c : Int) (h0 : 0 ≤ a) (g0 : 0 ≤ b) (e0 : 0 ≤ c) (na : nan a = false) (nb : nan b = false) (nc : nan c = false) (hle : sv a.toNat ≤ sv b.toNat) (hs : ng c.toNat = false) (hc : 0 < sv c.toNat) (nx : nan (fmul a c) = false) (ny : nan (fmul b c) = false) : sv (fmul a c).toNat ≤ sv (fmul b c).toNat := by
  have svi : ∀ z : Int, rg z.toNat = 2139095040 → sv z.toNat = sg (ng z.toNat) (V 23 2139095040) := by
    intro z hz; unfold sv mv; rw [hz]
  have bx := sv_le_inf (fmul a c) (fmul_lo a c).1 nx
  have bd := sv_le_inf (fmul b c) (fmul_lo b c).1 ny
  have hmc : 0 < mv c.toNat := by unfold sv at hc; rw [hs] at hc; simp only [sg, if_false, Bool.false_eq_true] at hc; omega
  have mg0 : ∀ z : Nat, mg z = 0 → mv z = 0 := by intro z hz; rw [mv_eq, hz, Nat.zero_mul]
  have hmg : mg c.toNat ≠ 0 := fun q => by have := mg0 _ q; omega
  have hrc : rg c.toNat ≤ 2139095040 := by rw [nan_rg c e0] at nc; simpa using nc
  rcases kinds c e0 with kc | kc | ⟨kc, ic⟩
  · rw [nc] at kc; cases kc
  · rcases kinds a h0 with ka | ka | ⟨ka, ia⟩
    · rw [na] at ka; cases ka
    · rcases kinds b g0 with kb | kb | ⟨kb, ib⟩
      · rw [nb] at kb; cases kb
      · obtain ⟨r, e1, n1⟩ := mul_sv a c h0 e0 ka kc hs
        obtain ⟨r', e2, n2⟩ := mul_sv b c g0 e0 kb kc hs
        rw [e1, e2]
        have hD : 0 < 2 ^ 149 := Nat.two_pow_pos 149
        apply sgd_mono (n := mv a.toNat * mv c.toNat) (n' := mv b.toNat * mv c.toNat)
        · intro q; exact n1.mono n2 hD hD (Nat.mul_le_mul_right _ q)
        · intro q; exact n2.mono n1 hD hD (Nat.mul_le_mul_right _ q)
        · rw [sg_mul, sg_mul]; exact Int.mul_le_mul_of_nonneg_right hle (by omega)
        · intro q; rw [q] at n1; exact near_zero_r hD n1
        · intro q; rw [q] at n2; exact near_zero_r hD n2
      · rw [mul_inf b c ib hrc (Or.inl hmg) hs]
        have hai : -(V 23 2139095040 : Int) < sv a.toNat := (sv_fin (by rw [ffin_rg a h0] at ka; simpa using ka)).1
        rw [svi b ib] at hle
        cases q : ng b.toNat <;> rw [q] at hle <;> simp only [sg, if_true, if_false, Bool.false_eq_true] at hle ⊢ <;> omega
    · rw [mul_inf a c ia hrc (Or.inl hmg) hs]
      rcases kinds b g0 with kb | kb | ⟨kb, ib⟩
      · rw [nb] at kb; cases kb
      · have hbi : sv b.toNat < (V 23 2139095040 : Int) := (sv_fin (by rw [ffin_rg b g0] at kb; simpa using kb)).2
        rw [svi a ia] at hle
        cases q : ng a.toNat <;> rw [q] at hle <;> simp only [sg, if_true, if_false, Bool.false_eq_true] at hle ⊢ <;> omega
      · rw [mul_inf b c ib hrc (Or.inl hmg) hs, ← svi a ia, ← svi b ib]; exact hle
  · have key : ∀ z : Int, 0 ≤ z → nan z = false → nan (fmul z c) = false → sv (fmul z c).toNat = sg (ng z.toNat) (V 23 2139095040) ∧ mv z.toNat ≠ 0 := by
      intro z hz nz nzc
      rcases kinds z hz with k | k | ⟨k, i⟩
      · rw [nz] at k; cases k
      · rw [ffin_rg z hz] at k
        rcases mul_by_inf z c (by simpa using k) ic hs with ⟨q1, q2⟩ | ⟨q1, q2⟩
        · rw [nzc] at q2; cases q2
        · refine ⟨q2, ?_⟩
          rw [mv_eq]; exact Nat.mul_ne_zero q1 (Nat.ne_of_gt (Nat.two_pow_pos _))
      · refine ⟨mul_inf z c i hrc (Or.inr ic) hs, ?_⟩
        unfold mv; rw [i]
        have := V_lt 23 (show 0 < 2139095040 by decide); omega
    obtain ⟨x1, x2⟩ := key a h0 na nx
    obtain ⟨y1, y2⟩ := key b g0 nb ny
    rw [x1, y1]
    unfold sv at hle
    cases q : ng a.toNat <;> cases q' : ng b.toNat <;> rw [q, q'] at hle <;> simp only [sg, if_true, if_false, Bool.false_eq_true] at hle ⊢ <;> omega

/-! Roots. -/
theorem sqrt_sv (a : Int) (h0 : 0 ≤ a) (na : nan a = false) (nx : nan (fsqrt a) = false) :
    (mv a.toNat = 0 ∧ sv (fsqrt a).toNat = 0) ∨ (0 < mv a.toNat ∧ ng a.toNat = false ∧ rg a.toNat < 2139095040 ∧ ∃ r, sv (fsqrt a).toNat = (V 23 (min r 2139095040) : Nat) ∧ RNear 23 (mv a.toNat * 2 ^ 149) r) ∨ (ng a.toNat = false ∧ rg a.toNat = 2139095040 ∧ sv (fsqrt a).toNat = (V 23 2139095040 : Nat)) := by
  rcases kinds a h0 with ka | ka | ⟨ka, ia⟩
  · rw [na] at ka; cases ka
  · rw [ffin_rg a h0] at ka
    have fa : rg a.toNat < 2139095040 := by simpa using ka
    by_cases m0 : mg a.toNat = 0
    · left
      have e : (fsqrt a).toNat = wd (ng a.toNat) 0 := by
        unfold fsqrt Ieee.Format.sqrt
        rw [read_fin _ fa, m0]; rfl
      refine ⟨by rw [mv_eq, m0, Nat.zero_mul], ?_⟩
      rw [e, sv_wd, Nat.zero_min, V_zero]; simp [sg]
    · cases hs : ng a.toNat
      · right; left
        obtain ⟨r, hr, hn⟩ := root_single a.toNat fa hs m0
        have e : (fsqrt a).toNat = wd false r := by unfold fsqrt; rw [hr]; rfl
        refine ⟨?_, rfl, fa, r, by rw [e, sv_wd]; rfl, hn⟩
        rw [mv_eq]; exact Nat.mul_pos (Nat.pos_of_ne_zero m0) (Nat.two_pow_pos _)
      · have e : fsqrt a = 2143289344 := by
          unfold fsqrt Ieee.Format.sqrt
          rw [read_fin _ fa, hs]; simp only [Ieee.Datum.root, if_neg m0, if_true]; rfl
        rw [e] at nx; exact absurd nx (by decide)
  · cases hs : ng a.toNat
    · right; right
      have e : (fsqrt a).toNat = wd false 2139095040 := by
        unfold fsqrt Ieee.Format.sqrt
        rw [read_inf _ ia, hs]; rfl
      exact ⟨rfl, ia, by rw [e, sv_wd]; rfl⟩
    · have e : fsqrt a = 2143289344 := by
        unfold fsqrt Ieee.Format.sqrt
        rw [read_inf _ ia, hs]; rfl
      rw [e] at nx; exact absurd nx (by decide)

theorem sqrt_keeps (a b : Int) (h0 : 0 ≤ a) (g0 : 0 ≤ b) (na : nan a = false) (nb : nan b = false) (hle : sv a.toNat ≤ sv b.toNat) (nx : nan (fsqrt a) = false) (ny : nan (fsqrt b) = false) : sv (fsqrt a).toNat ≤ sv (fsqrt b).toNat := by
  have by' := sv_le_inf (fsqrt b) (fsqrt_lo b).1 ny
  have bx' := sv_le_inf (fsqrt a) (fsqrt_lo a).1 nx
  have hV : 0 < V 23 2139095040 := by have := V_lt 23 (show 0 < 2139095040 by decide); omega
  rcases sqrt_sv a h0 na nx with ⟨a1, a2⟩ | ⟨a1, a2, a3, r, a4, a5⟩ | ⟨a1, a2, a3⟩
  · rcases sqrt_sv b g0 nb ny with ⟨b1, b2⟩ | ⟨b1, b2, b3, r', b4, b5⟩ | ⟨b1, b2, b3⟩ <;> omega
  · rcases sqrt_sv b g0 nb ny with ⟨b1, b2⟩ | ⟨b1, b2, b3, r', b4, b5⟩ | ⟨b1, b2, b3⟩
    · unfold sv sg at hle; rw [a2, b1] at hle; simp at hle; omega
    · rw [a4, b4]
      have hm : mv a.toNat ≤ mv b.toNat := by unfold sv at hle; rw [a2, b2] at hle; simp only [sg, if_false, Bool.false_eq_true] at hle; omega
      have := a5.mono b5 (Nat.mul_le_mul_right _ hm)
      have := clamp_mono this
      omega
    · omega
  · rcases sqrt_sv b g0 nb ny with ⟨b1, b2⟩ | ⟨b1, b2, b3, r', b4, b5⟩ | ⟨b1, b2, b3⟩
    · unfold sv mv sg at hle; rw [a1, a2] at hle; simp only [if_false, Bool.false_eq_true] at hle
      have : V 23 (rg b.toNat) = 0 := b1
      rw [this] at hle; simp at hle; omega
    · unfold sv mv sg at hle; rw [a1, a2, b2] at hle; simp only [if_false, Bool.false_eq_true] at hle
      have := V_lt 23 b3; omega
    · omega

def lst (a b : Int) : Bool := fless a b || feq a b
theorem lst_of (a b : Int) (h0 : 0 ≤ a) (g0 : 0 ≤ b) (na : nan a = false) (nb : nan b = false) (h : sv a.toNat ≤ sv b.toNat) : lst a b = true := by
  unfold lst
  rcases Int.lt_or_eq_of_le h with c | c
  · rw [(fless_iff a b h0 g0).2 ⟨na, nb, c⟩]; rfl
  · rw [(feq_iff a b h0 g0).2 ⟨na, nb, c⟩]; simp

end Go.Proofs.Ytnogokikiekcbab
