import Derived.Test.YtnogokikiekcbabRefOps
/- The order of the reference of layer 2. -/
namespace Go.Proofs.Ytnogokikiekcbab
open Go.RowKit
set_option linter.unusedVariables false

theorem key_cases (a : Int) (h0 : 0 ≤ a) (h1 : a < 4294967296) : (ng a.toNat = true ∧ key a = -1 - (rg a.toNat : Int) ∧ sv a.toNat = -(mv a.toNat : Int)) ∨ (ng a.toNat = false ∧ key a = (rg a.toNat : Int) ∧ sv a.toNat = (mv a.toNat : Int)) := by
  have hr := rg_toNat a h0
  rw [ng_le' a h0 h1]
  by_cases c : 2147483648 ≤ a
  · left
    refine ⟨by simpa using c, ?_, ?_⟩
    · unfold key; rw [if_pos c]; omega
    · unfold sv sg; rw [ng_le' a h0 h1, if_pos (by simpa using c)]
  · right
    refine ⟨by simpa using c, ?_, ?_⟩
    · unfold key; rw [if_neg c]; omega
    · unfold sv sg; rw [ng_le' a h0 h1, if_neg (by simpa using c)]
theorem mv_zero (x : Nat) : mv x = 0 ↔ rg x = 0 := by
  unfold mv
  constructor
  · intro h; rw [← V_zero 23] at h; exact V_inj 23 h
  · intro h; rw [h, V_zero]
theorem key_lt (a b : Int) (h0 : 0 ≤ a) (h1 : a < 4294967296) (g0 : 0 ≤ b) (g1 : b < 4294967296) : key a < key b ↔ (sv a.toNat < sv b.toNat ∨ (rg a.toNat = 0 ∧ rg b.toNat = 0 ∧ ng a.toNat = true ∧ ng b.toNat = false)) := by
  have ha := key_cases a h0 h1
  have hb := key_cases b g0 g1
  have m1 : mv a.toNat < mv b.toNat ↔ rg a.toNat < rg b.toNat := V_lt_iff 23 _ _
  have m2 : mv b.toNat < mv a.toNat ↔ rg b.toNat < rg a.toNat := V_lt_iff 23 _ _
  have z1 := mv_zero a.toNat
  have z2 := mv_zero b.toNat
  rcases ha with ⟨p, q, r⟩ | ⟨p, q, r⟩ <;> rcases hb with ⟨p', q', r'⟩ | ⟨p', q', r'⟩ <;> rw [p, q, r, p', q', r'] <;> simp only [Bool.false_eq_true, Bool.true_eq_false, and_false, or_false, and_true] <;> omega
theorem noughts (a b : Int) (h0 : 0 ≤ a) (h1 : a < 4294967296) (g0 : 0 ≤ b) (g1 : b < 4294967296) : sv a.toNat = sv b.toNat ↔ (a = b ∨ (a % 2147483648 = 0 ∧ b % 2147483648 = 0)) := by
  have hr := rg_toNat a h0
  have hs := rg_toNat b g0
  constructor
  · intro h
    obtain ⟨e, f⟩ := sv_inj h
    rcases f with f | f
    · exact Or.inl (pat_ext h0 h1 g0 g1 e f)
    · right; omega
  · rintro (h | ⟨h, k⟩)
    · rw [h]
    · have z1 := (mv_zero a.toNat).2 (by omega)
      have z2 := (mv_zero b.toNat).2 (by omega)
      unfold sv sg; rw [z1, z2]; simp
theorem fmin_key (a b : Int) (h0 : 0 ≤ a) (h1 : a < 4294967296) (g0 : 0 ≤ b) (g1 : b < 4294967296) (hn : nan a = false) (hm : nan b = false) : fmin a b = if key b < key a then b else a := by
  unfold fmin; rw [ord_eq a b h0 g0, if_neg (by simp [hn, hm])]
  have hk := key_lt b a g0 g1 h0 h1
  rcases Int.lt_trichotomy (sv a.toNat) (sv b.toNat) with c | c | c
  · have hne : ¬ (key b < key a) := by
      rw [hk]; rintro (k | ⟨k1, k2, k3, k4⟩)
      · omega
      · have := (noughts a b h0 h1 g0 g1).2 (Or.inr ⟨by have := rg_toNat a h0; omega, by have := rg_toNat b g0; omega⟩); omega
    rw [cmp_lt c]; simp only []; rw [if_neg hne]
  · rw [cmp_eq c]
    simp only []
    rcases (noughts a b h0 h1 g0 g1).1 c with e | ⟨e, f⟩
    · subst e; split <;> simp
    · unfold key; by_cases d1 : 2147483648 ≤ a <;> by_cases d2 : 2147483648 ≤ b <;> simp only [d1, d2, if_true, if_false]
      · rw [if_neg (by omega)]
      · rw [if_neg (by omega)]
      · rw [if_pos (by omega)]
      · rw [if_neg (by omega)]; omega
  · rw [cmp_gt c]; simp only []; rw [if_pos (hk.2 (Or.inl c))]
theorem fmax_key (a b : Int) (h0 : 0 ≤ a) (h1 : a < 4294967296) (g0 : 0 ≤ b) (g1 : b < 4294967296) (hn : nan a = false) (hm : nan b = false) : fmax a b = if key b > key a then b else a := by
  unfold fmax; rw [ord_eq a b h0 g0, if_neg (by simp [hn, hm])]
  have hk := key_lt a b h0 h1 g0 g1
  rcases Int.lt_trichotomy (sv a.toNat) (sv b.toNat) with c | c | c
  · rw [cmp_lt c]; simp only []; rw [if_pos (show key b > key a from hk.2 (Or.inl c))]
  · rw [cmp_eq c]
    simp only []
    rcases (noughts a b h0 h1 g0 g1).1 c with e | ⟨e, f⟩
    · subst e; split <;> simp
    · unfold key; by_cases d1 : 2147483648 ≤ a <;> by_cases d2 : 2147483648 ≤ b <;> simp only [d1, d2, if_true, if_false]
      · rw [if_neg (by omega)]; omega
      · rw [if_pos (by omega)]
      · rw [if_neg (by omega)]
      · rw [if_neg (by omega)]
  · have hne : ¬ (key b > key a) := by
      show ¬ (key a < key b)
      rw [hk]; rintro (k | ⟨k1, k2, k3, k4⟩)
      · omega
      · have := (noughts a b h0 h1 g0 g1).2 (Or.inr ⟨by have := rg_toNat a h0; omega, by have := rg_toNat b g0; omega⟩); omega
    rw [cmp_gt c]; simp only []; rw [if_neg hne]
theorem fless_key (a b : Int) (h0 : 0 ≤ a) (h1 : a < 4294967296) (g0 : 0 ≤ b) (g1 : b < 4294967296) (hn : nan a = false) (hm : nan b = false) : fless a b = (decide (key a < key b) && !((a % 2147483648 == 0) && (b % 2147483648 == 0))) := by
  have h := fless_iff a b h0 g0
  have hk := key_lt a b h0 h1 g0 g1
  have hr := rg_toNat a h0
  have hs := rg_toNat b g0
  have hz := noughts a b h0 h1 g0 g1
  simp only [hn, hm, true_and] at h
  rw [Bool.eq_iff_iff, h]
  simp only [Bool.and_eq_true, decide_eq_true_eq, Bool.not_eq_true', Bool.and_eq_false_iff, beq_eq_false_iff_ne]
  constructor
  · intro c
    refine ⟨hk.2 (Or.inl c), ?_⟩
    by_cases e : a % 2147483648 = 0
    · right; intro f; have := hz.2 (Or.inr ⟨e, f⟩); omega
    · exact Or.inl e
  · rintro ⟨c, d⟩
    rcases hk.1 c with e | ⟨e1, e2, -, -⟩
    · exact e
    · exfalso; rcases d with d | d <;> omega
theorem feq_key (a b : Int) (h0 : 0 ≤ a) (h1 : a < 4294967296) (g0 : 0 ≤ b) (g1 : b < 4294967296) (hn : nan a = false) (hm : nan b = false) : feq a b = ((a == b) || ((a % 2147483648 == 0) && (b % 2147483648 == 0))) := by
  have h := feq_iff a b h0 g0
  have hz := noughts a b h0 h1 g0 g1
  simp only [hn, hm, true_and] at h
  rw [Bool.eq_iff_iff, h, hz]; simp
theorem fless_nan (a b : Int) (h0 : 0 ≤ a) (g0 : 0 ≤ b) (h : nan a = true ∨ nan b = true) : fless a b = false ∧ feq a b = false ∧ fmin a b = 2143289344 ∧ fmax a b = 2143289344 := by
  unfold fless feq fmin fmax; rw [ord_eq a b h0 g0, if_pos h]; exact ⟨rfl, rfl, rfl, rfl⟩

theorem ffin_ref (a : Int) (h0 : 0 ≤ a) (h1 : a < 4294967296) : ffin a = (!nNan a && !nInf a) := by
  unfold ffin nNan nInf
  by_cases c : a / 8388608 % 256 = 255
  · have : ¬ (a % 2147483648 < 2139095040) := by omega
    by_cases d : a % 8388608 = 0 <;> simp [c, d, this]
  · have : a % 2147483648 < 2139095040 := by omega
    simp [c, this]

end Go.Proofs.Ytnogokikiekcbab
