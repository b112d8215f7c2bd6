import Derived.Test.YtbeamaaclplababSterbP
/- Six operations find the error of a sum (Moeller, Knuth): over whole numbers of units. -/
namespace Go.Proofs.Ytbeamaaclplabab
open Go.RowKit
set_option linter.unusedVariables false

/-- A number of at most 24 digits, times a power. -/
def Rep (x : Int) : Prop := ∃ m c : Nat, m < 16777216 ∧ x.natAbs = m * 2 ^ c
/-- A whole number of units, rounded; no greatest. -/
def rn (T : Int) : Int := sg (decide (T < 0)) (V 23 (R T.natAbs))

theorem Rep.neg {x : Int} (h : Rep x) : Rep (-x) := by
  obtain ⟨m, c, hm, e⟩ := h; exact ⟨m, c, hm, by rw [Int.natAbs_neg]; exact e⟩
theorem rep_zero : Rep 0 := ⟨0, 0, by decide, rfl⟩
theorem rep_small {x : Int} (h : x.natAbs < 16777216) : Rep x := ⟨x.natAbs, 0, h, by simp⟩
theorem rep_V (r : Nat) : ∃ m c : Nat, m < 16777216 ∧ V 23 r = m * 2 ^ c := by
  obtain ⟨t, k, hr, hk, hkt, -⟩ := rung_split 23 r
  exact ⟨k, t, hk, by rw [hr]; exact V_at 23 t k (by omega) hkt⟩
theorem rn_abs (T : Int) : (rn T).natAbs = V 23 (R T.natAbs) := by unfold rn sg; split <;> omega
theorem rn_rep (T : Int) : Rep (rn T) := by
  obtain ⟨m, c, hm, e⟩ := rep_V (R T.natAbs)
  exact ⟨m, c, hm, by rw [rn_abs]; exact e⟩
theorem rn_exact {x : Int} (h : Rep x) : rn x = x := by
  obtain ⟨m, c, hm, e⟩ := h
  have hV := R_repr _ m c hm e
  unfold rn; rw [hV]; unfold sg
  by_cases d : x < 0
  · rw [if_pos (by simpa using d)]; omega
  · rw [if_neg (by simpa using d)]; omega
theorem R_mono {n n' : Nat} (h : n ≤ n') : V 23 (R n) ≤ V 23 (R n') := V_le 23 ((near_R n).mono (near_R n') (by decide) (by decide) (by omega))
theorem R_zero' : V 23 (R 0) = 0 := by
  have : R 0 = 0 := by simp [R, rungOf]
  rw [this, V_zero]
theorem rn_mono {x y : Int} (h : x ≤ y) : rn x ≤ rn y := by
  unfold rn sg
  by_cases c : x < 0
  · rw [if_pos (by simpa using c)]
    by_cases d : y < 0
    · rw [if_pos (by simpa using d)]
      have := R_mono (show y.natAbs ≤ x.natAbs by omega); omega
    · rw [if_neg (by simpa using d)]; omega
  · rw [if_neg (by simpa using c), if_neg (by simp; omega)]
    have := R_mono (show x.natAbs ≤ y.natAbs by omega); omega
theorem rn_neg (x : Int) : rn (-x) = -rn x := by
  unfold rn; rw [Int.natAbs_neg]
  rcases Int.lt_trichotomy x 0 with c | c | c
  · rw [decide_eq_false (show ¬ (-x < 0) by omega), decide_eq_true c]; simp [sg]
  · subst c; simp [sg, R_zero']
  · rw [decide_eq_true (show -x < 0 by omega), decide_eq_false (show ¬ (x < 0) by omega)]; simp [sg]

theorem rep_dbl {x : Int} (h : Rep x) : Rep (2 * x) := by
  obtain ⟨m, c, hm, e⟩ := h
  exact ⟨m, c + 1, hm, by rw [Int.natAbs_mul, e, Nat.pow_succ]; show 2 * (m * 2 ^ c) = _; rw [Nat.mul_comm 2, Nat.mul_assoc]⟩
/-- The half, made whole upwards. -/
theorem rep_half {x : Int} (h0 : 0 ≤ x) (h : Rep x) : Rep ((x + 1) / 2) := by
  obtain ⟨m, c, hm, e⟩ := h
  rcases Nat.eq_zero_or_pos c with k | k
  · subst k; exact rep_small (by simp at e; omega)
  · obtain ⟨d, rfl⟩ : ∃ d, c = d + 1 := ⟨c - 1, by omega⟩
    refine ⟨m, d, hm, ?_⟩
    rw [Nat.pow_succ, ← Nat.mul_assoc] at e
    omega
theorem half_le {x y : Int} (h0 : 0 ≤ x) (hx : Rep x) (h : x ≤ 2 * y) : x ≤ 2 * rn y := by
  have h1 : (x + 1) / 2 ≤ y := by omega
  have h2 := rn_mono h1
  rw [rn_exact (rep_half h0 hx)] at h2
  omega
theorem le_rep {x y : Int} (hx : Rep x) (h : x ≤ y) : x ≤ rn y := by have := rn_mono h; rwa [rn_exact hx] at this
theorem rep_le {x y : Int} (hx : Rep x) (h : y ≤ x) : rn y ≤ x := by have := rn_mono h; rwa [rn_exact hx] at this

/-- Sterbenz. -/
theorem rep_sub {x y : Int} (hx : Rep x) (hy : Rep y) (h0 : 0 ≤ x) (g0 : 0 ≤ y) (h1 : x ≤ 2 * y) (h2 : y ≤ 2 * x) : Rep (x - y) := by
  have key : ∀ u v : Int, 0 ≤ u → 0 ≤ v → u ≤ 2 * v → v ≤ 2 * u → ∀ m c n d : Nat, m < 16777216 → u.natAbs = m * 2 ^ c → v.natAbs = n * 2 ^ d → c ≤ d → Rep (u - v) := by
    intro u v u0 v0 k1 k2 m c n d hm e1 e2 hcd
    have e3 : v.natAbs = n * 2 ^ (d - c) * 2 ^ c := by rw [e2, Nat.mul_assoc, ← Nat.pow_add]; congr 2; omega
    have hP : 0 < 2 ^ c := Nat.two_pow_pos _
    generalize n * 2 ^ (d - c) = B at *
    have l1 : m ≤ 2 * B := by
      apply Nat.le_of_mul_le_mul_right _ hP; rw [Nat.mul_assoc]; omega
    have l2 : B ≤ 2 * m := by
      apply Nat.le_of_mul_le_mul_right _ hP; rw [Nat.mul_assoc]; omega
    refine ⟨((m : Int) - (B : Int)).natAbs, c, by omega, ?_⟩
    have : u - v = ((m : Int) - (B : Int)) * ((2 ^ c : Nat) : Int) := by
      rw [Int.sub_mul, ← Int.natCast_mul, ← Int.natCast_mul]; omega
    rw [this, Int.natAbs_mul, Int.natAbs_natCast]
  obtain ⟨m, c, hm, e⟩ := hx
  obtain ⟨n, d, hn, f⟩ := hy
  rcases Nat.le_total c d with k | k
  · exact key x y h0 g0 h1 h2 m c n d hm e f k
  · have := (key y x g0 h0 h2 h1 n d m c hn f e k).neg
    rwa [Int.neg_sub] at this

/-- The nearest: no rung is nearer. -/
theorem near_best (n q : Nat) : ((n : Int) - (V 23 (R n) : Int)).natAbs ≤ ((n : Int) - (V 23 q : Int)).natAbs := by
  have h := near_R n
  have up := h.up
  have dn := h.dn
  rw [Nat.mul_one] at up
  rcases Nat.lt_trichotomy q (R n) with c | c | c
  · have d1 := dn (R n - 1) (by omega)
    rw [Nat.mul_one] at d1
    have := V_le 23 (show q ≤ R n - 1 by omega)
    have := V_lt 23 c
    omega
  · rw [c]; exact Nat.le_refl _
  · have := V_le 23 (show R n + 1 ≤ q from c)
    have := V_lt 23 c
    omega
theorem rn_best {T f : Int} (hf : Rep f) : (T - rn T).natAbs ≤ (T - f).natAbs := by
  obtain ⟨m, c, hm, e⟩ := hf
  obtain ⟨t, k, hV, -, -, -⟩ := rung_exact 23 m c (by omega)
  rw [← e] at hV
  have b := near_best T.natAbs (t * 2 ^ 23 + k)
  have b0 := near_best T.natAbs 0
  rw [hV] at b
  rw [V_zero] at b0
  unfold rn sg
  by_cases d : T < 0
  · rw [if_pos (by simpa using d)]
    by_cases g : f < 0 <;> omega
  · rw [if_neg (by simpa using d)]
    by_cases g : f < 0 <;> omega

/-- The error of a sum is a number. -/
theorem rep_err {a b : Int} (ha : Rep a) (hb : Rep b) : Rep (a + b - rn (a + b)) := by
  have key : ∀ a b : Int, Rep a → Rep b → ∀ m c n d : Nat, m < 16777216 → a.natAbs = m * 2 ^ c → n < 16777216 → b.natAbs = n * 2 ^ d → c ≤ d → Rep (a + b - rn (a + b)) := by
    intro a b ha hb m c n d hm e1 hn e2 hcd
    have hbest : (a + b - rn (a + b)).natAbs ≤ a.natAbs := by have := rn_best (T := a + b) hb; omega
    -- a + b is a multiple of 2^c, and so is its rounded value
    have hP : 0 < 2 ^ c := Nat.two_pow_pos _
    have dv : ∀ x : Int, ∀ k : Nat, x.natAbs = k * 2 ^ c → ∃ z : Int, x = z * ((2 ^ c : Nat) : Int) := by
      intro x k hx
      rcases Int.lt_or_le x 0 with q | q
      · exact ⟨-(k : Int), by rw [Int.neg_mul, ← Int.natCast_mul]; omega⟩
      · exact ⟨(k : Int), by rw [← Int.natCast_mul]; omega⟩
    obtain ⟨za, hza⟩ := dv a m e1
    obtain ⟨zb, hzb⟩ := dv b (n * 2 ^ (d - c)) (by rw [e2, Nat.mul_assoc, ← Nat.pow_add]; congr 2; omega)
    have hT : a + b = (za + zb) * ((2 ^ c : Nat) : Int) := by rw [Int.add_mul, ← hza, ← hzb]
    have hTn : (a + b).natAbs = (za + zb).natAbs * 2 ^ c := by rw [hT, Int.natAbs_mul, Int.natAbs_natCast]
    obtain ⟨t, k, hr, hk, hkt, -⟩ := rung_split 23 (R (a + b).natAbs)
    have hV : V 23 (R (a + b).natAbs) = k * 2 ^ t := by rw [hr]; exact V_at 23 t k (by omega) hkt
    have hsm : ∃ j : Nat, (rn (a + b)).natAbs = j * 2 ^ c := by
      rw [rn_abs, hV]
      rcases Nat.lt_or_ge t c with q | q
      · -- exact
        have hn := near_R (a + b).natAbs
        rw [hr] at hn
        have hc := hn.cut (by decide) hk hkt (by decide)
        have up := hc.up
        have dn := hc.dn
        simp only [Nat.mul_one] at up dn
        have e3 : (a + b).natAbs = (za + zb).natAbs * 2 ^ (c - t) * 2 ^ t := by rw [hTn, Nat.mul_assoc, ← Nat.pow_add]; congr 2; omega
        have hPt : 0 < 2 ^ t := Nat.two_pow_pos _
        rw [e3, ← Nat.mul_assoc] at up
        have u2 := Nat.le_of_mul_le_mul_right up hPt
        have d2 : 2 * k ≤ 2 * ((za + zb).natAbs * 2 ^ (c - t)) + 1 := by
          apply Nat.le_of_mul_le_mul_right _ hPt
          rw [Nat.add_mul, Nat.one_mul, Nat.mul_assoc 2 ((za + zb).natAbs * 2 ^ (c - t)) (2 ^ t), ← e3]; exact dn
        refine ⟨(za + zb).natAbs, ?_⟩
        rw [← hTn, e3]; congr 1; omega
      · exact ⟨k * 2 ^ (t - c), by rw [Nat.mul_assoc, ← Nat.pow_add]; congr 2; omega⟩
    obtain ⟨j, hj⟩ := hsm
    obtain ⟨zs, hzs⟩ := dv (rn (a + b)) j hj
    have hE : a + b - rn (a + b) = (za + zb - zs) * ((2 ^ c : Nat) : Int) := by rw [Int.sub_mul, ← hT, ← hzs]
    refine ⟨(za + zb - zs).natAbs, c, ?_, by rw [hE, Int.natAbs_mul, Int.natAbs_natCast]⟩
    rw [hE, Int.natAbs_mul, Int.natAbs_natCast, e1] at hbest
    exact Nat.lt_of_le_of_lt (Nat.le_of_mul_le_mul_right hbest hP) hm
  obtain ⟨m, c, hm, e⟩ := ha
  obtain ⟨n, d, hn, f⟩ := hb
  rcases Nat.le_total c d with k | k
  · exact key a b ⟨m, c, hm, e⟩ ⟨n, d, hn, f⟩ m c n d hm e hn f k
  · rw [Int.add_comm]; exact key b a ⟨n, d, hn, f⟩ ⟨m, c, hm, e⟩ n d m c hn f hm e k

/-- Either the difference is exact, or what is left over is. -/
theorem two_sum_pos {A B : Int} (hA : Rep A) (hB : Rep B) (h0 : 0 ≤ A) : Rep (rn (A + B) - A) ∨ (Rep (rn (A + B) - rn (rn (A + B) - A)) ∧ Rep (B - rn (rn (A + B) - A))) := by
  have hs := rn_rep (A + B)
  rcases Int.lt_or_le B 0 with q | q
  · -- of opposite signs: B = -b
    have hb : Rep (-B) := hB.neg
    rcases Int.lt_or_le (2 * A) (-B) with k1 | k1
    · -- A is small: s = -s', s' = rn (b - A)
      have hs' : rn (A + B) = -rn (-B - A) := by rw [← rn_neg]; congr 1; omega
      have hr' := rn_rep (-B - A)
      have l1 : -B ≤ 2 * rn (-B - A) := half_le (by omega) hb (by omega)
      have l2 : rn (-B - A) ≤ -B := rep_le hb (by omega)
      have ht : rn (rn (A + B) - A) = -rn (rn (-B - A) + A) := by
        have : rn (A + B) - A = -(rn (-B - A) + A) := by rw [hs']; omega
        rw [this, rn_neg]
      have hrt := rn_rep (rn (-B - A) + A)
      have l3 : rn (-B - A) ≤ rn (rn (-B - A) + A) := le_rep hr' (by omega)
      have l4 : rn (rn (-B - A) + A) ≤ 2 * rn (-B - A) := rep_le (rep_dbl hr') (by omega)
      right
      rw [ht, hs']
      constructor
      · have := rep_sub hrt hr' (by omega) (by omega) (by omega) (by omega)
        rwa [show -rn (-B - A) - -rn (rn (-B - A) + A) = rn (rn (-B - A) + A) - rn (-B - A) by omega]
      · have := rep_sub hrt hb (by omega) (by omega) (by omega) (by omega)
        rwa [show B - -rn (rn (-B - A) + A) = rn (rn (-B - A) + A) - -B by omega]
    · rcases Int.lt_or_le (2 * -B) A with k2 | k2
      · -- B is small
        left
        have l1 : A ≤ 2 * rn (A + B) := half_le h0 hA (by omega)
        have l2 : rn (A + B) ≤ A := rep_le hA (by omega)
        exact rep_sub hs hA (by omega) h0 (by omega) (by omega)
      · -- the sum itself is exact
        left
        have hx : Rep (A + B) := by
          have := rep_sub hA hb h0 (by omega) (by omega) (by omega)
          rwa [show A - -B = A + B by omega] at this
        rw [rn_exact hx, show A + B - A = B by omega]; exact hB
  · have l1 : A ≤ rn (A + B) := le_rep hA (by omega)
    have l2 : B ≤ rn (A + B) := le_rep hB (by omega)
    rcases Int.lt_or_le (2 * A) (rn (A + B)) with k | k
    · -- A is the lesser by far
      have hAB : A ≤ B := by
        rcases Int.lt_or_le B A with z | z
        · have := rep_le (y := A + B) (rep_dbl hA) (by omega); omega
        · exact z
      have l3 : rn (A + B) ≤ 2 * B := rep_le (rep_dbl hB) (by omega)
      have hrt := rn_rep (rn (A + B) - A)
      have l4 : rn (A + B) ≤ 2 * rn (rn (A + B) - A) := half_le (by omega) hs (by omega)
      have l5 : rn (rn (A + B) - A) ≤ rn (A + B) := rep_le hs (by omega)
      right
      exact ⟨rep_sub hs hrt (by omega) (by omega) (by omega) (by omega), rep_sub hB hrt q (by omega) (by omega) (by omega)⟩
    · left
      exact rep_sub hs hA (by omega) h0 (by omega) (by omega)

theorem two_sum {A B : Int} (hA : Rep A) (hB : Rep B) (s t u e1 e2 e : Int) (hs : s = rn (A + B)) (ht : t = rn (s - A)) (hu : u = rn (s - t)) (h1 : e1 = rn (A - u)) (h2 : e2 = rn (B - t)) (h3 : e = rn (e1 + e2)) : A + B = s + e := by
  have hK : Rep (s - A) ∨ (Rep (s - t) ∧ Rep (B - t)) := by
    rw [ht, hs]
    rcases Int.lt_or_le A 0 with c | c
    · have h := two_sum_pos hA.neg hB.neg (by omega)
      have es : rn (-A + -B) = -rn (A + B) := by rw [← rn_neg]; congr 1; omega
      have et : rn (-rn (A + B) - -A) = -rn (rn (A + B) - A) := by
        have : -rn (A + B) - -A = -(rn (A + B) - A) := by omega
        rw [this, rn_neg]
      rw [es, et] at h
      rcases h with h | ⟨h, k⟩
      · left; have := h.neg; rwa [show -(-rn (A + B) - -A) = rn (A + B) - A by omega] at this
      · right
        have a1 := h.neg
        have a2 := k.neg
        rw [show -(-rn (A + B) - -rn (rn (A + B) - A)) = rn (A + B) - rn (rn (A + B) - A) by omega] at a1
        rw [show -(-B - -rn (rn (A + B) - A)) = B - rn (rn (A + B) - A) by omega] at a2
        exact ⟨a1, a2⟩
    · exact two_sum_pos hA hB c
  have hsr : Rep s := by rw [hs]; exact rn_rep _
  have herr : Rep (A + B - s) := by rw [hs]; exact rep_err hA hB
  rcases hK with k | ⟨k1, k2⟩
  · have et : t = s - A := by rw [ht]; exact rn_exact k
    have eu : u = A := by rw [hu, et, show s - (s - A) = A by omega]; exact rn_exact hA
    have ee1 : e1 = 0 := by rw [h1, eu, show A - A = 0 by omega]; exact rn_exact rep_zero
    have ee2 : e2 = A + B - s := by rw [h2, et, show B - (s - A) = A + B - s by omega]; exact rn_exact herr
    have ee : e = A + B - s := by rw [h3, ee1, ee2, Int.zero_add]; exact rn_exact herr
    omega
  · have eu : u = s - t := by rw [hu]; exact rn_exact k1
    have ee2 : e2 = B - t := by rw [h2]; exact rn_exact k2
    have herr2 : Rep (A - (s - t)) := by
      have := (rep_err hsr hA.neg).neg
      rw [show s + -A = s - A by omega, ← ht, show -(s - A - t) = A - (s - t) by omega] at this
      exact this
    have ee1 : e1 = A - (s - t) := by rw [h1, eu]; exact rn_exact herr2
    have ee : e = A + B - s := by rw [h3, ee1, ee2, show A - (s - t) + (B - t) = A + B - s by omega]; exact rn_exact herr
    omega

end Go.Proofs.Ytbeamaaclplabab
