import Derived.Test.YtjbcafkpcgehdaaExactP
import Derived.Test.YtjbcafkpcgehdaaTurnsP
/- Whole numbers in binary32: sums, differences and products are exact. -/
namespace Go.Proofs.Ytjbcafkpcgehdaa
open Go.RowKit
set_option linter.unusedVariables false

structure IsN (x n : Int) : Prop where
  lo : 0 ≤ x
  hi : x < 4294967296
  fin : ffin x = true
  val : sv x.toNat = n * 2 ^ 149

theorem isN_from (n : Int) (h : n.natAbs ≤ 16777216) : IsN (ffrom n) n := by
  obtain ⟨f, s, -⟩ := ffrom_sv n h
  exact ⟨(ffrom_lo n).1, (ffrom_lo n).2, f, s⟩

theorem whole_lt (n : Int) (h : n.natAbs ≤ 16777216) : V 23 (R (n * 2 ^ 149).natAbs) = (n * 2 ^ 149).natAbs ∧ (n * 2 ^ 149).natAbs < V 23 2139095040 := by
  obtain ⟨f, s, -⟩ := ffrom_sv n h
  have h3 : rg (ffrom n).toNat < 2139095040 := by rw [ffin_rg _ (ffrom_lo' _)] at f; simpa using f
  have hm := mv_fin h3
  have e : (n * 2 ^ 149).natAbs = mv (ffrom n).toNat := by rw [← s]; unfold sv sg; split <;> omega
  refine ⟨?_, by rw [e]; exact hm⟩
  have e2 : (n * 2 ^ 149).natAbs = n.natAbs * 2 ^ 149 := by rw [Int.natAbs_mul, Int.natAbs_pow]; rfl
  rcases Nat.lt_or_ge n.natAbs 16777216 with c | c
  · exact R_repr _ _ _ c e2
  · have e3 : n.natAbs = 16777216 := by omega
    exact R_repr _ 8388608 150 (by decide) (by rw [e2, e3, Nat.pow_succ 2 149])

theorem isN_add {x y m n : Int} (hx : IsN x m) (hy : IsN y n) (h : (m + n).natAbs ≤ 16777216) : IsN (fadd x y) (m + n) := by
  have e : sv x.toNat + sv y.toNat = (m + n) * 2 ^ 149 := by rw [hx.val, hy.val, Int.add_mul]
  obtain ⟨k1, k2⟩ := whole_lt (m + n) h
  have := add_exact x y hx.lo hy.lo hx.fin hy.fin (by rw [e]; exact k1) (by rw [e]; exact k2)
  exact ⟨(fadd_lo x y).1, (fadd_lo x y).2, this.1, this.2.trans e⟩
theorem isN_sub {x y m n : Int} (hx : IsN x m) (hy : IsN y n) (h : (m - n).natAbs ≤ 16777216) : IsN (fsub x y) (m - n) := by
  obtain ⟨e, s, f, -⟩ := fsub_sv x y hy.lo hy.hi hy.fin
  have l := fneg_lo y hy.lo hy.hi
  have hn : IsN (fneg y) (-n) := ⟨l.1, l.2, f, by rw [s, hy.val, Int.neg_mul]⟩
  rw [e, Int.sub_eq_add_neg]
  exact isN_add hx hn (by rw [← Int.sub_eq_add_neg]; exact h)
theorem isN_mv {x n : Int} (h : IsN x n) : mv x.toNat = n.natAbs * 2 ^ 149 := by
  have : (sv x.toNat).natAbs = mv x.toNat := by unfold sv sg; split <;> omega
  rw [← this, h.val, Int.natAbs_mul, Int.natAbs_pow]; rfl
theorem isN_rg {x n : Int} (h : IsN x n) : rg x.toNat < 2139095040 := by
  have := h.fin; rw [ffin_rg _ h.lo] at this; simpa using this
/-- A product, and its sign. -/
theorem isN_mul {x y m n : Int} (hx : IsN x m) (hy : IsN y n) (h : (m * n).natAbs ≤ 16777216) : IsN (fmul x y) (m * n) ∧ ng (fmul x y).toNat = (ng x.toNat ^^ ng y.toNat) := by
  obtain ⟨r, hr, hn⟩ := mul_fin x.toNat y.toNat (isN_rg hx) (isN_rg hy)
  have e2 : fmul x y = (wd (ng x.toNat ^^ ng y.toNat) r : Nat) := by unfold fmul; rw [hr]; rfl
  obtain ⟨k1, k2⟩ := whole_lt (m * n) h
  have e3 : (m * n * 2 ^ 149).natAbs = (m * n).natAbs * 2 ^ 149 := by rw [Int.natAbs_mul, Int.natAbs_pow]; rfl
  have hrR : r = R (m * n * 2 ^ 149).natAbs := by
    have hp : 0 < 2 ^ 149 := Nat.two_pow_pos _
    have h2 := near_exact 23 (R (m * n * 2 ^ 149).natAbs) (2 ^ 149) hp
    rw [k1] at h2
    refine hn.unique h2 hp hp ?_
    rw [isN_mv hx, isN_mv hy, e3, Int.natAbs_mul]
    generalize (2 : Nat) ^ 149 = Z
    grind
  have hlt : r < 2139095040 := by rw [hrR, ← V_lt_iff 23, k1]; exact k2
  have hg : ng (fmul x y).toNat = (ng x.toNat ^^ ng y.toNat) := by rw [e2, Int.toNat_natCast, ng_wd]
  refine ⟨⟨(fmul_lo x y).1, (fmul_lo x y).2, ?_, ?_⟩, hg⟩
  · rw [ffin_rg _ (fmul_lo x y).1, e2, Int.toNat_natCast, rg_wd]; simp; omega
  · rw [e2, Int.toNat_natCast, sv_wd, Nat.min_eq_left (by omega), hrR, k1, e3]
    have sx : sv x.toNat = sg (ng x.toNat) (mv x.toNat) := rfl
    have sy : sv y.toNat = sg (ng y.toNat) (mv y.toNat) := rfl
    have hZ : (0 : Int) < 2 ^ 149 := Int.pow_pos (by decide)
    have vx : sg (ng x.toNat) m.natAbs = m := by
      have := hx.val; rw [sx, isN_mv hx, sg_mul, Int.natCast_pow] at this
      exact Int.eq_of_mul_eq_mul_right (Int.ne_of_gt hZ) this
    have vy : sg (ng y.toNat) n.natAbs = n := by
      have := hy.val; rw [sy, isN_mv hy, sg_mul, Int.natCast_pow] at this
      exact Int.eq_of_mul_eq_mul_right (Int.ne_of_gt hZ) this
    rw [sg_mul, Int.natCast_pow, Int.natAbs_mul]
    have : sg (ng x.toNat ^^ ng y.toNat) (m.natAbs * n.natAbs) = m * n := by
      conv => rhs; rw [← vx, ← vy]
      unfold sg; cases ng x.toNat <;> cases ng y.toNat <;> simp [Int.neg_mul, Int.mul_neg]
    rw [this]; rfl
theorem isN_alk {x y n : Int} (hx : IsN x n) (hy : IsN y n) : alk x y := by
  obtain ⟨e1, e2⟩ := sv_inj (hx.val.trans hy.val.symm)
  rcases e2 with e2 | e2
  · exact .inl (pat_ext hx.lo hx.hi hy.lo hy.hi e1 e2)
  · refine .inr ⟨?_, ?_⟩
    · rw [← rg_toNat x hx.lo, e2]; rfl
    · rw [← rg_toNat y hy.lo, ← e1, e2]; rfl

/-- The square of a pair of whole numbers: no nought with a minus. -/
theorem isN_square {x y m n : Int} (hx : IsN x m) (hy : IsN y n) (h : m * m + n * n ≤ 16777216) : fadd (fmul x x) (fmul y y) = ffrom (m * m + n * n) := by
  have pm : 0 ≤ m * m := by rcases Int.le_total 0 m with c | c; exact Int.mul_nonneg c c; exact Int.mul_nonneg_of_nonpos_of_nonpos c c
  have pn : 0 ≤ n * n := by rcases Int.le_total 0 n with c | c; exact Int.mul_nonneg c c; exact Int.mul_nonneg_of_nonpos_of_nonpos c c
  obtain ⟨h1, g1⟩ := isN_mul hx hx (by omega)
  obtain ⟨h2, g2⟩ := isN_mul hy hy (by omega)
  rw [Bool.xor_self] at g1 g2
  have h3 := isN_add h1 h2 (by omega)
  have h4 := isN_from (m * m + n * n) (by omega)
  obtain ⟨-, -, s4⟩ := ffrom_sv (m * m + n * n) (by omega)
  obtain ⟨e1, -⟩ := sv_inj (h3.val.trans h4.val.symm)
  refine pat_ext h3.lo h3.hi h4.lo h4.hi e1 ?_
  rw [s4, decide_eq_false (by omega)]
  have hr := add_fin (fmul x x).toNat (fmul y y).toNat (isN_rg h1) (isN_rg h2)
  have e : (fadd (fmul x x) (fmul y y)).toNat = wd (if sv (fmul x x).toNat + sv (fmul y y).toNat = 0 then ng (fmul x x).toNat && ng (fmul y y).toNat else decide (sv (fmul x x).toNat + sv (fmul y y).toNat < 0)) (R (sv (fmul x x).toNat + sv (fmul y y).toNat).natAbs) := by
    show (op2 (Ieee.single.add (fmul x x).toNat (fmul y y).toNat)).toNat = _
    rw [hr]; rfl
  rw [e, ng_wd, g1, g2]
  have hpos : ¬ (sv (fmul x x).toNat + sv (fmul y y).toNat < 0) := by
    rw [h1.val, h2.val, ← Int.add_mul]
    exact Int.not_lt.2 (Int.mul_nonneg (by omega) (Int.le_of_lt (Int.pow_pos (by decide))))
  rw [decide_eq_false hpos]; split <;> rfl

theorem mul_small (x y : Int) (h1 : -2047 ≤ x) (h2 : x ≤ 2047) (h3 : -2047 ≤ y) (h4 : y ≤ 2047) : -4190209 ≤ x * y ∧ x * y ≤ 4190209 := by
  have : (x * y).natAbs ≤ 2047 * 2047 := by rw [Int.natAbs_mul]; exact Nat.mul_le_mul (by omega) (by omega)
  omega

end Go.Proofs.Ytjbcafkpcgehdaa
