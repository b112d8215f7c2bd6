import Derived.Test.YtnogokikiekcbabNearWalks
/- The difference of two numbers, neither more than twice the other, is exact. -/
namespace Go.Proofs.Ytnogokikiekcbab
open Go.RowKit
set_option linter.unusedVariables false

/-- A value that is a number of at most 24 digits times a power is rounded to itself. -/
theorem R_repr (n m c : Nat) (hm : m < 16777216) (h : n = m * 2 ^ c) : V 23 (R n) = n := by
  obtain ⟨t, k, hV, -, -, -⟩ := rung_exact 23 m c (by omega)
  rw [← h] at hV
  rw [← hV, R_exact]

theorem fsub_sv (a b : Int) (g0 : 0 ≤ b) (g1 : b < 4294967296) (hb : ffin b = true) : fsub a b = fadd a (fneg b) ∧ sv (fneg b).toNat = -sv b.toNat ∧ ffin (fneg b) = true ∧ ng (fneg b).toNat = !ng b.toNat := by
  have hn := nan_of_fin hb
  have hlt : b.toNat < 4294967296 := by omega
  have e := fneg_num b g0 g1 hn
  rw [e]
  have hr := rg_flip b.toNat hlt
  refine ⟨?_, ?_, ?_, ?_⟩
  · unfold fsub fadd Ieee.Format.sub Ieee.Format.add
    rw [Int.toNat_natCast, read_flip _ hlt]
  · rw [Int.toNat_natCast]; unfold sv mv; rw [hr, ng_flip _ hlt]; unfold sg; cases ng b.toNat <;> simp
  · rw [ffin_rg _ (by omega), Int.toNat_natCast, hr, ← ffin_rg b g0]; exact hb
  · rw [Int.toNat_natCast]; exact ng_flip _ hlt

theorem sv_wd (s : Bool) (r : Nat) : sv (wd s r) = sg s (V 23 (min r 2139095040)) := by unfold sv mv; rw [ng_wd, rg_wd]

/-- An exact sum: finite, and of that value. -/
theorem add_exact (a b : Int) (h0 : 0 ≤ a) (g0 : 0 ≤ b) (ha : ffin a = true) (hb : ffin b = true) (hx : V 23 (R (sv a.toNat + sv b.toNat).natAbs) = (sv a.toNat + sv b.toNat).natAbs) (hlt : (sv a.toNat + sv b.toNat).natAbs < V 23 2139095040) :
    ffin (fadd a b) = true ∧ sv (fadd a b).toNat = sv a.toNat + sv b.toNat := by
  rw [ffin_rg _ h0] at ha
  rw [ffin_rg _ g0] at hb
  have hr := add_fin a.toNat b.toNat (by simpa using ha) (by simpa using hb)
  have e : (fadd a b).toNat = wd (if sv a.toNat + sv b.toNat = 0 then ng a.toNat && ng b.toNat else decide (sv a.toNat + sv b.toNat < 0)) (R (sv a.toNat + sv b.toNat).natAbs) := by unfold fadd; rw [hr]; rfl
  rw [ffin_rg _ (fadd_lo a b).1, e]
  generalize sv a.toNat + sv b.toNat = T at *
  have hR : R T.natAbs < 2139095040 := by
    rw [← V_lt_iff 23, hx]; exact hlt
  refine ⟨by rw [rg_wd]; simp; omega, ?_⟩
  unfold sv mv
  rw [ng_wd, rg_wd, Nat.min_eq_left (by omega), hx]
  by_cases c : T = 0
  · subst c; simp [sg]
  · rw [if_neg c]; unfold sg
    by_cases d : T < 0
    · rw [if_pos (by simpa using d)]; omega
    · rw [if_neg (by simpa using d)]; omega

theorem fabs_sv (a : Int) (h0 : 0 ≤ a) (h1 : a < 4294967296) (ha : ffin a = true) : fabs a = a % 2147483648 ∧ sv (fabs a).toNat = (mv a.toNat : Int) ∧ ffin (fabs a) = true := by
  have hn := nan_of_fin ha
  have e : fabs a = a % 2147483648 := by
    unfold fabs canon
    rw [if_neg]
    unfold nan at hn ⊢
    simp at hn ⊢; omega
  have hr : rg (a % 2147483648).toNat = rg a.toNat := by unfold rg; omega
  have hg : ng (a % 2147483648).toNat = false := by unfold ng; simp; omega
  refine ⟨e, ?_, ?_⟩
  · rw [e]; unfold sv mv; rw [hr, hg]; rfl
  · rw [e]; unfold ffin at ha ⊢; simp at ha ⊢; omega

/-- Twice a number, by a sum. -/
theorem twice_sv (x : Int) (h0 : 0 ≤ x) (h1 : x < 4294967296) (hx : ffin x = true) (hs : ng x.toNat = false) : sv (fadd x x).toNat = min (2 * (mv x.toNat : Int)) (V 23 2139095040) ∧ nan (fadd x x) = false := by
  have hx' := hx
  rw [ffin_rg _ h0] at hx'
  have hr := add_fin x.toNat x.toNat (by simpa using hx') (by simpa using hx')
  have hsv : sv x.toNat = (mv x.toNat : Int) := by unfold sv; rw [hs]; rfl
  have hT : (sv x.toNat + sv x.toNat).natAbs = mg x.toNat * 2 ^ (te x.toNat + 1) := by
    rw [hsv, mv_eq, Nat.pow_succ, ← Nat.mul_assoc]; omega
  have hV := R_repr _ _ _ (mg_lt x.toNat) hT
  have e : (fadd x x).toNat = wd (if sv x.toNat + sv x.toNat = 0 then ng x.toNat && ng x.toNat else decide (sv x.toNat + sv x.toNat < 0)) (R (sv x.toNat + sv x.toNat).natAbs) := by unfold fadd; rw [hr]; rfl
  have hsgn : (if sv x.toNat + sv x.toNat = 0 then ng x.toNat && ng x.toNat else decide (sv x.toNat + sv x.toNat < 0)) = false := by
    rw [hs]; split
    · rfl
    · simp; omega
  rw [hsgn] at e
  refine ⟨?_, ?_⟩
  · rw [e, sv_wd]
    have h2 : ((sv x.toNat + sv x.toNat).natAbs : Int) = 2 * (mv x.toNat : Int) := by omega
    unfold sg; rw [if_neg (by decide)]
    rcases Nat.le_total (R (sv x.toNat + sv x.toNat).natAbs) 2139095040 with c | c
    · rw [Nat.min_eq_left c, hV]
      have := V_le 23 c; rw [hV] at this; omega
    · rw [Nat.min_eq_right c]
      have := V_le 23 c; rw [hV] at this; omega
  · have hl := fadd_lo x x
    rw [nan_rg _ hl.1, e, rg_wd]; simp; omega

/-- The least common place of two numbers. -/
theorem diff_repr (x y : Nat) (h1 : mv x ≤ 2 * mv y) (h2 : mv y ≤ 2 * mv x) : ∃ m c, m < 16777216 ∧ ((mv x : Int) - (mv y : Int)).natAbs = m * 2 ^ c := by
  -- the lesser place c: both are multiples of 2^c, and the difference is at most the one of that place
  have key : ∀ u v : Nat, te u ≤ te v → mv u ≤ 2 * mv v → mv v ≤ 2 * mv u → ∃ m c, m < 16777216 ∧ ((mv u : Int) - (mv v : Int)).natAbs = m * 2 ^ c := by
    intro u v ht hu hv
    have e1 : mv u = mg u * 2 ^ te u := mv_eq u
    have e2 : mv v = mg v * 2 ^ (te v - te u) * 2 ^ te u := by rw [mv_eq, Nat.mul_assoc, ← Nat.pow_add]; congr 2; omega
    have hlt := mg_lt u
    have hP : 0 < 2 ^ te u := Nat.two_pow_pos _
    generalize mg v * 2 ^ (te v - te u) = B at *
    generalize mg u = A at *
    have hle : A ≤ 2 * B := by
      rw [e1, e2, ← Nat.mul_assoc] at hu; exact Nat.le_of_mul_le_mul_right hu hP
    have hle2 : B ≤ 2 * A := by
      rw [e1, e2, ← Nat.mul_assoc] at hv; exact Nat.le_of_mul_le_mul_right hv hP
    refine ⟨((A : Int) - (B : Int)).natAbs, te u, by omega, ?_⟩
    rw [e1, e2, Int.natCast_mul, Int.natCast_mul, ← Int.sub_mul, Int.natAbs_mul, Int.natAbs_natCast]
  rcases Nat.le_total (te x) (te y) with c | c
  · exact key x y c h1 h2
  · obtain ⟨m, k, hm, e⟩ := key y x c h2 h1
    exact ⟨m, k, hm, by rw [← e]; omega⟩

theorem sterbenz (a b : Int) (h0 : 0 ≤ a) (h1 : a < 4294967296) (g0 : 0 ≤ b) (g1 : b < 4294967296) (ha : ffin a = true) (hb : ffin b = true) (hs : a / 2147483648 = b / 2147483648)
    (c1 : fless (fadd (fabs a) (fabs a)) (fabs b) = false) (c2 : fless (fadd (fabs b) (fabs b)) (fabs a) = false) :
    ffin (fsub a b) = true ∧ sv (fsub a b).toNat + sv b.toNat = sv a.toNat := by
  obtain ⟨ea, sa, fa⟩ := fabs_sv a h0 h1 ha
  obtain ⟨eb, sb, fb⟩ := fabs_sv b g0 g1 hb
  have la : 0 ≤ fabs a ∧ fabs a < 4294967296 := by rw [ea]; omega
  have lb : 0 ≤ fabs b ∧ fabs b < 4294967296 := by rw [eb]; omega
  have na : ng (fabs a).toNat = false := by rw [ea]; unfold ng; simp; omega
  have nb : ng (fabs b).toNat = false := by rw [eb]; unfold ng; simp; omega
  have ma : mv (fabs a).toNat = mv a.toNat := by unfold sv at sa; rw [na] at sa; simp only [sg, if_false, Bool.false_eq_true] at sa; omega
  have mb : mv (fabs b).toNat = mv b.toNat := by unfold sv at sb; rw [nb] at sb; simp only [sg, if_false, Bool.false_eq_true] at sb; omega
  obtain ⟨ta, tna⟩ := twice_sv (fabs a) la.1 la.2 fa na
  obtain ⟨tb, tnb⟩ := twice_sv (fabs b) lb.1 lb.2 fb nb
  have k1 := fless_iff (fadd (fabs a) (fabs a)) (fabs b) (fadd_lo _ _).1 lb.1
  have k2 := fless_iff (fadd (fabs b) (fabs b)) (fabs a) (fadd_lo _ _).1 la.1
  rw [c1] at k1
  rw [c2] at k2
  simp only [Bool.false_eq_true, false_iff, tna, tnb, nan_of_fin fa, nan_of_fin fb, true_and] at k1 k2
  rw [ta, sb, ma] at k1
  rw [tb, sa, mb] at k2
  have va : mv a.toNat < V 23 2139095040 := mv_fin (by rw [ffin_rg _ h0] at ha; simpa using ha)
  have vb : mv b.toNat < V 23 2139095040 := mv_fin (by rw [ffin_rg _ g0] at hb; simpa using hb)
  obtain ⟨m, c, hm, e⟩ := diff_repr a.toNat b.toNat (by omega) (by omega)
  obtain ⟨f1, f2, f3, -⟩ := fsub_sv a b g0 g1 hb
  have hsg : ng a.toNat = ng b.toNat := by
    rw [ng_le' a h0 h1, ng_le' b g0 g1, decide_eq_decide]; omega
  have hT : (sv a.toNat + sv (fneg b).toNat).natAbs = m * 2 ^ c := by
    rw [f2, ← e]; unfold sv sg; rw [hsg]; cases ng b.toNat <;> simp only [if_true, if_false, Bool.false_eq_true] <;> omega
  have hbd : (sv a.toNat + sv (fneg b).toNat).natAbs < V 23 2139095040 := by
    rw [hT, ← e]; omega
  have hx := add_exact a (fneg b) h0 (fneg_lo b g0 g1).1 ha f3 (R_repr _ _ _ hm hT) hbd
  rw [f1]
  exact ⟨hx.1, by rw [hx.2, f2]; omega⟩

end Go.Proofs.Ytnogokikiekcbab
