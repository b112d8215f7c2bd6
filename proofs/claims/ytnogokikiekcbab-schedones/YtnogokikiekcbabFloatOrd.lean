import Derived.Test.YtnogokikiekcbabFloatFns
/- The order of binary32, by value; signs turned. -/
namespace Go.Proofs.Ytnogokikiekcbab
set_option linter.unusedVariables false

theorem cmp_int (a b : Int) : compare a b = if a < b then .lt else if a = b then .eq else .gt := rfl
theorem cmp_lt {a b : Int} (h : a < b) : compare a b = .lt := by rw [cmp_int, if_pos h]
theorem cmp_eq {a b : Int} (h : a = b) : compare a b = .eq := by rw [cmp_int, if_neg (by omega), if_pos h]
theorem cmp_gt {a b : Int} (h : b < a) : compare a b = .gt := by rw [cmp_int, if_neg (by omega), if_neg (by omega)]
theorem cmp_scale (a b p : Int) (hp : 0 < p) : compare (a * p) (b * p) = compare a b := by
  rw [cmp_int, cmp_int]
  have h1 : a * p < b * p ↔ a < b := Int.mul_lt_mul_right hp
  have h2 : a * p = b * p ↔ a = b := ⟨fun h => Int.eq_of_mul_eq_mul_right (by omega) h, fun h => by rw [h]⟩
  simp only [h1, h2]
theorem mv_inf {x : Nat} (h : rg x = 2139095040) : mv x = V 23 2139095040 := by unfold mv; rw [h]
theorem mv_fin {x : Nat} (h : rg x < 2139095040) : mv x < V 23 2139095040 := V_lt 23 h
theorem sv_fin {x : Nat} (h : rg x < 2139095040) : -(V 23 2139095040 : Int) < sv x ∧ sv x < (V 23 2139095040 : Int) := by
  have := mv_fin h
  unfold sv sg; split <;> omega

theorem order_eq (x y : Nat) : Ieee.single.order x y = if 2139095040 < rg x ∨ 2139095040 < rg y then none else some (compare (sv x) (sv y)) := by
  unfold Ieee.Format.order
  have hV : 0 < V 23 2139095040 := by have := V_lt 23 (show 0 < 2139095040 by decide); omega
  rcases Nat.lt_trichotomy (rg x) 2139095040 with c | c | c
  · rcases Nat.lt_trichotomy (rg y) 2139095040 with d | d | d
    · rw [read_fin x c, read_fin y d, if_neg (by omega)]
      simp only [Ieee.Datum.order]
      have hm : min (-149 + (te x : Int)) (-149 + (te y : Int)) = -149 + ((min (te x) (te y) : Nat) : Int) := by omega
      rw [hm]
      have e1 : (-149 + (te x : Int) - (-149 + ((min (te x) (te y) : Nat) : Int))).toNat = te x - min (te x) (te y) := by omega
      have e2 : (-149 + (te y : Int) - (-149 + ((min (te x) (te y) : Nat) : Int))).toNat = te y - min (te x) (te y) := by omega
      rw [e1, e2]
      generalize hc : min (te x) (te y) = m
      have s1 : Ieee.signed (ng x) (mg x) (te x - m) * (2 : Int) ^ m = sv x := by
        rw [signed_mul, show te x - m + m = te x by omega, ← mv_eq]; rfl
      have s2 : Ieee.signed (ng y) (mg y) (te y - m) * (2 : Int) ^ m = sv y := by
        rw [signed_mul, show te y - m + m = te y by omega, ← mv_eq]; rfl
      rw [← s1, ← s2, cmp_scale _ _ _ (Int.pow_pos (by decide))]
    · rw [read_fin x c, read_inf y d, if_neg (by omega)]
      simp only [Ieee.Datum.order]
      have h := sv_fin c
      have e : sv y = sg (ng y) (V 23 2139095040) := by unfold sv; rw [mv_inf d]
      rw [e, cmp_int]
      cases ng y
      · rw [if_neg (by decide), if_pos (by unfold sg; simp; omega)]
      · rw [if_pos rfl, if_neg (by unfold sg; simp; omega), if_neg (by unfold sg; simp; omega)]
    · rw [read_nan y d, read_fin x c, if_pos (Or.inr d)]; rfl
  · rcases Nat.lt_trichotomy (rg y) 2139095040 with d | d | d
    · rw [read_inf x c, read_fin y d, if_neg (by omega)]
      simp only [Ieee.Datum.order]
      have h := sv_fin d
      have e : sv x = sg (ng x) (V 23 2139095040) := by unfold sv; rw [mv_inf c]
      rw [e, cmp_int]
      cases ng x
      · rw [if_neg (by decide), if_neg (by unfold sg; simp; omega), if_neg (by unfold sg; simp; omega)]
      · rw [if_pos rfl, if_pos (by unfold sg; simp; omega)]
    · rw [read_inf x c, read_inf y d, if_neg (by omega)]
      simp only [Ieee.Datum.order]
      have e1 : sv x = sg (ng x) (V 23 2139095040) := by unfold sv; rw [mv_inf c]
      have e2 : sv y = sg (ng y) (V 23 2139095040) := by unfold sv; rw [mv_inf d]
      rw [e1, e2, cmp_int]
      cases ng x <;> cases ng y
      · rw [if_neg (by omega), if_pos rfl]; rfl
      · rw [if_neg (by simp only [sg, if_true, if_false, Bool.false_eq_true]; omega), if_neg (by simp only [sg, if_true, if_false, Bool.false_eq_true]; omega)]; rfl
      · rw [if_pos (by simp only [sg, if_true, if_false, Bool.false_eq_true]; omega)]; rfl
      · rw [if_neg (by omega), if_pos rfl]; rfl
    · rw [read_nan y d, read_inf x c, if_pos (Or.inr d)]; rfl
  · rw [read_nan x c, if_pos (Or.inl c)]; cases Ieee.single.read y <;> rfl

theorem rg_toNat (a : Int) (h0 : 0 ≤ a) : (rg a.toNat : Int) = a % 2147483648 := by unfold rg; omega
theorem nan_rg (a : Int) (h0 : 0 ≤ a) : nan a = decide (2139095040 < rg a.toNat) := by
  unfold nan; rw [decide_eq_decide]; have := rg_toNat a h0; omega
theorem ffin_rg (a : Int) (h0 : 0 ≤ a) : ffin a = decide (rg a.toNat < 2139095040) := by
  unfold ffin; rw [decide_eq_decide]; have := rg_toNat a h0; omega

theorem ord_eq (a b : Int) (h0 : 0 ≤ a) (g0 : 0 ≤ b) : ord a b = if nan a = true ∨ nan b = true then none else some (compare (sv a.toNat) (sv b.toNat)) := by
  unfold ord; rw [order_eq, nan_rg a h0, nan_rg b g0]; simp only [decide_eq_true_eq]

theorem fless_iff (a b : Int) (h0 : 0 ≤ a) (g0 : 0 ≤ b) : fless a b = true ↔ nan a = false ∧ nan b = false ∧ sv a.toNat < sv b.toNat := by
  unfold fless; rw [ord_eq a b h0 g0]
  by_cases hn : nan a = true ∨ nan b = true
  · rw [if_pos hn]; simp; intro k1 k2; simp [k1, k2] at hn
  · rw [if_neg hn]
    have hn' : nan a = false ∧ nan b = false := by simpa using hn
    rcases Int.lt_trichotomy (sv a.toNat) (sv b.toNat) with c | c | c
    · rw [cmp_lt c]; simp [hn', c]
    · rw [cmp_eq c]; simp; omega
    · rw [cmp_gt c]; simp; omega
theorem feq_iff (a b : Int) (h0 : 0 ≤ a) (g0 : 0 ≤ b) : feq a b = true ↔ nan a = false ∧ nan b = false ∧ sv a.toNat = sv b.toNat := by
  unfold feq; rw [ord_eq a b h0 g0]
  by_cases hn : nan a = true ∨ nan b = true
  · rw [if_pos hn]; simp; intro k1 k2; simp [k1, k2] at hn
  · rw [if_neg hn]
    have hn' : nan a = false ∧ nan b = false := by simpa using hn
    rcases Int.lt_trichotomy (sv a.toNat) (sv b.toNat) with c | c | c
    · rw [cmp_lt c]; simp; omega
    · rw [cmp_eq c]; simp [hn', c]
    · rw [cmp_gt c]; simp; omega
theorem feq_comm (a b : Int) (h0 : 0 ≤ a) (g0 : 0 ≤ b) : feq a b = feq b a := by
  have h1 := feq_iff a b h0 g0
  have h2 := feq_iff b a g0 h0
  cases e : feq a b <;> cases f : feq b a <;> simp_all

/-- Equal numbers are the same pattern, or both noughts. -/
theorem sv_inj {x y : Nat} (h : sv x = sv y) : rg x = rg y ∧ (ng x = ng y ∨ rg x = 0) := by
  have hz : ∀ z, mv z = 0 → rg z = 0 := by
    intro z hz; unfold mv at hz; rw [← V_zero 23] at hz; exact V_inj 23 hz
  have key : mv x = mv y ∧ (ng x = ng y ∨ mv x = 0) := by
    unfold sv sg at h
    cases hx : ng x <;> cases hy : ng y <;> rw [hx, hy] at h <;> simp only [if_true, if_false, Bool.false_eq_true] at h
    · exact ⟨by omega, Or.inl rfl⟩
    · exact ⟨by omega, Or.inr (by omega)⟩
    · exact ⟨by omega, Or.inr (by omega)⟩
    · exact ⟨by omega, Or.inl rfl⟩
  refine ⟨V_inj 23 key.1, ?_⟩
  rcases key.2 with e | e
  · exact Or.inl e
  · exact Or.inr (hz x e)

theorem toNat_parts (a : Int) (h0 : 0 ≤ a) (h1 : a < 4294967296) : a = (if ng a.toNat then 2147483648 else 0) + (rg a.toNat : Int) := by
  unfold ng rg; by_cases c : 2147483648 ≤ a
  · have : a.toNat / 2147483648 % 2 = 1 := by omega
    simp [this]; omega
  · have : a.toNat / 2147483648 % 2 = 0 := by omega
    simp [this]; omega

theorem pat_ext {a b : Int} (h0 : 0 ≤ a) (h1 : a < 4294967296) (g0 : 0 ≤ b) (g1 : b < 4294967296) (hr : rg a.toNat = rg b.toNat) (hs : ng a.toNat = ng b.toNat) : a = b := by
  rw [toNat_parts a h0 h1, toNat_parts b g0 g1, hr, hs]

theorem ng_le' (a : Int) (h0 : 0 ≤ a) (h1 : a < 4294967296) : ng a.toNat = decide (2147483648 ≤ a) := by
  unfold ng; by_cases c : 2147483648 ≤ a <;> simp [c] <;> omega

theorem fmin_comm (a b : Int) (h0 : 0 ≤ a) (h1 : a < 4294967296) (g0 : 0 ≤ b) (g1 : b < 4294967296) : fmin a b = fmin b a := by
  unfold fmin; rw [ord_eq a b h0 g0, ord_eq b a g0 h0]
  by_cases hn : nan a = true ∨ nan b = true
  · rw [if_pos hn, if_pos (Or.symm hn)]
  · rw [if_neg hn, if_neg (fun h => hn (Or.symm h))]
    rcases Int.lt_trichotomy (sv a.toNat) (sv b.toNat) with c | c | c
    · rw [cmp_lt c, cmp_gt c]
    · rw [cmp_eq c, cmp_eq c.symm]
      obtain ⟨e, f⟩ := sv_inj c
      simp only []
      rcases f with f | f
      · have := pat_ext h0 h1 g0 g1 e f; rw [this]
      · have p1 := toNat_parts a h0 h1
        have p2 := toNat_parts b g0 g1
        rw [ng_le' a h0 h1] at p1
        rw [ng_le' b g0 g1] at p2
        by_cases d1 : 2147483648 ≤ a <;> by_cases d2 : 2147483648 ≤ b <;> simp only [d1, d2, decide_true, decide_false, if_true, if_false, Bool.false_eq_true] at p1 p2 ⊢ <;> omega
    · rw [cmp_gt c, cmp_lt c]
theorem fmax_comm (a b : Int) (h0 : 0 ≤ a) (h1 : a < 4294967296) (g0 : 0 ≤ b) (g1 : b < 4294967296) : fmax a b = fmax b a := by
  unfold fmax; rw [ord_eq a b h0 g0, ord_eq b a g0 h0]
  by_cases hn : nan a = true ∨ nan b = true
  · rw [if_pos hn, if_pos (Or.symm hn)]
  · rw [if_neg hn, if_neg (fun h => hn (Or.symm h))]
    rcases Int.lt_trichotomy (sv a.toNat) (sv b.toNat) with c | c | c
    · rw [cmp_lt c, cmp_gt c]
    · rw [cmp_eq c, cmp_eq c.symm]
      obtain ⟨e, f⟩ := sv_inj c
      simp only []
      rcases f with f | f
      · have := pat_ext h0 h1 g0 g1 e f; rw [this]
      · have p1 := toNat_parts a h0 h1
        have p2 := toNat_parts b g0 g1
        rw [ng_le' a h0 h1] at p1
        rw [ng_le' b g0 g1] at p2
        by_cases d1 : 2147483648 ≤ a <;> by_cases d2 : 2147483648 ≤ b <;> simp only [d1, d2, decide_true, decide_false, if_true, if_false, Bool.false_eq_true] at p1 p2 ⊢ <;> omega
    · rw [cmp_gt c, cmp_lt c]

/-! Signs turned. -/
theorem sum_comm (d e : Ieee.Datum) : d.sum e = e.sum d := by
  cases d <;> cases e <;> simp only [Ieee.Datum.sum]
  · rename_i s m i t n j
    rw [Int.min_comm j i, Int.add_comm (Ieee.signed t n _), Bool.and_comm]
  · rename_i s t
    by_cases h : s = t
    · rw [if_pos h, if_pos h.symm, h]
    · rw [if_neg h, if_neg (fun k => h k.symm)]
theorem fadd_comm (a b : Int) : fadd a b = fadd b a := by unfold fadd Ieee.Format.add; rw [sum_comm]
theorem prod_comm (d e : Ieee.Datum) : d.product e = e.product d := by
  cases d <;> cases e <;> simp only [Ieee.Datum.product]
  · rename_i s m i t n j
    rw [Nat.mul_comm n m, Int.add_comm j i, Bool.xor_comm]
  · rename_i s t; rw [Bool.xor_comm]
theorem fmul_comm (a b : Int) : fmul a b = fmul b a := by unfold fmul Ieee.Format.mul; rw [prod_comm]

def flip (a : Nat) : Nat := if 2147483648 ≤ a then a - 2147483648 else a + 2147483648
theorem rg_flip (a : Nat) (h : a < 4294967296) : rg (flip a) = rg a := by unfold rg flip; split <;> omega
theorem ng_flip (a : Nat) (h : a < 4294967296) : ng (flip a) = !ng a := by
  unfold ng flip; split
  · rename_i c
    have e1 : a / 2147483648 % 2 = 1 := by omega
    have e2 : (a - 2147483648) / 2147483648 % 2 = 0 := by omega
    simp [e1, e2]
  · rename_i c
    have e1 : a / 2147483648 % 2 = 0 := by omega
    have e2 : (a + 2147483648) / 2147483648 % 2 = 1 := by omega
    rw [e1, e2]; rfl
theorem read_flip (a : Nat) (h : a < 4294967296) : Ieee.single.read (flip a) = (Ieee.single.read a).opposite := by
  rw [read_single, read_single, rg_flip a h, ng_flip a h]
  split
  · rfl
  · split
    · rfl
    · split <;> rfl
theorem fneg_num (a : Int) (h0 : 0 ≤ a) (h1 : a < 4294967296) (hn : nan a = false) : fneg a = (flip a.toNat : Nat) := by
  unfold fneg flip
  have e : (if 2147483648 ≤ a then a - 2147483648 else a + 2147483648) = ((if 2147483648 ≤ a.toNat then a.toNat - 2147483648 else a.toNat + 2147483648 : Nat) : Int) := by
    by_cases c : 2147483648 ≤ a
    · rw [if_pos c, if_pos (by omega)]; omega
    · rw [if_neg c, if_neg (by omega)]; omega
  rw [e]
  apply canon_num
  have := rg_flip a.toNat (by omega)
  unfold flip at this
  rw [this]
  rw [nan_rg a h0] at hn
  simpa using hn
theorem fneg_nan (a : Int) (h0 : 0 ≤ a) (h1 : a < 4294967296) (hn : nan a = true) : fneg a = 2143289344 := by
  unfold fneg canon
  rw [nan_iff] at hn
  have : nan (if 2147483648 ≤ a then a - 2147483648 else a + 2147483648) = true := by
    rw [nan_iff]; split <;> omega
  rw [if_pos this]
theorem fneg_lo (a : Int) (h0 : 0 ≤ a) (h1 : a < 4294967296) : 0 ≤ fneg a ∧ fneg a < 4294967296 := by
  have h : 0 ≤ (if 2147483648 ≤ a then a - 2147483648 else a + 2147483648) ∧ (if 2147483648 ≤ a then a - 2147483648 else a + 2147483648) < 4294967296 := by split <;> omega
  exact canon_lo _ h.1 h.2
theorem prod_opp (d e : Ieee.Datum) : d.opposite.product e = (d.product e).map Ieee.Datum.opposite := by
  cases d <;> cases e <;> simp only [Ieee.Datum.product, Ieee.Datum.opposite, Option.map_some, Option.map_none, Bool.not_xor]
  · rename_i s m i t
    by_cases h : m = 0
    · simp [h]
    · simp [h, Ieee.Datum.opposite]
  · rename_i s t n j
    by_cases h : n = 0
    · simp [h]
    · simp [h, Ieee.Datum.opposite]
theorem quot_opp (k : Nat) (d e : Ieee.Datum) : d.opposite.quotient k e = (d.quotient k e).map Ieee.Datum.opposite := by
  cases d <;> cases e <;> simp only [Ieee.Datum.quotient, Ieee.Datum.opposite, Option.map_some, Option.map_none, Bool.not_xor]
  · rename_i s m i t n j
    by_cases h : n = 0
    · by_cases h2 : m = 0
      · simp [h, h2]
      · simp [h, h2, Ieee.Datum.opposite]
    · simp [h, Ieee.Datum.opposite]
theorem write_opp (d : Ieee.Datum) (h : d.isNaN = false) : Ieee.single.write d.opposite = flip (Ieee.single.write d) ∧ Ieee.single.write d < 4294967296 := by
  refine ⟨?_, Ieee.single.write_lt d⟩
  cases d with
  | number s m e =>
    show Ieee.single.nearest (!s) m e = flip (Ieee.single.nearest s m e)
    rw [nearest_eq, nearest_eq, word_wd, word_wd]
    unfold wd flip; cases s
    · simp only [Bool.not_false, if_true, if_false, Bool.false_eq_true]; rw [if_neg (by omega)]; omega
    · simp only [Bool.not_true, if_true, if_false, Bool.false_eq_true]; rw [if_pos (by omega)]; omega
  | infinity s => cases s <;> decide
  | nan s t => simp [Ieee.Datum.isNaN] at h
theorem op2_opp (o : Option Ieee.Datum) (h : ∀ f, o = some f → f.isNaN = false) : op2 ((o.map Ieee.Datum.opposite).map Ieee.single.write) = fneg (op2 (o.map Ieee.single.write)) := by
  cases o with
  | none => decide
  | some d =>
    have hn := write_num d (h d rfl)
    obtain ⟨e, lt⟩ := write_opp d (h d rfl)
    show ((Ieee.single.write d.opposite : Nat) : Int) = fneg ((Ieee.single.write d : Nat) : Int)
    rw [fneg_num _ (by omega) (by omega) (by rw [nan_nat]; simpa using hn), e]; rfl
theorem op2_none_nan (a : Int) (h0 : 0 ≤ a) (hn : nan a = true) (b : Nat) : Ieee.single.mul a.toNat b = none ∧ Ieee.single.div a.toNat b = none := by
  rw [nan_rg a h0] at hn
  have hn' : 2139095040 < rg a.toNat := by simpa using hn
  unfold Ieee.Format.mul Ieee.Format.div
  rw [read_nan _ hn']
  constructor <;> cases Ieee.single.read b <;> rfl
theorem fmul_neg (a b : Int) (h0 : 0 ≤ a) (h1 : a < 4294967296) : fmul (fneg a) b = fneg (fmul a b) := by
  cases hn : nan a
  · rw [fneg_num a h0 h1 hn]
    unfold fmul Ieee.Format.mul
    rw [Int.toNat_natCast, read_flip _ (by omega), prod_opp]
    exact op2_opp _ fun _ q => prod_num q
  · rw [fneg_nan a h0 h1 hn]
    unfold fmul
    rw [(op2_none_nan a h0 hn _).1, (op2_none_nan 2143289344 (by decide) (by decide) _).1]; decide
theorem fdiv_neg (a b : Int) (h0 : 0 ≤ a) (h1 : a < 4294967296) : fdiv (fneg a) b = fneg (fdiv a b) := by
  cases hn : nan a
  · rw [fneg_num a h0 h1 hn]
    unfold fdiv Ieee.Format.div
    rw [Int.toNat_natCast, read_flip _ (by omega), quot_opp]
    exact op2_opp _ fun _ q => quot_num q
  · rw [fneg_nan a h0 h1 hn]
    unfold fdiv
    rw [(op2_none_nan a h0 hn _).2, (op2_none_nan 2143289344 (by decide) (by decide) _).2]; decide
theorem nan_of_fin {a : Int} (h : ffin a = true) : nan a = false := by
  unfold ffin at h; unfold nan; simp at h ⊢; omega
theorem fneg_neg (a : Int) (h0 : 0 ≤ a) (h1 : a < 4294967296) (hf : ffin a = true) : fneg (fneg a) = a := by
  have hn := nan_of_fin hf
  rw [fneg_num a h0 h1 hn]
  have hr := rg_flip a.toNat (by omega)
  have hlt : flip a.toNat < 4294967296 := by unfold flip; split <;> omega
  have : nan ((flip a.toNat : Nat) : Int) = false := by
    rw [nan_nat, hr, ← nan_rg a h0]; exact hn
  rw [fneg_num _ (by omega) (by omega) this, Int.toNat_natCast]
  unfold flip; by_cases c : 2147483648 ≤ a.toNat
  · rw [if_pos c, if_neg (by omega)]; omega
  · rw [if_neg c, if_pos (by omega)]; omega
theorem fsub_self (a : Int) (h0 : 0 ≤ a) (hf : ffin a = true) : fsub a a = 0 := by
  rw [ffin_rg a h0] at hf
  have hf' : rg a.toNat < 2139095040 := by simpa using hf
  unfold fsub Ieee.Format.sub
  rw [read_fin _ hf']
  simp only [Ieee.Datum.sum, Ieee.Datum.opposite, Option.map_some]
  have : Ieee.signed (ng a.toNat) (mg a.toNat) (-149 + (te a.toNat : Int) - min (-149 + (te a.toNat : Int)) (-149 + (te a.toNat : Int))).toNat + Ieee.signed (!ng a.toNat) (mg a.toNat) (-149 + (te a.toNat : Int) - min (-149 + (te a.toNat : Int)) (-149 + (te a.toNat : Int))).toNat = 0 := by
    unfold Ieee.signed; cases ng a.toNat <;> simp <;> omega
  rw [this]
  simp only [if_true, Bool.and_not_self, Int.natAbs_zero]
  rfl

end Go.Proofs.Ytnogokikiekcbab
