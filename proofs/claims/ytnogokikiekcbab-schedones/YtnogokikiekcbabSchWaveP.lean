import Derived.Test.YtnogokikiekcbabSchPlain
import Derived.Test.YtnogokikiekcbabKeepP
/- The wave lies from -1 to 1, and is turned about a half. No program in it. -/
namespace Go.Proofs.Ytnogokikiekcbab
set_option linter.unusedVariables false

/-- Finite patterns. -/
def Fn (a : Int) : Prop := Pat a ∧ ffin a = true
theorem Fn.rg {a : Int} (h : Fn a) : rg a.toNat < 2139095040 := by have := h.2; rw [ffin_rg a h.1.1] at this; simpa using this
theorem fmul_wd {a c : Int} (ha : Fn a) (hc : Fn c) : ∃ r, (fmul a c).toNat = wd (ng a.toNat ^^ ng c.toNat) r ∧ Near 23 (mv a.toNat * mv c.toNat) (2 ^ 149) r := by
  obtain ⟨r, hr, hn⟩ := mul_fin a.toNat c.toNat ha.rg hc.rg
  exact ⟨r, by unfold fmul; rw [hr]; rfl, hn⟩
theorem fadd_wd {a b : Int} (ha : Fn a) (hb : Fn b) : (fadd a b).toNat = wd (if sv a.toNat + sv b.toNat = 0 then ng a.toNat && ng b.toNat else decide (sv a.toNat + sv b.toNat < 0)) (R (sv a.toNat + sv b.toNat).natAbs) := by
  unfold fadd; rw [add_fin a.toNat b.toNat ha.rg hb.rg]; rfl
theorem nn_wd {x : Int} (hx : 0 ≤ x) {s : Bool} {r : Nat} (h : x.toNat = wd s r) : nan x = false := by
  rw [nan_rg x hx, h, rg_wd]; simp; omega
theorem fmul_nn {a c : Int} (ha : Fn a) (hc : Fn c) : nan (fmul a c) = false := by
  obtain ⟨r, h, -⟩ := fmul_wd ha hc
  exact nn_wd (fmul_lo a c).1 h
theorem fadd_nn {a c : Int} (ha : Fn a) (hc : Fn c) : nan (fadd a c) = false := nn_wd (fadd_lo a c).1 (fadd_wd ha hc)
theorem fn_of {x : Int} (hx : Pat x) (hn : nan x = false) (h1 : -(V 23 2139095040 : Int) < sv x.toNat) (h2 : sv x.toNat < (V 23 2139095040 : Int)) : Fn x := by
  refine ⟨hx, ?_⟩
  rcases kinds x hx.1 with k | k | ⟨-, k⟩
  · rw [hn] at k; cases k
  · exact k
  · exfalso
    have e : sv x.toNat = sg (ng x.toNat) (V 23 2139095040) := by unfold sv mv; rw [k]
    rw [e] at h1 h2
    unfold sg at h1 h2
    split at h1 <;> simp_all <;> omega
theorem fn_between {x l h : Int} (hx : Pat x) (hn : nan x = false) (hl : Fn l) (hh : Fn h) (h1 : sv l.toNat ≤ sv x.toNat) (h2 : sv x.toNat ≤ sv h.toNat) : Fn x := by
  have a1 := (sv_fin hl.rg).1
  have a2 := (sv_fin hh.rg).2
  exact fn_of hx hn (by omega) (by omega)
/-- Products by what is not below 0 keep the order of the exact ones. -/
theorem mul_le {a b c d : Int} (ha : Fn a) (hb : Fn b) (hc : Fn c) (hd : Fn d) (sc : ng c.toNat = false) (sd : ng d.toNat = false) (h : sv a.toNat * mv c.toNat ≤ sv b.toNat * mv d.toNat) : sv (fmul a c).toNat ≤ sv (fmul b d).toNat := by
  obtain ⟨r, e1, n1⟩ := mul_sv a c ha.1.1 hc.1.1 ha.2 hc.2 sc
  obtain ⟨r', e2, n2⟩ := mul_sv b d hb.1.1 hd.1.1 hb.2 hd.2 sd
  rw [e1, e2]
  have hD : 0 < 2 ^ 149 := Nat.two_pow_pos 149
  apply sgd_mono (n := mv a.toNat * mv c.toNat) (n' := mv b.toNat * mv d.toNat)
  · intro q; exact n1.mono n2 hD hD (Nat.mul_le_mul_right _ q)
  · intro q; exact n2.mono n1 hD hD (Nat.mul_le_mul_right _ q)
  · rw [sg_mul, sg_mul]; exact h
  · intro q; rw [q] at n1; exact near_zero_r hD n1
  · intro q; rw [q] at n2; exact near_zero_r hD n2
theorem add_le {a b c : Int} (ha : Fn a) (hb : Fn b) (hc : Fn c) (h : sv a.toNat ≤ sv b.toNat) : sv (fadd a c).toNat ≤ sv (fadd b c).toNat :=
  add_keeps a b c ha.1.1 hb.1.1 hc.1.1 (nan_of_fin ha.2) (nan_of_fin hb.2) h (fadd_nn ha hc) (fadd_nn hb hc)
theorem fn_0 : Fn 0 := ⟨pat_0, by decide⟩
theorem sv_0 : sv (0 : Int).toNat = 0 := by decide +kernel
theorem mul_ge0 {a c : Int} (ha : Fn a) (hc : Fn c) (sc : ng c.toNat = false) (h : 0 ≤ sv a.toNat) : 0 ≤ sv (fmul a c).toNat := by
  have := mul_le fn_0 ha hc hc sc sc (by rw [sv_0, Int.zero_mul]; exact Int.mul_nonneg h (by omega))
  have e : 0 ≤ sv (fmul 0 c).toNat := by
    obtain ⟨r, e1, n1⟩ := mul_sv 0 c (by decide) hc.1.1 (by decide) hc.2 sc
    rw [e1, show ng (0 : Int).toNat = false by decide]
    unfold sg; simp
  omega
theorem mul_le0 {a c : Int} (ha : Fn a) (hc : Fn c) (sc : ng c.toNat = false) (h : sv a.toNat ≤ 0) : sv (fmul a c).toNat ≤ 0 := by
  have := mul_le ha fn_0 hc hc sc sc (by rw [sv_0, Int.zero_mul]; exact Int.mul_nonpos_of_nonpos_of_nonneg h (by omega))
  have e : sv (fmul 0 c).toNat ≤ 0 := by
    obtain ⟨r, e1, n1⟩ := mul_sv 0 c (by decide) hc.1.1 (by decide) hc.2 sc
    have hD : 0 < 2 ^ 149 := Nat.two_pow_pos 149
    have hm : mv (0 : Int).toNat = 0 := by decide +kernel
    rw [hm, Nat.zero_mul] at n1
    rw [e1, near_zero_r hD n1, show ng (0 : Int).toNat = false by decide]
    simp [sg, V_zero]
  omega
theorem sv_ng {a : Int} (h : ng a.toNat = false) : sv a.toNat = (mv a.toNat : Int) := by unfold sv; rw [h]; simp [sg]

/-- One round of the polynomial, from what is not below 0. -/
theorem stage_pos {r u h q c : Int} (hr : Fn r) (hu : Fn u) (hh : Fn h) (hq : Fn q) (hc : Fn c) (su : ng u.toNat = false) (sq : ng q.toNat = false) (u1 : mv u.toNat ≤ mv q.toNat) (r0 : 0 ≤ sv r.toNat) (r1 : sv r.toNat ≤ sv h.toNat)
    (hp : Fn (fmul h q)) (ha : Fn (fadd 0 c)) (hb : Fn (fadd (fmul h q) c)) : Fn (fadd (fmul r u) c) ∧ sv (fadd 0 c).toNat ≤ sv (fadd (fmul r u) c).toNat ∧ sv (fadd (fmul r u) c).toNat ≤ sv (fadd (fmul h q) c).toNat := by
  have p0 := mul_ge0 hr hu su r0
  have p1 := mul_le hr hh hu hq su sq (by
    have h1 : sv r.toNat * (mv u.toNat : Int) ≤ sv r.toNat * (mv q.toNat : Int) := Int.mul_le_mul_of_nonneg_left (by omega) r0
    have h2 : sv r.toNat * (mv q.toNat : Int) ≤ sv h.toNat * (mv q.toNat : Int) := Int.mul_le_mul_of_nonneg_right r1 (by omega)
    omega)
  have fp : Fn (fmul r u) := fn_between (pat_mul r u) (fmul_nn hr hu) fn_0 hp (by rw [sv_0]; exact p0) p1
  have b0 := add_le fn_0 fp hc (by rw [sv_0]; exact p0)
  have b1 := add_le fp hp hc p1
  exact ⟨fn_between (pat_add _ _) (fadd_nn fp hc) ha hb b0 b1, b0, b1⟩
/-- The same from what is not above 0. -/
theorem stage_neg {r u l q c : Int} (hr : Fn r) (hu : Fn u) (hl : Fn l) (hq : Fn q) (hc : Fn c) (su : ng u.toNat = false) (sq : ng q.toNat = false) (u1 : mv u.toNat ≤ mv q.toNat) (r0 : sv r.toNat ≤ 0) (r1 : sv l.toNat ≤ sv r.toNat)
    (hp : Fn (fmul l q)) (ha : Fn (fadd 0 c)) (hb : Fn (fadd (fmul l q) c)) : Fn (fadd (fmul r u) c) ∧ sv (fadd (fmul l q) c).toNat ≤ sv (fadd (fmul r u) c).toNat ∧ sv (fadd (fmul r u) c).toNat ≤ sv (fadd 0 c).toNat := by
  have p0 := mul_le0 hr hu su r0
  have p1 := mul_le hl hr hq hu sq su (by
    have h1 : sv l.toNat * (mv q.toNat : Int) ≤ sv r.toNat * (mv q.toNat : Int) := Int.mul_le_mul_of_nonneg_right r1 (by omega)
    have h2 : sv r.toNat * (mv q.toNat : Int) ≤ sv r.toNat * (mv u.toNat : Int) := Int.mul_le_mul_of_nonpos_left r0 (by omega)
    omega)
  have fp : Fn (fmul r u) := fn_between (pat_mul r u) (fmul_nn hr hu) hp fn_0 p1 (by rw [sv_0]; exact p0)
  have b0 := add_le fp fn_0 hc (by rw [sv_0]; exact p0)
  have b1 := add_le hp fp hc p1
  exact ⟨fn_between (pat_add _ _) (fadd_nn fp hc) hb ha b1 b0, b1, b0⟩

/-- A concrete finite pattern. -/
def fnB (a : Int) : Bool := decide (0 ≤ a) && decide (a < 4294967296) && ffin a
theorem fn_b {a : Int} (h : fnB a = true) : Fn a := by
  unfold fnB at h
  simp only [Bool.and_eq_true, decide_eq_true_eq] at h
  exact ⟨⟨h.1.1, h.1.2⟩, h.2⟩
theorem ng_small {a : Int} (h0 : 0 ≤ a) (h1 : a < 2147483648) : ng a.toNat = false := by
  unfold ng; simp; omega
theorem fn_small {a : Int} (h0 : 0 ≤ a) (h1 : a < 2139095040) : Fn a := by
  refine ⟨⟨h0, by omega⟩, ?_⟩
  unfold ffin; simp; omega
theorem sv_small {a b : Int} (h0 : 0 ≤ a) (hab : a ≤ b) (hb : b < 2147483648) : sv a.toNat ≤ sv b.toNat ∧ mv a.toNat ≤ mv b.toNat := by
  have e : mv a.toNat ≤ mv b.toNat := by unfold mv; exact V_le 23 (by unfold rg; omega)
  refine ⟨?_, e⟩
  rw [sv_ng (ng_small h0 (by omega)), sv_ng (ng_small (by omega) hb)]
  omega
theorem sv_small_lt {a b : Int} (h0 : 0 ≤ a) (hab : a < b) (hb : b < 2147483648) : sv a.toNat < sv b.toNat := by
  rw [sv_ng (ng_small h0 (by omega)), sv_ng (ng_small (by omega) hb)]
  have : mv a.toNat < mv b.toNat := by unfold mv; exact V_lt 23 (by unfold rg; omega)
  omega
theorem small_of_sv {a b : Int} (ha : Pat a) (sa : ng a.toNat = false) (hb0 : 0 ≤ b) (hb : b < 2147483648) (h : sv a.toNat ≤ sv b.toNat) : a ≤ b := by
  have h1 : a < 2147483648 := by
    have := ha.2
    unfold ng at sa
    simp at sa
    have := ha.1
    omega
  rcases (by omega : b < a ∨ a ≤ b) with c | c
  · have := sv_small_lt hb0 c h1; omega
  · exact c

/-- What the polynomial says from 0 to a half: from -1 to 1. -/
theorem qrt_bound {t : Int} (h0 : 0 ≤ t) (h1 : t ≤ 1056964608) : Fn (qrt t) ∧ -sv (1065353216 : Int).toNat ≤ sv (qrt t).toNat ∧ sv (qrt t).toNat ≤ sv (1065353216 : Int).toNat := by
  have ft : Fn t := fn_small h0 (by omega)
  have st := ng_small h0 (show t < 2147483648 by omega)
  have fh : Fn 1056964608 := fn_small (by decide) (by decide)
  have sh : ng (1056964608 : Int).toNat = false := by decide +kernel
  have hm := (sv_small h0 h1 (by decide)).2
  obtain ⟨q, hq⟩ : ∃ q : Int, fmul 1056964608 1056964608 = q := ⟨_, rfl⟩
  have hqv : q = 1048576000 := by rw [← hq]; decide +kernel
  obtain ⟨u, hu⟩ : ∃ u, fmul t t = u := ⟨_, rfl⟩
  have su : ng u.toNat = false := by
    obtain ⟨r, e, -⟩ := fmul_wd ft ft
    rw [← hu, e, ng_wd, st]; rfl
  have ule : sv u.toNat ≤ sv q.toNat := by
    rw [← hu, ← hq]
    refine mul_le ft fh ft fh st sh ?_
    rw [sv_ng st, sv_ng sh]
    rw [← Int.natCast_mul, ← Int.natCast_mul]
    exact Int.ofNat_le.2 (Nat.mul_le_mul hm hm)
  have fq : Fn q := by rw [hqv]; exact fn_small (by decide) (by decide)
  have sq : ng q.toNat = false := by rw [hqv]; decide +kernel
  have fu : Fn u := fn_between (by rw [← hu]; exact pat_mul t t) (by rw [← hu]; exact fmul_nn ft ft) fn_0 fq (by rw [sv_0, sv_ng su]; omega) ule
  have um : mv u.toNat ≤ mv q.toNat := by rw [sv_ng su, sv_ng sq] at ule; omega
  unfold qrt
  rw [hu]
  subst hqv
  clear hq hu
  have s1 := stage_pos (r := 989653445) (u := u) (h := 989653445) (q := 1048576000) (c := 3167971577) (fn_b (by decide +kernel)) fu (fn_b (by decide +kernel)) fq (fn_b (by decide +kernel)) su sq um (by decide +kernel) (Int.le_refl _) (fn_b (by decide +kernel)) (fn_b (by decide +kernel)) (fn_b (by decide +kernel))
  have e1 : qrN u 1 = fadd (fmul 989653445 u) 3167971577 := rfl
  rw [← e1] at s1
  have k1 : sv (fadd (fmul 989653445 1048576000) 3167971577).toNat ≤ 0 := by decide +kernel
  have s2 := stage_neg (r := qrN u 1) (u := u) (l := fadd 0 3167971577) (q := 1048576000) (c := 1047591555) s1.1 fu (fn_b (by decide +kernel)) fq (fn_b (by decide +kernel)) su sq um (by omega) s1.2.1 (fn_b (by decide +kernel)) (fn_b (by decide +kernel)) (fn_b (by decide +kernel))
  have e2 : qrN u 2 = fadd (fmul (qrN u 1) u) 1047591555 := rfl
  rw [← e2] at s2
  have k2 : 0 ≤ sv (fadd (fmul (fadd 0 3167971577) 1048576000) 1047591555).toNat := by decide +kernel
  have s3 := stage_pos (r := qrN u 2) (u := u) (h := fadd 0 1047591555) (q := 1048576000) (c := 3215649252) s2.1 fu (fn_b (by decide +kernel)) fq (fn_b (by decide +kernel)) su sq um (by omega) s2.2.2 (fn_b (by decide +kernel)) (fn_b (by decide +kernel)) (fn_b (by decide +kernel))
  have e3 : qrN u 3 = fadd (fmul (qrN u 2) u) 3215649252 := rfl
  rw [← e3] at s3
  have k3 : sv (fadd (fmul (fadd 0 1047591555) 1048576000) 3215649252).toNat ≤ 0 := by decide +kernel
  have s4 := stage_neg (r := qrN u 3) (u := u) (l := fadd 0 3215649252) (q := 1048576000) (c := 1082253560) s3.1 fu (fn_b (by decide +kernel)) fq (fn_b (by decide +kernel)) su sq um (by omega) s3.2.1 (fn_b (by decide +kernel)) (fn_b (by decide +kernel)) (fn_b (by decide +kernel))
  have e4 : qrN u 4 = fadd (fmul (qrN u 3) u) 1082253560 := rfl
  rw [← e4] at s4
  have k4 : 0 ≤ sv (fadd (fmul (fadd 0 3215649252) 1048576000) 1082253560).toNat := by decide +kernel
  have s5 := stage_pos (r := qrN u 4) (u := u) (h := fadd 0 1082253560) (q := 1048576000) (c := 3231574502) s4.1 fu (fn_b (by decide +kernel)) fq (fn_b (by decide +kernel)) su sq um (by omega) s4.2.2 (fn_b (by decide +kernel)) (fn_b (by decide +kernel)) (fn_b (by decide +kernel))
  have e5 : qrN u 5 = fadd (fmul (qrN u 4) u) 3231574502 := rfl
  rw [← e5] at s5
  have k5 : sv (fadd (fmul (fadd 0 1082253560) 1048576000) 3231574502).toNat ≤ 0 := by decide +kernel
  have s6 := stage_neg (r := qrN u 5) (u := u) (l := fadd 0 3231574502) (q := 1048576000) (c := 1065353216) s5.1 fu (fn_b (by decide +kernel)) fq (fn_b (by decide +kernel)) su sq um (by omega) s5.2.1 (fn_b (by decide +kernel)) (fn_b (by decide +kernel)) (fn_b (by decide +kernel))
  have e6 : qrN u 6 = fadd (fmul (qrN u 5) u) 1065353216 := rfl
  rw [← e6] at s6
  have k6 : -sv (1065353216 : Int).toNat ≤ sv (fadd (fmul (fadd 0 3231574502) 1048576000) 1065353216).toNat := by decide +kernel
  have k7 : sv (fadd 0 1065353216).toNat = sv (1065353216 : Int).toNat := by decide +kernel
  exact ⟨s6.1, by omega, by omega⟩

theorem clmp_small {a : Int} (h0 : 0 ≤ a) (h1 : a ≤ 1065353216) : clmp a = a := by
  have fa := fn_small h0 (show a < 2139095040 by omega)
  have na := nan_of_fin fa.2
  have n0 : nan 0 = false := by decide
  have n1 : nan 1065353216 = false := by decide
  have e1 : fmax a 0 = a := by
    unfold fmax
    rw [ord_eq a 0 h0 (by decide), if_neg (by rw [na, n0]; simp)]
    rcases Int.lt_or_eq_of_le h0 with c | c
    · rw [cmp_gt (by have := sv_small_lt (a := 0) (b := a) (by decide) c (by omega); exact this)]
    · rw [← c]; rfl
  unfold clmp
  rw [e1]
  unfold fmin
  rw [ord_eq a 1065353216 h0 (by decide), if_neg (by rw [na, n1]; simp)]
  rcases Int.lt_or_eq_of_le h1 with c | c
  · rw [cmp_lt (sv_small_lt h0 c (by decide))]
  · rw [c, cmp_eq rfl]; rfl
theorem less_half {a : Int} (h0 : 0 ≤ a) (h1 : a ≤ 1065353216) : fless 1056964608 a = decide (1056964608 < a) := by
  have fa := fn_small h0 (show a < 2139095040 by omega)
  have na := nan_of_fin fa.2
  rw [Bool.eq_iff_iff, fless_iff _ _ (by decide) h0, decide_eq_true_eq]
  constructor
  · intro h
    rcases (by omega : 1056964608 < a ∨ a ≤ 1056964608) with c | c
    · exact c
    · have := (sv_small h0 c (by decide)).1; omega
  · intro h
    exact ⟨by decide, na, sv_small_lt (by decide) h (by omega)⟩
theorem wave_low {a : Int} (h0 : 0 ≤ a) (h1 : a < 1056964608) : wave a = qrt a := by
  unfold wave
  simp only
  rw [clmp_small h0 (by omega), if_neg (by omega), less_half h0 (by omega), if_neg (by simp; omega)]
theorem wave_high {a : Int} (h0 : 1056964608 < a) (h1 : a ≤ 1065353216) : wave a = fneg (qrt (fsub 1065353216 a)) := by
  unfold wave
  simp only
  rw [clmp_small (by omega) h1, if_neg (by omega), less_half (by omega) h1, if_pos (by simpa using h0)]
/-- 1 less a number above a half, up to 1, lies from 0 to below a half. -/
theorem sub_high {a : Int} (h0 : 1056964608 < a) (h1 : a ≤ 1065353216) : 0 ≤ fsub 1065353216 a ∧ fsub 1065353216 a < 1056964608 := by
  have fa := fn_small (show 0 ≤ a by omega) (show a < 2139095040 by omega)
  have f1 : Fn 1065353216 := fn_small (by decide) (by decide)
  obtain ⟨e, sa, na, -⟩ := fsub_sv 1065353216 a fa.1.1 fa.1.2 fa.2
  have fna : Fn (fneg a) := ⟨fneg_lo a fa.1.1 fa.1.2, na⟩
  rw [e]
  have f2 : Fn 1056964609 := fn_small (by decide) (by decide)
  have fn2 : Fn (fneg 1056964609) := fn_b (by decide +kernel)
  have hs2 : sv (fneg 1056964609).toNat = -sv (1056964609 : Int).toNat := by decide +kernel
  have hle := (sv_small (a := 1056964609) (b := a) (by decide) (by omega) (by omega)).1
  have b1 := add_le fna fn2 f1 (by rw [sa, hs2]; omega)
  rw [fadd_comm (fneg a) 1065353216] at b1
  have hz := fadd_wd f1 fna
  have hsum : 0 ≤ sv (1065353216 : Int).toNat + sv (fneg a).toNat := by rw [sa]; have := (sv_small (show 0 ≤ a by omega) h1 (by decide)).1; omega
  have sg0 : ng (fadd 1065353216 (fneg a)).toNat = false := by
    rw [hz, ng_wd]
    split
    · rw [show ng (1065353216 : Int).toNat = false by decide +kernel]; rfl
    · exact decide_eq_false (by omega)
  have k : sv (fadd (fneg 1056964609) 1065353216).toNat = sv (1056964606 : Int).toNat := by decide +kernel
  have := small_of_sv (fadd_lo 1065353216 (fneg a)) sg0 (b := 1056964606) (by decide) (by decide) (by rw [← k]; exact b1)
  exact ⟨(fadd_lo _ _).1, by omega⟩
theorem less_abs {x : Int} (hx : Fn x) (h1 : -sv (1065353216 : Int).toNat ≤ sv x.toNat) (h2 : sv x.toNat ≤ sv (1065353216 : Int).toNat) : fless 1065353216 (fabs x) = false := by
  obtain ⟨-, e, f⟩ := fabs_sv x hx.1.1 hx.1.2 hx.2
  cases h : fless 1065353216 (fabs x)
  · rfl
  · exfalso
    have hp : 0 ≤ fabs x := by unfold fabs canon; split; decide; omega
    have := ((fless_iff _ _ (by decide) hp).1 h).2.2
    rw [e] at this
    unfold sv sg at h1 h2 this
    split at h1 <;> simp_all <;> omega
/-- SC2, plainly. -/
theorem wave_bound {a : Int} (h0 : 0 ≤ a) (h1 : a ≤ 1065353216) : Fn (wave a) ∧ fless 1065353216 (fabs (wave a)) = false := by
  rcases (by omega : a < 1056964608 ∨ 1056964608 ≤ a) with c | c
  · rw [wave_low h0 c]
    obtain ⟨f, b1, b2⟩ := qrt_bound h0 (by omega)
    exact ⟨f, less_abs f b1 b2⟩
  · rcases Int.lt_or_eq_of_le c with c | c
    · rw [wave_high c h1]
      obtain ⟨s0, s1⟩ := sub_high c h1
      obtain ⟨f, b1, b2⟩ := qrt_bound s0 (by omega)
      obtain ⟨-, e, g, -⟩ := fsub_sv 0 (qrt (fsub 1065353216 a)) f.1.1 f.1.2 f.2
      have f' : Fn (fneg (qrt (fsub 1065353216 a))) := ⟨fneg_lo _ f.1.1 f.1.2, g⟩
      exact ⟨f', less_abs f' (by rw [e]; omega) (by rw [e]; omega)⟩
    · rw [← c]
      exact ⟨fn_b (by decide +kernel), by decide +kernel⟩
theorem wave_turn {a : Int} (h0 : 1056964608 < a) (h1 : a ≤ 1065353216) : wave (fsub 1065353216 a) = fneg (wave a) := by
  obtain ⟨s0, s1⟩ := sub_high h0 h1
  obtain ⟨f, -⟩ := qrt_bound s0 (by omega)
  rw [wave_low s0 s1, wave_high h0 h1, fneg_neg _ f.1.1 f.1.2 f.2]
theorem wave_ends : wave 0 = 1065353216 ∧ wave 1065353216 = 3212836864 ∧ wave 1056964608 = 0 := by decide +kernel

end Go.Proofs.Ytnogokikiekcbab
