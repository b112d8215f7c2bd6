import Derived.Test.YtnogokikiekcbaaSchWaveP
/- A polynomial schedule goes one way. No program in it. -/
namespace Go.Proofs.Ytnogokikiekcbaa
set_option linter.unusedVariables false
set_option maxRecDepth 10000

/-- Patterns from 0 to 1. -/
def Un (x : Int) : Prop := 0 ≤ x ∧ x ≤ 1065353216
theorem Un.fn {x : Int} (h : Un x) : Fn x := fn_small h.1 (by have := h.2; omega)
theorem Un.ng {x : Int} (h : Un x) : ng x.toNat = false := ng_small h.1 (by have := h.2; omega)
theorem Un.sv {x : Int} (h : Un x) : sv x.toNat = (mv x.toNat : Int) := sv_ng h.ng
theorem Un.le {x y : Int} (h : Un x) (k : Un y) (e : x ≤ y) : mv x.toNat ≤ mv y.toNat := (sv_small h.1 e (by have := k.2; omega)).2
theorem un_0 : Un 0 := ⟨by decide, by decide⟩
theorem un_1 : Un 1065353216 := ⟨by decide, by decide⟩
theorem fn_1 : Fn 1065353216 := un_1.fn
theorem mv_1 : mv (1065353216 : Int).toNat = 2 ^ 149 := by decide +kernel
theorem one_nonneg_ng {x : Int} (hx : Pat x) (sx : ng x.toNat = false) (h : sv x.toNat ≤ sv (1065353216 : Int).toNat) : Un x := ⟨hx.1, small_of_sv hx sx (by decide) (by decide) h⟩
/-- Products of these. -/
theorem un_mul {a b c d : Int} (ha : Un a) (hb : Un b) (hc : Un c) (hd : Un d) (h1 : a ≤ b) (h2 : c ≤ d) : Un (fmul a c) ∧ fmul a c ≤ fmul b d := by
  have s : ∀ {x y : Int}, Un x → Un y → ng (fmul x y).toNat = false := fun {x y} hx hy => by
    obtain ⟨r, e, -⟩ := fmul_wd hx.fn hy.fn
    rw [e, ng_wd, hx.ng, hy.ng]; rfl
  have key : ∀ {x y z t : Int}, Un x → Un y → Un z → Un t → x ≤ y → z ≤ t → sv (fmul x z).toNat ≤ sv (fmul y t).toNat := fun {x y z t} hx hy hz ht h1 h2 => by
    refine mul_le hx.fn hy.fn hz.fn ht.fn hz.ng ht.ng ?_
    rw [hx.sv, hy.sv, ← Int.natCast_mul, ← Int.natCast_mul]
    exact Int.ofNat_le.2 (Nat.mul_le_mul (hx.le hy h1) (hz.le ht h2))
  have e1 : fmul 1065353216 1065353216 = 1065353216 := by decide +kernel
  have top : ∀ {x z : Int}, Un x → Un z → Un (fmul x z) := fun {x z} hx hz => by
    have := key hx un_1 hz un_1 hx.2 hz.2
    rw [e1] at this
    exact one_nonneg_ng (fmul_lo _ _) (s hx hz) this
  refine ⟨top ha hc, ?_⟩
  have ub := top hb hd
  exact small_of_sv (fmul_lo _ _) (s ha hc) ub.1 (by have := ub.2; omega) (key ha hb hc hd h1 h2)
/-- 1 less these. -/
theorem un_sub {x : Int} (hx : Un x) : Un (fsub 1065353216 x) := by
  obtain ⟨e, sa, na, -⟩ := fsub_sv 1065353216 x hx.fn.1.1 hx.fn.1.2 hx.fn.2
  have fna : Fn (fneg x) := ⟨fneg_lo x hx.fn.1.1 hx.fn.1.2, na⟩
  rw [e]
  have hz := fadd_wd fn_1 fna
  have hsum : 0 ≤ sv (1065353216 : Int).toNat + sv (fneg x).toNat := by
    rw [sa, hx.sv, un_1.sv]
    have := hx.le un_1 hx.2
    omega
  have sg0 : ng (fadd 1065353216 (fneg x)).toNat = false := by
    rw [hz, ng_wd]
    split
    · rw [un_1.ng]; rfl
    · exact decide_eq_false (by omega)
  have b1 := add_le fna fn_0 fn_1 (by rw [sa, hx.sv, sv_0]; omega)
  rw [fadd_comm (fneg x) 1065353216, show fadd 0 1065353216 = 1065353216 by decide +kernel] at b1
  exact one_nonneg_ng (fadd_lo _ _) sg0 b1
theorem un_sub_le {x y : Int} (hx : Un x) (hy : Un y) (h : x ≤ y) : fsub 1065353216 y ≤ fsub 1065353216 x := by
  have ux := un_sub hx
  have uy := un_sub hy
  obtain ⟨ex, sx, nx, -⟩ := fsub_sv 1065353216 x hx.fn.1.1 hx.fn.1.2 hx.fn.2
  obtain ⟨ey, sy, ny, -⟩ := fsub_sv 1065353216 y hy.fn.1.1 hy.fn.1.2 hy.fn.2
  have fx : Fn (fneg x) := ⟨fneg_lo x hx.fn.1.1 hx.fn.1.2, nx⟩
  have fy : Fn (fneg y) := ⟨fneg_lo y hy.fn.1.1 hy.fn.1.2, ny⟩
  have b := add_le fy fx fn_1 (by rw [sx, sy, hx.sv, hy.sv]; have := hx.le hy h; omega)
  rw [fadd_comm (fneg y), fadd_comm (fneg x), ← ex, ← ey] at b
  exact small_of_sv (fsub_lo _ _) uy.ng ux.1 (by have := ux.2; omega) b
/-- Powers of these. -/
theorem un_pw (n : Int) : ∀ (k : Nat) (x y r s : Int), Un x → Un y → Un r → Un s → x ≤ y → r ≤ s → Un (fpw x n k r) ∧ fpw x n k r ≤ fpw y n k s
  | 0, x, y, r, s, hx, hy, hr, hs, h1, h2 => ⟨hr, h2⟩
  | k + 1, x, y, r, s, hx, hy, hr, hs, h1, h2 => by
    have m1 := un_mul hr hs hr hs h2 h2
    have m1' := (un_mul hs hs hs hs (Int.le_refl _) (Int.le_refl _)).1
    have m2 := un_mul m1.1 m1' hx hy m1.2 h1
    have m2' := (un_mul m1' m1' hy hy (Int.le_refl _) (Int.le_refl _)).1
    unfold fpw
    by_cases c : n / 2 ^ k % 2 = 1
    · rw [if_pos c, if_pos c]; exact un_pw n k x y _ _ hx hy m2.1 m2' h1 m2.2
    · rw [if_neg c, if_neg c]; exact un_pw n k x y _ _ hx hy m1.1 m1' h1 m1.2
theorem un_canon {x : Int} (h : Un x) : canon x = x := by
  unfold canon
  rw [if_neg]
  rw [nan_of_fin h.fn.2]
  decide
theorem un_pow {x y n : Int} (hn : 1 ≤ n) (hx : Un x) (hy : Un y) (h : x ≤ y) : Un (fpow x n) ∧ fpow x n ≤ fpow y n := by
  unfold fpow
  rw [if_neg (by omega), if_neg (by omega), un_canon hx, un_canon hy]
  exact un_pw n _ x y x y hx hy hx hy h h
theorem pw_const (n c : Int) (h1 : fmul c c = c) : ∀ k, fpw c n k c = c
  | 0 => rfl
  | k + 1 => by
    unfold fpw
    split
    · rw [h1, h1]; exact pw_const n c h1 k
    · rw [h1]; exact pw_const n c h1 k
theorem pow_one {n : Int} (hn : 1 ≤ n) : fpow 1065353216 n = 1065353216 := by
  unfold fpow
  rw [if_neg (by omega), un_canon un_1]
  exact pw_const n _ (by decide +kernel) _
theorem pow_zero {n : Int} (hn : 1 ≤ n) : fpow 0 n = 0 := by
  unfold fpow
  rw [if_neg (by omega), un_canon un_0]
  exact pw_const n _ (by decide +kernel) _

/-- Whole numbers, as patterns. -/
theorem from_near {c : Int} (h0 : 0 ≤ c) (h1 : c ≤ 2147483647) : ∃ r : Nat, ffrom c = (r : Int) ∧ r ≤ 1325400064 ∧ Near 23 (c.toNat * 2 ^ 149) 1 r := by
  have hn := near_rungOf 23 (-149) c.natAbs 0 (by decide) 149 0 (by decide)
  rw [Nat.pow_zero] at hn
  have he : c.natAbs = c.toNat := by omega
  rw [he] at hn
  obtain ⟨r, hr⟩ : ∃ r, rungOf 23 (-149) c.toNat 0 = r := ⟨_, rfl⟩
  rw [hr] at hn
  have hx := near_exact 23 1325400064 1 (by decide)
  have hb : r ≤ 1325400064 := hn.mono hx (by decide) (by decide) (by
    rw [Nat.mul_one, Nat.mul_one, Nat.mul_one, show V 23 1325400064 = 2147483648 * 2 ^ 149 by decide +kernel]
    exact Nat.mul_le_mul_right _ (by omega))
  refine ⟨r, ?_, hb, hn⟩
  unfold ffrom
  rw [nearest_eq, show Ieee.single.fractionBits = 23 from rfl, show Ieee.single.leastPlace = -149 from rfl, he, hr, decide_eq_false (by omega), word_wd]
  unfold wd
  simp
  omega
theorem from_le_from {c d : Int} (h0 : 0 ≤ c) (h : c ≤ d) (h1 : d ≤ 2147483647) : ffrom c ≤ ffrom d := by
  obtain ⟨r, e, -, n1⟩ := from_near h0 (by omega)
  obtain ⟨s, f, -, n2⟩ := from_near (show 0 ≤ d by omega) h1
  rw [e, f]
  have := n1.mono n2 (by decide) (by decide) (by rw [Nat.mul_one, Nat.mul_one]; exact Nat.mul_le_mul_right _ (by omega))
  omega
theorem from_ge_one {c : Int} (h0 : 1 ≤ c) (h1 : c ≤ 2147483647) : 1065353216 ≤ ffrom c ∧ ffrom c ≤ 1325400064 := by
  have := from_le_from (c := 1) (by decide) h0 h1
  have e : ffrom 1 = 1065353216 := by decide +kernel
  obtain ⟨r, f, b, -⟩ := from_near (show 0 ≤ c by omega) h1
  rw [f] at this ⊢
  omega
/-- Quotients of these. -/
theorem div_near' {a b : Int} (ha : 1065353216 ≤ a ∧ a ≤ 1325400064) (hb : 1065353216 ≤ b ∧ b ≤ 1325400064) : ∃ r, (fdiv a b).toNat = wd false r ∧ Near 23 (mv a.toNat * 2 ^ 149) (mv b.toNat) r ∧ 0 < mv b.toNat := by
  have pos : ∀ x : Int, 1065353216 ≤ x ∧ x ≤ 1325400064 → 0 < mv x.toNat := fun x hx => by
    have := (sv_small (a := 1065353216) (b := x) (by decide) hx.1 (by omega)).2
    rw [mv_1] at this
    have := Nat.two_pow_pos 149
    omega
  have mg0 : ∀ x : Int, 1065353216 ≤ x ∧ x ≤ 1325400064 → mg x.toNat ≠ 0 := fun x hx q => by
    have := pos x hx
    rw [mv_eq, q, Nat.zero_mul] at this
    omega
  have fa : Fn a := fn_small (by omega) (by omega)
  have fb : Fn b := fn_small (by omega) (by omega)
  obtain ⟨r, hr, hn⟩ := div_fin a.toNat b.toNat fa.rg fb.rg (mg0 a ha) (mg0 b hb)
  refine ⟨r, ?_, hn, pos b hb⟩
  unfold fdiv
  rw [hr, ng_small (a := a) (by omega) (by omega), ng_small (a := b) (by omega) (by omega)]
  rfl
theorem div_same {b : Int} (hb : 1065353216 ≤ b ∧ b ≤ 1325400064) : fdiv b b = 1065353216 := by
  obtain ⟨r, e, n1, hp⟩ := div_near' hb hb
  have n2 := near_exact 23 1065353216 (mv b.toNat) hp
  have hr := n1.unique n2 hp hp (by rw [show V 23 1065353216 = 2 ^ 149 by decide +kernel, Nat.mul_comm (2 ^ 149)])
  subst hr
  have := (fdiv_lo b b).1
  have e2 : (fdiv b b).toNat = 1065353216 := by rw [e]; rfl
  omega
theorem div_zero {b : Int} (hb : 1065353216 ≤ b ∧ b ≤ 1325400064) : fdiv 0 b = 0 := by
  have fb : Fn b := fn_small (by omega) (by omega)
  have mb : mg b.toNat ≠ 0 := fun q => by
    have := (sv_small (a := 1065353216) (b := b) (by decide) hb.1 (by omega)).2
    rw [mv_1, mv_eq, q, Nat.zero_mul] at this
    have := Nat.two_pow_pos 149
    omega
  have e : (fdiv 0 b).toNat = wd (ng (0 : Int).toNat ^^ ng b.toNat) 0 := by
    have e0 : Ieee.single.read (0 : Int).toNat = .number false 0 (-149) := by decide +kernel
    unfold fdiv Ieee.Format.div
    rw [e0, read_fin _ fb.rg]
    simp only [Ieee.Datum.quotient, if_neg mb, Nat.zero_shiftLeft, Nat.zero_div, Nat.zero_mod]
    rfl
  rw [ng_small (a := b) (by omega) (by omega), un_0.ng] at e
  have h0 := (fdiv_lo 0 b).1
  have e2 : (fdiv 0 b).toNat = 0 := by rw [e]; rfl
  omega
theorem div_mono {a a' b : Int} (ha : 1065353216 ≤ a ∧ a ≤ 1325400064) (ha' : 1065353216 ≤ a' ∧ a' ≤ 1325400064) (hb : 1065353216 ≤ b ∧ b ≤ 1325400064) (h : a ≤ a') (hab : a' ≤ b) : Un (fdiv a b) ∧ fdiv a b ≤ fdiv a' b := by
  have key : ∀ {x y : Int}, 1065353216 ≤ x ∧ x ≤ 1325400064 → 1065353216 ≤ y ∧ y ≤ 1325400064 → x ≤ y → fdiv x b ≤ fdiv y b := fun {x y} hx hy hxy => by
    obtain ⟨r, e, n1, hp⟩ := div_near' hx hb
    obtain ⟨s, f, n2, -⟩ := div_near' hy hb
    have hm := (sv_small (a := x) (b := y) (by omega) hxy (by omega)).2
    have := n1.mono n2 hp hp (Nat.mul_le_mul_right _ (Nat.mul_le_mul_right _ hm))
    have h1 := (fdiv_lo x b).1
    have h2 := (fdiv_lo y b).1
    unfold wd at e f
    simp at e f
    omega
  refine ⟨⟨(fdiv_lo a b).1, ?_⟩, key ha ha' h⟩
  have := key ha hb (by omega)
  rw [div_same hb] at this
  exact this
theorem rat_mono {c d s : Int} (h0 : 0 ≤ c) (h1 : c ≤ d) (h2 : d ≤ s) (h3 : 1 ≤ s) (h4 : s ≤ 2147483647) : Un (rat c s) ∧ Un (rat d s) ∧ rat c s ≤ rat d s := by
  have fs := from_ge_one h3 h4
  have z : ∀ {x : Int}, x = 0 → rat x s = 0 := fun {x} hx => by
    subst hx
    unfold rat
    rw [show ffrom 0 = 0 by decide +kernel]
    exact div_zero fs
  by_cases hd : d = 0
  · have hc : c = 0 := by omega
    rw [z hd, z hc]
    exact ⟨un_0, un_0, Int.le_refl _⟩
  · have fd := from_ge_one (show 1 ≤ d by omega) (by omega)
    have ud := (div_mono fd fd fs (Int.le_refl _) (from_le_from (by omega) h2 h4)).1
    by_cases hc : c = 0
    · rw [z hc]
      exact ⟨un_0, ud, ud.1⟩
    · have fc := from_ge_one (show 1 ≤ c by omega) (by omega)
      have := div_mono fc fd fs (from_le_from h0 h1 (by omega)) (from_le_from (by omega) h2 h4)
      exact ⟨this.1, ud, this.2⟩
theorem rat_0 {s : Int} (h3 : 1 ≤ s) (h4 : s ≤ 2147483647) : rat 0 s = 0 := by
  unfold rat
  rw [show ffrom 0 = 0 by decide +kernel]
  exact div_zero (from_ge_one h3 h4)
theorem rat_1 {s : Int} (h3 : 1 ≤ s) (h4 : s ≤ 2147483647) : rat s s = 1065353216 := div_same (from_ge_one h3 h4)

/-- The power that is left at a step. -/
def lft (p s g n : Int) : Int := fpow (fsub 1065353216 (rat (min (max (n - g) 0) s) s)) p
theorem lft_mono {p s g m n : Int} (hp : 1 ≤ p) (hs : 1 ≤ s) (hs2 : s ≤ 2147483647) (h : m ≤ n) : Un (lft p s g n) ∧ Un (lft p s g m) ∧ lft p s g n ≤ lft p s g m := by
  obtain ⟨u1, u2, u3⟩ := rat_mono (c := min (max (m - g) 0) s) (d := min (max (n - g) 0) s) (s := s) (by omega) (by omega) (by omega) hs hs2
  have v := un_sub_le u1 u2 u3
  have := un_pow hp (un_sub u2) (un_sub u1) v
  exact ⟨this.1, (un_pow hp (un_sub u1) (un_sub u1) (Int.le_refl _)).1, this.2⟩
theorem lft_end {p s g n : Int} (hp : 1 ≤ p) (hs : 1 ≤ s) (hs2 : s ≤ 2147483647) (h : g + s ≤ n) : lft p s g n = 0 := by
  unfold lft
  rw [show min (max (n - g) 0) s = s by omega, rat_1 hs hs2, show fsub 1065353216 1065353216 = 0 by decide +kernel, pow_zero hp]
theorem lft_begin {p s g n : Int} (hp : 1 ≤ p) (hs : 1 ≤ s) (hs2 : s ≤ 2147483647) (h : n ≤ g) : lft p s g n = 1065353216 := by
  unfold lft
  rw [show min (max (n - g) 0) s = 0 by omega, rat_0 hs hs2, show fsub 1065353216 0 = 1065353216 by decide +kernel, pow_one hp]

/-- The value, from what is left. -/
theorem val_nn {d b y : Int} (hd : Fn d) (hb : Fn b) (hy : Un y) : Fn (fmul d y) ∧ nan (fadd (fmul d y) b) = false := by
  have e1 : sv (fmul d 1065353216).toNat = sv d.toNat := by
    obtain ⟨r, e, n1⟩ := mul_sv d 1065353216 hd.1.1 (by decide) hd.2 fn_1.2 un_1.ng
    have hD : 0 < 2 ^ 149 := Nat.two_pow_pos 149
    have n2 := near_exact 23 (rg d.toNat) (2 ^ 149) hD
    rw [mv_1] at n1
    have hr := n1.unique n2 hD hD rfl
    rw [e, hr, Nat.min_eq_left (Nat.le_of_lt hd.rg)]
    rfl
  have hle : ∀ {a c : Int}, Un a → Un c → a ≤ c → (mv a.toNat : Int) ≤ (mv c.toNat : Int) := fun {a c} ha hc h => Int.ofNat_le.2 (ha.le hc h)
  have fm : Fn (fmul d y) := by
    have sd := sv_fin hd.rg
    rcases (by omega : 0 ≤ sv d.toNat ∨ sv d.toNat ≤ 0) with c | c
    · have a1 := mul_ge0 hd hy.fn hy.ng c
      have a2 := mul_le hd hd hy.fn fn_1 hy.ng un_1.ng (Int.mul_le_mul_of_nonneg_left (hle hy un_1 hy.2) c)
      rw [e1] at a2
      exact fn_of (fmul_lo _ _) (fmul_nn hd hy.fn) (by omega) (by omega)
    · have a1 := mul_le0 hd hy.fn hy.ng c
      have a2 := mul_le hd hd fn_1 hy.fn un_1.ng hy.ng (Int.mul_le_mul_of_nonpos_left c (hle hy un_1 hy.2))
      rw [e1] at a2
      exact fn_of (fmul_lo _ _) (fmul_nn hd hy.fn) (by omega) (by omega)
  exact ⟨fm, fadd_nn fm hb⟩
theorem val_down {d b y z : Int} (hd : Fn d) (hb : Fn b) (hy : Un y) (hz : Un z) (h : y ≤ z) (s : 0 ≤ sv d.toNat) : sv (fadd (fmul d y) b).toNat ≤ sv (fadd (fmul d z) b).toNat := by
  have m := mul_le hd hd hy.fn hz.fn hy.ng hz.ng (Int.mul_le_mul_of_nonneg_left (Int.ofNat_le.2 (hy.le hz h)) s)
  exact add_le (val_nn hd hb hy).1 (val_nn hd hb hz).1 hb m
theorem val_up {d b y z : Int} (hd : Fn d) (hb : Fn b) (hy : Un y) (hz : Un z) (h : y ≤ z) (s : sv d.toNat ≤ 0) : sv (fadd (fmul d z) b).toNat ≤ sv (fadd (fmul d y) b).toNat := by
  have m := mul_le hd hd hz.fn hy.fn hz.ng hy.ng (Int.mul_le_mul_of_nonpos_left s (Int.ofNat_le.2 (hy.le hz h)))
  exact add_le (val_nn hd hb hz).1 (val_nn hd hb hy).1 hb m
theorem val_end {d b : Int} (hd : Fn d) (hb : Fn b) : sv (fadd (fmul d 0) b).toNat = sv b.toNat := by
  have f := (val_nn hd hb un_0).1
  have z : sv (fmul d 0).toNat = 0 := by
    obtain ⟨r, e, n1⟩ := mul_sv d 0 hd.1.1 (by decide) hd.2 fn_0.2 un_0.ng
    have hD : 0 < 2 ^ 149 := Nat.two_pow_pos 149
    rw [show mv (0 : Int).toNat = 0 by decide +kernel, Nat.mul_zero] at n1
    rw [e, near_zero_r hD n1]
    simp [sg, V_zero]
  have hmg : mg b.toNat < 16777216 := by unfold mg; split <;> omega
  have habs : (sv (fmul d 0).toNat + sv b.toNat).natAbs = mv b.toNat := by
    rw [z, Int.zero_add]
    unfold sv sg; split <;> omega
  have sb := sv_fin hb.rg
  have := (add_exact (fmul d 0) b f.1.1 hb.1.1 f.2 hb.2 (by rw [habs]; exact R_repr _ _ _ hmg (mv_eq _)) (by rw [habs]; exact V_lt 23 hb.rg)).2
  rw [this, z, Int.zero_add]
/-- Which way a difference lies. -/
theorem sub_sign {a b : Int} (ha : Fn a) (hb : Fn b) : (sv b.toNat ≤ sv a.toNat → 0 ≤ sv (fsub a b).toNat) ∧ (sv a.toNat ≤ sv b.toNat → sv (fsub a b).toNat ≤ 0) := by
  obtain ⟨e, sb, nb, -⟩ := fsub_sv a b hb.1.1 hb.1.2 hb.2
  have fnb : Fn (fneg b) := ⟨fneg_lo b hb.1.1 hb.1.2, nb⟩
  have hs := add_sv a (fneg b) ha.1.1 fnb.1.1 ha.2 fnb.2
  rw [← e, sb] at hs
  constructor
  · intro h
    rw [hs]
    by_cases c : sv a.toNat + -sv b.toNat = 0
    · rw [c]
      have : R (0 : Int).natAbs = 0 := R_zero
      rw [this]
      unfold sg; split <;> simp [V_zero]
    · rw [if_neg c, decide_eq_false (by omega)]
      simp [sg]
  · intro h
    rw [hs]
    by_cases c : sv a.toNat + -sv b.toNat = 0
    · rw [c]
      have : R (0 : Int).natAbs = 0 := R_zero
      rw [this]
      unfold sg; split <;> simp [V_zero]
    · rw [if_neg c, decide_eq_true (by omega)]
      simp [sg]
theorem poly_lft (a b p s g n : Int) : polyV a b p s g n = fadd (fmul (fsub a b) (lft p s g n)) b := rfl
theorem less_false {x y : Int} (hx : Pat x) (hy : Pat y) (h : sv y.toNat ≤ sv x.toNat) : fless x y = false := by
  cases e : fless x y
  · rfl
  · have := ((fless_iff x y hx.1 hy.1).1 e).2.2
    omega
/-- SC3, plainly. -/
theorem poly_one_way {a b p s g m n : Int} (ha : Fn a) (hb : Fn b) (hd : Fn (fsub a b)) (hp : 1 ≤ p) (hs : 1 ≤ s) (hs2 : s ≤ 2147483647) (h : m ≤ n) :
    (fless a b = false → fless (polyV a b p s g m) (polyV a b p s g n) = false) ∧ (fless a b = true → fless (polyV a b p s g n) (polyV a b p s g m) = false)
      ∧ (g + s ≤ n → feq (polyV a b p s g n) b = true) ∧ (m ≤ g → polyV a b p s g m = fadd (fmul (fsub a b) 1065353216) b) := by
  obtain ⟨u1, u2, u3⟩ := lft_mono (g := g) hp hs hs2 h
  have sg2 := sub_sign ha hb
  refine ⟨fun hl => ?_, fun hl => ?_, fun he => ?_, fun hg => ?_⟩
  · rw [poly_lft, poly_lft]
    refine less_false (pat_add _ _) (pat_add _ _) (val_down hd hb u1 u2 u3 (sg2.1 ?_))
    rcases (by omega : sv b.toNat ≤ sv a.toNat ∨ sv a.toNat < sv b.toNat) with c | c
    · exact c
    · have := (fless_iff a b ha.1.1 hb.1.1).2 ⟨nan_of_fin ha.2, nan_of_fin hb.2, c⟩
      rw [hl] at this; cases this
  · rw [poly_lft, poly_lft]
    refine less_false (pat_add _ _) (pat_add _ _) (val_up hd hb u1 u2 u3 (sg2.2 ?_))
    have := ((fless_iff a b ha.1.1 hb.1.1).1 hl).2.2
    omega
  · rw [poly_lft, lft_end hp hs hs2 he]
    exact (feq_iff _ _ (fadd_lo _ _).1 hb.1.1).2 ⟨(val_nn hd hb un_0).2, nan_of_fin hb.2, val_end hd hb⟩
  · rw [poly_lft, lft_begin hp hs hs2 hg]

end Go.Proofs.Ytnogokikiekcbaa
