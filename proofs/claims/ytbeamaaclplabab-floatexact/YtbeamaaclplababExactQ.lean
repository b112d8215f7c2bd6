import Derived.Test.YtbeamaaclplababExactP
import Derived.Test.YtbeamaaclplababFloatRoot
/- What the statement FloatExact asks. -/
namespace Go.Proofs.Ytbeamaaclplabab
open Go.RowKit
set_option linter.unusedVariables false

theorem Near.small {p n d r : Nat} (h : Near p n d r) : V p r * d ≤ 2 * n := by
  rcases Nat.eq_zero_or_pos r with e | e
  · subst e; rw [V_zero]; omega
  · have := h.dn (r - 1) (by omega)
    rw [Nat.add_mul] at this; omega

theorem fsqrt_sq (a : Int) (h0 : 0 ≤ a) (h1 : a < 4294967296) (c1 : fless (fabs a) 562036736 = false) (c2 : fless 1568669696 (fabs a) = false) (c3 : ffin (fabs a) = true) : fsqrt (fmul a a) = fabs a := by
  have hrg := rg_toNat a h0
  have ha : ffin a = true := by
    unfold fabs at c3
    cases hn : nan a
    · have e : canon (a % 2147483648) = a % 2147483648 := by
        unfold canon; rw [if_neg]; unfold nan at hn ⊢; simp at hn ⊢; omega
      rw [e] at c3; unfold ffin at c3 ⊢; simp at c3 ⊢; omega
    · have e : canon (a % 2147483648) = 2143289344 := by
        unfold canon; rw [if_pos]; unfold nan at hn ⊢; simp at hn ⊢; omega
      rw [e] at c3; exact absurd c3 (by decide)
  obtain ⟨ea, sa, fa⟩ := fabs_sv a h0 h1 ha
  have la : 0 ≤ fabs a ∧ fabs a < 4294967296 := by rw [ea]; omega
  have k1 := fless_iff (fabs a) 562036736 la.1 (by decide)
  have k2 := fless_iff 1568669696 (fabs a) (by decide) la.1
  rw [c1] at k1
  rw [c2] at k2
  simp only [Bool.false_eq_true, false_iff, nan_of_fin fa, show nan 562036736 = false by decide, show nan 1568669696 = false by decide, true_and] at k1 k2
  have v1 : sv (562036736 : Int).toNat = (V 23 562036736 : Nat) := rfl
  have v2 : sv (1568669696 : Int).toNat = (V 23 1568669696 : Nat) := rfl
  rw [sa, v1] at k1
  rw [sa, v2] at k2
  have r1 : 562036736 ≤ rg a.toNat := by
    rcases Nat.lt_or_ge (rg a.toNat) 562036736 with c | c
    · have : mv a.toNat < V 23 562036736 := V_lt 23 c
      omega
    · exact c
  have r2 : rg a.toNat ≤ 1568669696 := by
    rcases Nat.lt_or_ge 1568669696 (rg a.toNat) with c | c
    · have : V 23 1568669696 < mv a.toNat := V_lt 23 c
      omega
    · exact c
  have hte : 66 ≤ te a.toNat ∧ te a.toNat ≤ 186 := by unfold te; omega
  have hmg : 8388608 ≤ mg a.toNat := by rcases mg_or a.toNat with c | c <;> omega
  have hmg2 := mg_lt a.toNat
  rw [ffin_rg _ h0] at ha
  obtain ⟨r, hr, hn⟩ := mul_fin a.toNat a.toNat (by simpa using ha) (by simpa using ha)
  rw [Bool.xor_self] at hr
  rw [mv_eq] at hn
  have key := sq_root (mg a.toNat) (te a.toNat) r hmg hmg2 hte.1 (2 ^ 149) 149 rfl rfl hn
  have e : (fmul a a).toNat = wd false r := by unfold fmul; rw [hr]; rfl
  -- r lies within the numbers
  have hr0 : r ≠ 0 := by
    intro c; subst c
    have := hn.up
    rw [V_zero] at this
    have v1 : V 23 (0 + 1) = 1 := by decide
    rw [v1] at this
    have h2 : 2 ^ 66 ≤ 2 ^ te a.toNat := Nat.pow_le_pow_right (by decide) hte.1
    have h3 : 8388608 * 2 ^ 66 ≤ mg a.toNat * 2 ^ te a.toNat := Nat.mul_le_mul hmg h2
    have h4 := Nat.mul_self_le_mul_self h3
    have h5 : (0 + 1) * 2 ^ 149 < 8388608 * 2 ^ 66 * (8388608 * 2 ^ 66) := by decide
    omega
  have hrlt : r < 2139095040 := by
    rcases Nat.lt_or_ge r 2139095040 with c | c
    · exact c
    · exfalso
      obtain ⟨y, hy⟩ : ∃ y : Nat, y = 250 := ⟨_, rfl⟩
      have h1 := V_big 23 y r (by omega)
      have h2 := hn.small
      have h3 : 2 ^ te a.toNat ≤ 2 ^ 186 := Nat.pow_le_pow_right (by decide) hte.2
      have h4 : mg a.toNat * 2 ^ te a.toNat ≤ 16777216 * 2 ^ 186 := Nat.mul_le_mul (by omega) h3
      have h5 := Nat.mul_self_le_mul_self h4
      have h6 : 2 ^ (23 + y) * 2 ^ 149 ≤ V 23 r * 2 ^ 149 := Nat.mul_le_mul_right _ h1
      obtain ⟨w, hw⟩ : ∃ w : Nat, w = 186 := ⟨_, rfl⟩
      have h7 : 2 * (16777216 * 2 ^ w * (16777216 * 2 ^ w)) < 2 ^ (23 + y) * 2 ^ 149 := by
        rw [show (16777216 : Nat) = 2 ^ 24 from rfl, ← Nat.pow_add, ← Nat.pow_add, ← Nat.pow_add, Nat.mul_comm, ← Nat.pow_succ]
        exact Nat.pow_lt_pow_right (by decide) (by omega)
      rw [hw] at h7
      exact absurd (Nat.le_trans h6 (Nat.le_trans h2 (Nat.mul_le_mul_left 2 h5))) (Nat.not_le.2 h7)
  have hrgy : rg (fmul a a).toNat = r := by rw [e, rg_wd]; omega
  have hngy : ng (fmul a a).toNat = false := by rw [e, ng_wd]
  have hmgy : mg (fmul a a).toNat ≠ 0 := by
    unfold mg; rw [hrgy]; split <;> omega
  obtain ⟨q, hq, hqn⟩ := root_single (fmul a a).toNat (by rw [hrgy]; exact hrlt) hngy hmgy
  have hmvy : mv (fmul a a).toNat = V 23 r := by unfold mv; rw [hrgy]
  rw [hmvy] at hqn
  have hqr := hqn.unique key
  rw [← rg_parts] at hqr
  unfold fsqrt
  rw [hq, hqr, ea]
  show ((wd false (rg a.toNat) : Nat) : Int) = _
  unfold wd; rw [if_neg (by decide)]; omega

theorem sg_prod' (s t : Bool) (m n : Nat) : sg s m * sg t n = sg (s ^^ t) (m * n) := by
  cases s <;> cases t <;> simp [sg, Int.neg_mul, Int.mul_neg]

theorem mul12 (x y : Int) (h0 : 0 ≤ x) (h1 : x < 4294967296) (g0 : 0 ≤ y) (g1 : y < 4294967296) (hx12 : x % 4096 = 0) (hy12 : y % 4096 = 0) (fx : ffin x = true) (fy : ffin y = true) (fz : ffin (fmul x y) = true) (hz : fless (fabs (fmul x y)) 8388608 = false) :
    ∃ u : Nat, u ≤ 24 ∧ pE x + pE y - pE (fmul x y) = -(u : Int) ∧ pM x * pM y = pM (fmul x y) * 2 ^ u := by
  have lz := fmul_lo x y
  obtain ⟨hc, hng⟩ := mul_cut x y fx fy h0 g0 fz
  have fA := pE_eq x h0 h1
  have fB := pE_eq y g0 g1
  have fZ := pE_eq (fmul x y) lz.1 lz.2
  obtain ⟨ez, sz, ffz⟩ := fabs_sv (fmul x y) lz.1 lz.2 fz
  have lzz : 0 ≤ fabs (fmul x y) := by rw [ez]; omega
  have k := fless_iff (fabs (fmul x y)) 8388608 lzz (by decide)
  rw [hz] at k
  simp only [Bool.false_eq_true, false_iff, nan_of_fin ffz, show nan 8388608 = false by decide, true_and] at k
  have v1 : sv (8388608 : Int).toNat = (V 23 8388608 : Nat) := rfl
  rw [sz, v1] at k
  have rz : 8388608 ≤ rg (fmul x y).toNat := by
    rcases Nat.lt_or_ge (rg (fmul x y).toNat) 8388608 with c | c
    · have : mv (fmul x y).toNat < V 23 8388608 := V_lt 23 c
      omega
    · exact c
  have hMz : 8388608 ≤ mg (fmul x y).toNat := by
    have := rg_parts (fmul x y).toNat
    rcases mg_or (fmul x y).toNat with c | c
    · rw [c] at this; omega
    · exact c
  have hMz2 := mg_lt (fmul x y).toNat
  have d1 : mg x.toNat % 4096 = 0 := by
    have := rg_toNat x h0
    unfold mg; split <;> omega
  have d2 : mg y.toNat % 4096 = 0 := by
    have := rg_toNat y g0
    unfold mg; split <;> omega
  have b1 := mg_lt x.toNat
  have b2 := mg_lt y.toNat
  rw [pM_eq x h0 h1, pM_eq y g0 g1, pM_eq (fmul x y) lz.1 lz.2, sg_prod', hng]
  rw [mv_eq, mv_eq] at hc
  have e : mg x.toNat * 2 ^ te x.toNat * (mg y.toNat * 2 ^ te y.toNat) = mg x.toNat * mg y.toNat * 2 ^ (te x.toNat + te y.toNat) := by rw [Nat.pow_add, Nat.mul_mul_mul_comm]
  rw [e] at hc
  obtain ⟨p, hp⟩ : ∃ p, mg x.toNat = 4096 * p := ⟨mg x.toNat / 4096, by omega⟩
  obtain ⟨q, hq⟩ : ∃ q, mg y.toNat = 4096 * q := ⟨mg y.toNat / 4096, by omega⟩
  have hX : mg x.toNat * mg y.toNat = 16777216 * (p * q) := by rw [hp, hq, Nat.mul_mul_mul_comm]
  have hpq : p * q ≤ 4095 * 4095 := Nat.mul_le_mul (by omega) (by omega)
  rw [hX] at hc ⊢
  generalize p * q = W at *
  generalize mg (fmul x y).toNat = M at *
  generalize te (fmul x y).toNat = t at *
  generalize he2 : te x.toNat + te y.toNat = e2 at *
  obtain ⟨z, hz149⟩ : ∃ z : Nat, z = 149 := ⟨_, rfl⟩
  rw [← hz149] at hc
  have hW : W ≠ 0 := by
    intro c; subst c
    have dn := hc.dn
    simp only [Nat.mul_zero, Nat.zero_mul] at dn
    have hP : 0 < 2 ^ t * 2 ^ z := Nat.mul_pos (Nat.two_pow_pos _) (Nat.two_pow_pos _)
    have : 2 * (2 ^ t * 2 ^ z) ≤ 2 * M * 2 ^ t * 2 ^ z := by rw [Nat.mul_assoc (2 * M)]; exact Nat.mul_le_mul_right _ (by omega)
    omega
  -- the places
  have hu : e2 ≤ t + z := by
    rcases Nat.lt_or_ge (t + z) e2 with c | c
    · exfalso
      have up := hc.up
      have e3 : 2 ^ e2 = 2 ^ (e2 - (t + z)) * (2 ^ t * 2 ^ z) := by rw [← Nat.pow_add, ← Nat.pow_add]; congr 1; omega
      rw [e3, ← Nat.mul_assoc, ← Nat.mul_assoc, Nat.mul_assoc (2 * M + 1)] at up
      have up' := Nat.le_of_mul_le_mul_right up (Nat.mul_pos (Nat.two_pow_pos _) (Nat.two_pow_pos _))
      have h2 : 1 ≤ 2 ^ (e2 - (t + z)) := Nat.two_pow_pos _
      have h3 : 2 * (16777216 * W) * 1 ≤ 2 * (16777216 * W) * 2 ^ (e2 - (t + z)) := Nat.mul_le_mul_left _ h2
      have h4 : 1 < e2 - (t + z) + 1 := by omega
      have h5 : 2 ≤ 2 ^ (e2 - (t + z)) := by
        have : 2 ^ 1 ≤ 2 ^ (e2 - (t + z)) := Nat.pow_le_pow_right (by decide) (by omega)
        omega
      have h6 : 2 * (16777216 * W) * 2 ≤ 2 * (16777216 * W) * 2 ^ (e2 - (t + z)) := Nat.mul_le_mul_left _ h5
      omega
    · exact c
  have hcu := hc.unscale (t + z - e2) (by omega)
  have hu24 : t + z - e2 ≤ 24 := by
    rcases Nat.lt_or_ge 24 (t + z - e2) with c | c
    · exfalso
      have dn := hcu.dn
      simp only [Nat.mul_one] at dn
      have h2 : 33554432 ≤ 2 ^ (t + z - e2) := Nat.le_trans (show 33554432 ≤ 2 ^ 25 by decide) (Nat.pow_le_pow_right (by decide) c)
      have h3 : 2 * M * 2 ^ (t + z - e2) = (2 * M - 1) * 2 ^ (t + z - e2) + 2 ^ (t + z - e2) := by
        rw [← Nat.succ_mul]; congr 1; omega
      have h4 : 16777215 * 2 ^ (t + z - e2) ≤ (2 * M - 1) * 2 ^ (t + z - e2) := Nat.mul_le_mul_right _ (by omega)
      omega
    · exact c
  have hexact : 16777216 * W = M * 2 ^ (t + z - e2) := by
    have up := hcu.up
    have dn := hcu.dn
    simp only [Nat.mul_one] at up dn
    have e3 : 16777216 * W = W * 2 ^ (24 - (t + z - e2)) * 2 ^ (t + z - e2) := by
      rw [Nat.mul_assoc, ← Nat.pow_add, show 24 - (t + z - e2) + (t + z - e2) = 24 by omega, Nat.mul_comm]
    rw [e3] at up dn ⊢
    generalize W * 2 ^ (24 - (t + z - e2)) = X' at *
    generalize hG : 2 ^ (t + z - e2) = G at *
    have hGp : 0 < G := by rw [← hG]; exact Nat.two_pow_pos _
    rw [← Nat.mul_assoc] at up
    rw [← Nat.mul_assoc] at dn
    have u2 := Nat.le_of_mul_le_mul_right up hGp
    have d2' : 2 * M ≤ 2 * X' + 1 := by
      apply Nat.le_of_mul_le_mul_right _ hGp
      rw [Nat.add_mul, Nat.one_mul]; exact dn
    have : X' = M := by omega
    rw [this]
  refine ⟨t + z - e2, hu24, by omega, ?_⟩
  rw [hexact, sg_mul, Int.natCast_pow]; rfl

theorem and_high (a : Int) (h0 : 0 ≤ a) (h1 : a < 4294967296) : bits .and .u32 a 4294963200 = a / 4096 * 4096 := by
  rw [u32_and a _ h0 h1 (by decide) (by decide)]
  obtain ⟨n, rfl⟩ := Int.eq_ofNat_of_zero_le h0
  rw [Int.toNat_natCast, show (4294963200 : Int).toNat = 4294963200 from rfl]
  have e : n &&& 4294963200 = (n >>> 12) <<< 12 := by
    apply Nat.eq_of_testBit_eq; intro i
    rw [Nat.testBit_and, Nat.testBit_shiftLeft, Nat.testBit_shiftRight]
    rcases Nat.lt_or_ge i 32 with c | c
    · have hm : ∀ j : Fin 32, (4294963200 : Nat).testBit j.val = decide (j.val ≥ 12) := by decide
      rw [hm ⟨i, c⟩]
      by_cases d : i ≥ 12
      · simp [d, show 12 + (i - 12) = i by omega]
      · simp [d]
    · have : n.testBit i = false := Nat.testBit_lt_two_pow (Nat.lt_of_lt_of_le (show n < 2 ^ 32 by omega) (Nat.pow_le_pow_right (by decide) c))
      rw [show 12 + (i - 12) = i by omega, this]; simp
  rw [e, Nat.shiftLeft_eq, Nat.shiftRight_eq_div_pow]
  omega

end Go.Proofs.Ytbeamaaclplabab
