import Derived.Test.YtbeamaaclplababKnuthP
import Derived.Test.YtbeamaaclplababNearWalks
/- The walk of the statement FloatKnuth. -/
namespace Go.Proofs.Ytbeamaaclplabab
open Go.RowKit
set_option linter.unusedVariables false

theorem sum_fin {d e : Ieee.Datum} {x : Nat} (hd : ∀ s m i, d ≠ .number s m i) (h : op2 ((d.sum e).map Ieee.single.write) = (x : Int)) : 2139095040 ≤ rg x := by
  have hw : ∀ s, rg (Ieee.single.write (.infinity s)) = 2139095040 := by decide
  cases d with
  | number s m i => exact absurd rfl (hd s m i)
  | infinity s =>
    cases e with
    | number t m i => have h' : ((Ieee.single.write (.infinity s) : Nat) : Int) = x := h; rw [← Int.ofNat.inj h', hw]; decide
    | infinity t =>
      by_cases c : s = t
      · have h' : ((Ieee.single.write (.infinity s) : Nat) : Int) = x := by simpa [Ieee.Datum.sum, c, op2] using h
        rw [← Int.ofNat.inj h', hw]; decide
      · have h' : (2143289344 : Int) = x := by simpa [Ieee.Datum.sum, c, op2] using h
        have : x = 2143289344 := by omega
        rw [this]; decide
    | nan t f => have h' : (2143289344 : Int) = x := h; have : x = 2143289344 := by omega
                 rw [this]; decide
  | nan s f =>
    have h' : (2143289344 : Int) = x := by cases e <;> exact h
    have : x = 2143289344 := by omega
    rw [this]; decide

theorem read_not {x : Int} (h0 : 0 ≤ x) (h : ffin x = false) : ∀ s m i, Ieee.single.read x.toNat ≠ .number s m i := by
  intro s m i
  rw [ffin_rg x h0] at h
  have h' : 2139095040 ≤ rg x.toNat := by simpa using h
  rcases Nat.lt_or_eq_of_le h' with c | c
  · rw [read_nan _ c]; simp
  · rw [read_inf _ c.symm]; simp
theorem opp_not {d : Ieee.Datum} (h : ∀ s m i, d ≠ .number s m i) : ∀ s m i, d.opposite ≠ .number s m i := by
  intro s m i
  cases d with
  | number s' m' i' => exact absurd rfl (h s' m' i')
  | infinity s' => simp [Ieee.Datum.opposite]
  | nan s' f => simp [Ieee.Datum.opposite]
theorem fin_of_add {x y : Int} (h0 : 0 ≤ x) (g0 : 0 ≤ y) (h : ffin (fadd x y) = true) : ffin x = true ∧ ffin y = true := by
  rw [ffin_rg _ (fadd_lo x y).1] at h
  have h' : rg (fadd x y).toNat < 2139095040 := by simpa using h
  have e : fadd x y = ((fadd x y).toNat : Int) := (Int.toNat_of_nonneg (fadd_lo x y).1).symm
  constructor
  · cases q : ffin x
    · have := sum_fin (read_not h0 q) (e := Ieee.single.read y.toNat) e; omega
    · rfl
  · cases q : ffin y
    · have e' : op2 (((Ieee.single.read y.toNat).sum (Ieee.single.read x.toNat)).map Ieee.single.write) = ((fadd x y).toNat : Int) := by rw [sum_comm]; exact e
      have := sum_fin (read_not g0 q) e'; omega
    · rfl
theorem fin_of_sub {x y : Int} (h0 : 0 ≤ x) (g0 : 0 ≤ y) (h : ffin (fsub x y) = true) : ffin x = true ∧ ffin y = true := by
  rw [ffin_rg _ (fsub_lo x y).1] at h
  have h' : rg (fsub x y).toNat < 2139095040 := by simpa using h
  have e : fsub x y = ((fsub x y).toNat : Int) := (Int.toNat_of_nonneg (fsub_lo x y).1).symm
  constructor
  · cases q : ffin x
    · have := sum_fin (read_not h0 q) (e := (Ieee.single.read y.toNat).opposite) e; omega
    · rfl
  · cases q : ffin y
    · have e' : op2 (((Ieee.single.read y.toNat).opposite.sum (Ieee.single.read x.toNat)).map Ieee.single.write) = ((fsub x y).toNat : Int) := by rw [sum_comm]; exact e
      have := sum_fin (opp_not (read_not g0 q)) e'; omega
    · rfl

theorem sv_rep (a : Nat) : Rep (sv a) := ⟨mg a, te a, mg_lt a, by rw [← mv_eq]; unfold sv sg; split <;> omega⟩
theorem add_rn {x y : Int} (h0 : 0 ≤ x) (g0 : 0 ≤ y) (h : ffin (fadd x y) = true) : sv (fadd x y).toNat = rn (sv x.toNat + sv y.toNat) := by
  obtain ⟨fx, fy⟩ := fin_of_add h0 g0 h
  rw [ffin_rg _ h0] at fx
  rw [ffin_rg _ g0] at fy
  rw [ffin_rg _ (fadd_lo x y).1] at h
  have hr := add_fin x.toNat y.toNat (by simpa using fx) (by simpa using fy)
  have e : (fadd x y).toNat = wd (if sv x.toNat + sv y.toNat = 0 then ng x.toNat && ng y.toNat else decide (sv x.toNat + sv y.toNat < 0)) (R (sv x.toNat + sv y.toNat).natAbs) := by unfold fadd; rw [hr]; rfl
  rw [e] at h ⊢
  obtain ⟨h1, -, -⟩ := wd_fin (of_decide_eq_true h)
  rw [sv_wd, Nat.min_eq_left (by omega)]
  unfold rn
  by_cases c : sv x.toNat + sv y.toNat = 0
  · rw [c]; simp [sg, R_zero']
  · rw [if_neg c]
theorem sub_rn {x y : Int} (h0 : 0 ≤ x) (g0 : 0 ≤ y) (g1 : y < 4294967296) (h : ffin (fsub x y) = true) : sv (fsub x y).toNat = rn (sv x.toNat - sv y.toNat) := by
  obtain ⟨fx, fy⟩ := fin_of_sub h0 g0 h
  obtain ⟨e1, e2, -, -⟩ := fsub_sv x y g0 g1 fy
  rw [e1] at h ⊢
  rw [add_rn h0 (fneg_lo y g0 g1).1 h, e2]; rfl

theorem knuth (a b s t u e1 e2 e : Int) (h0 : 0 ≤ a) (h1 : a < 4294967296) (g0 : 0 ≤ b) (hs : fadd a b = s) (ht : fsub s a = t) (hu : fsub s t = u) (he1 : fsub a u = e1) (he2 : fsub b t = e2) (he : fadd e1 e2 = e) (fs : ffin s = true) (ft : ffin t = true) (fe : ffin e = true) :
    sv a.toNat + sv b.toNat = sv s.toNat + sv e.toNat := by
  have ls := fadd_lo a b
  have lt := fsub_lo s a
  have lu := fsub_lo s t
  have l1 := fsub_lo a u
  have l2 := fsub_lo b t
  rw [hs] at ls
  rw [ht] at lt
  rw [hu] at lu
  rw [he1] at l1
  rw [he2] at l2
  obtain ⟨f1, f2⟩ := fin_of_add l1.1 l2.1 (by rw [he]; exact fe)
  obtain ⟨-, fu⟩ := fin_of_sub h0 lu.1 (by rw [he1]; exact f1)
  have r1 := add_rn h0 g0 (by rw [hs]; exact fs)
  have r2 := sub_rn ls.1 h0 h1 (by rw [ht]; exact ft)
  have r3 := sub_rn ls.1 lt.1 lt.2 (by rw [hu]; exact fu)
  have r4 := sub_rn h0 lu.1 lu.2 (by rw [he1]; exact f1)
  have r5 := sub_rn g0 lt.1 lt.2 (by rw [he2]; exact f2)
  have r6 := add_rn l1.1 l2.1 (by rw [he]; exact fe)
  rw [hs] at r1
  rw [ht] at r2
  rw [hu] at r3
  rw [he1] at r4
  rw [he2] at r5
  rw [he] at r6
  exact two_sum (sv_rep _) (sv_rep _) _ _ _ _ _ _ r1 r2 r3 r4 r5 r6

/-- In units of a place that is not above any of theirs. -/
theorem units4 (a b s e : Int) (h0 : 0 ≤ a) (h1 : a < 4294967296) (g0 : 0 ≤ b) (g1 : b < 4294967296) (s0 : 0 ≤ s) (s1 : s < 4294967296) (e0 : 0 ≤ e) (e1 : e < 4294967296) (hx : sv a.toNat + sv b.toNat = sv s.toNat + sv e.toNat) (low : Int) (l0 : -149 ≤ low) (l1 : low ≤ pE a) (l2 : low ≤ pE b) (l3 : low ≤ pE s) :
    (pM e = 0 → pM a * 2 ^ (pE a - low).toNat + pM b * 2 ^ (pE b - low).toNat = pM s * 2 ^ (pE s - low).toNat) ∧
    (low ≤ pE e → pM a * 2 ^ (pE a - low).toNat + pM b * 2 ^ (pE b - low).toNat = pM s * 2 ^ (pE s - low).toNat + pM e * 2 ^ (pE e - low).toNat) := by
  have ea := pE_eq a h0 h1
  have eb := pE_eq b g0 g1
  have es := pE_eq s s0 s1
  have ee := pE_eq e e0 e1
  rw [sv_parts a h0 h1, sv_parts b g0 g1, sv_parts s s0 s1, sv_parts e e0 e1] at hx
  obtain ⟨c, hc⟩ : ∃ c : Nat, (c : Int) = low + 149 := ⟨(low + 149).toNat, by omega⟩
  have hP : (2 : Int) ^ c ≠ 0 := by have : (0 : Int) < 2 ^ c := Int.pow_pos (by decide); omega
  constructor
  · intro hz
    rw [hz, Int.zero_mul, Int.add_zero] at hx
    apply Int.eq_of_mul_eq_mul_right hP
    rw [Int.add_mul, Int.mul_assoc, Int.mul_assoc, Int.mul_assoc, ← Int.pow_add, ← Int.pow_add, ← Int.pow_add, show (pE a - low).toNat + c = te a.toNat by omega, show (pE b - low).toNat + c = te b.toNat by omega, show (pE s - low).toNat + c = te s.toNat by omega]
    exact hx
  · intro l4
    apply Int.eq_of_mul_eq_mul_right hP
    rw [Int.add_mul, Int.add_mul, Int.mul_assoc, Int.mul_assoc, Int.mul_assoc, Int.mul_assoc, ← Int.pow_add, ← Int.pow_add, ← Int.pow_add, ← Int.pow_add, show (pE a - low).toNat + c = te a.toNat by omega, show (pE b - low).toNat + c = te b.toNat by omega, show (pE s - low).toNat + c = te s.toNat by omega, show (pE e - low).toNat + c = te e.toNat by omega]
    exact hx

section
variable {P : Program} (w : World)
theorem run_min4 (ts : Array TypeId) (t : TypeId) (x y z u : Int) : (Builtin.min_ ts t #[.int .i64 x, .int .i64 y, .int .i64 z, .int .i64 u]).run P w = .ok (.int .i64 (min (min (min x y) z) u)) w := by
  have e : ∀ p q : Int, (if q < p then q else p) = min p q := by intro p q; split <;> omega
  simp [Builtin.min_, Builtin.min2, e]
theorem run_max4 (ts : Array TypeId) (t : TypeId) (x y z u : Int) : (Builtin.max_ ts t #[.int .i64 x, .int .i64 y, .int .i64 z, .int .i64 u]).run P w = .ok (.int .i64 (max (max (max x y) z) u)) w := by
  have e : ∀ p q : Int, (if q > p then q else p) = max p q := by intro p q; split <;> omega
  have e' : ∀ p q : Int, (if p < q then q else p) = max p q := by intro p q; split <;> omega
  simp [Builtin.max_, Builtin.max2, e']
end

set_option maxHeartbeats 4000000 in
theorem kn_z (a : Int) (h0 : 0 ≤ a) (h1 : a < 4294967296) (b : Int) (g0 : 0 ≤ b) (g1 : b < 4294967296) (s t u x1 x2 e : Int) (hs : fadd a b = s) (ht : fsub s a = t) (hu : fsub s t = u) (hx1 : fsub a u = x1) (hx2 : fsub b t = x2) (he : fadd x1 x2 = e) (ls : 0 ≤ s ∧ s < 4294967296) (lt : 0 ≤ t ∧ t < 4294967296) (lu : 0 ≤ u ∧ u < 4294967296) (lx1 : 0 ≤ x1 ∧ x1 < 4294967296) (lx2 : 0 ≤ x2 ∧ x2 < 4294967296) (le : 0 ≤ e ∧ e < 4294967296) (fa : ffin a = true) (fb : ffin b = true) (fs : ffin s = true) (ft : ffin t = true) (fe : ffin e = true) (hw : pM e = 0) (w : World) :
    Calls Try.prog 6 #[.int .u32 a, .int .u32 b] w fun e w' => e = .returned (.bool true) ∧ Below w.heap.size w w' := by
  have hx := knuth a b s t u x1 x2 e h0 h1 g0 hs ht hu hx1 hx2 he fs ft fe
  have ea := pE_lo a h0 h1
  have eb := pE_lo b g0 g1
  have es := pE_lo s ls.1 ls.2
  have ee := pE_lo e le.1 le.2
  have ma := pM_lo a h0 h1
  have mb := pM_lo b g0 g1
  have ms := pM_lo s ls.1 ls.2
  have me := pM_lo e le.1 le.2
  by_cases near : pE a - pE b ≤ 36 ∧ pE a - pE s ≤ 36 ∧ pE b - pE a ≤ 36 ∧ pE b - pE s ≤ 36 ∧ pE s - pE a ≤ 36 ∧ pE s - pE b ≤ 36
  · rcases (show (pE a ≤ pE b ∧ pE a ≤ pE s) ∨ (pE b < pE a ∧ pE b ≤ pE s) ∨ (pE s < pE a ∧ pE s < pE b) by omega) with c | c | c
    · have hu4 := (units4 a b s e h0 h1 g0 g1 ls.1 ls.2 le.1 le.2 hx (pE a) (by omega) (by omega) (by omega) (by omega)).1 hw
      rw [show (pE a - pE a).toNat = 0 by omega, Int.pow_zero, Int.mul_one] at hu4
      have bY := shl_lo (pM b) (pE b - pE a).toNat 0 (by omega) (by omega) (by omega)
      obtain ⟨Y, hY⟩ : ∃ Y : Int, pM b * 2 ^ (pE b - pE a).toNat = Y := ⟨_, rfl⟩
      rw [hY] at bY hu4
      have fY : wrap64 (pM b * 2 ^ (pE b - pE a).toNat) = Y := by rw [hY]; unfold wrap64; omega
      have bZ := shl_lo (pM s) (pE s - pE a).toNat 0 (by omega) (by omega) (by omega)
      obtain ⟨Z, hZ⟩ : ∃ Z : Int, pM s * 2 ^ (pE s - pE a).toNat = Z := ⟨_, rfl⟩
      rw [hZ] at bZ hu4
      have fZ : wrap64 (pM s * 2 ^ (pE s - pE a).toNat) = Z := by rw [hZ]; unfold wrap64; omega
      have hm4 : ∀ w, (Builtin.min_ #[3, 3, 3, 3] 3 #[.int .i64 (pE a), .int .i64 (pE b), .int .i64 (pE s), .int .i64 (pE e)]).run Try.prog w = .ok (.int .i64 (min (min (min (pE a) (pE b)) (pE s)) (pE e))) w := fun w => run_min4 w _ _ _ _ _ _
      have hM4 : ∀ w, (Builtin.max_ #[3, 3, 3, 3] 3 #[.int .i64 (pE a), .int .i64 (pE b), .int .i64 (pE s), .int .i64 (pE a)]).run Try.prog w = .ok (.int .i64 (max (max (max (pE a) (pE b)) (pE s)) (pE a))) w := fun w => run_max4 w _ _ _ _ _ _
      obtain ⟨M4, hMM⟩ : ∃ M4 : Int, max (max (max (pE a) (pE b)) (pE s)) (pE a) = M4 := ⟨_, rfl⟩
      rw [hMM] at hM4
      have bM4 : M4 - pE a ≤ 36 ∧ -149 ≤ M4 ∧ M4 ≤ 105 := by omega
      clear hMM
      clear hx hY hZ
      go_enter Try.func6, Try.ntmps6
      go_wp2_with (first
        | (go_at_call 9; refine (add_any _ (by omega) (by omega) _ (by omega) (by omega) _).mono ?_; rintro x w1 ⟨rfl, hb1⟩)
        | (go_at_call 17; refine (sub_any _ (by omega) (by omega) _ (by omega) (by omega) _).mono ?_; rintro x w1 ⟨rfl, hb1⟩)
        | (go_at_call 16; refine (finite_any _ (by omega) (by omega) _).mono ?_; rintro x w' ⟨rfl, rfl⟩)
        | (go_at_call 26; refine (prt_any _ (by omega) (by omega) _).mono ?_; rintro x w' ⟨rfl, rfl⟩)
        | (go_at_call 18; refine (works_any _).mono ?_; rintro x w1 ⟨rfl, hb1⟩))
      all_goals (
        go_ret
        refine ⟨rfl, ?_⟩
        repeat (first | (with_reducible assumption) | (with_reducible exact bel0 _) | (with_reducible refine bel ?_ (by with_reducible assumption))))
    · have hu4 := (units4 a b s e h0 h1 g0 g1 ls.1 ls.2 le.1 le.2 hx (pE b) (by omega) (by omega) (by omega) (by omega)).1 hw
      rw [show (pE b - pE b).toNat = 0 by omega, Int.pow_zero, Int.mul_one] at hu4
      have bX := shl_lo (pM a) (pE a - pE b).toNat 0 (by omega) (by omega) (by omega)
      obtain ⟨X, hX⟩ : ∃ X : Int, pM a * 2 ^ (pE a - pE b).toNat = X := ⟨_, rfl⟩
      rw [hX] at bX hu4
      have fX : wrap64 (pM a * 2 ^ (pE a - pE b).toNat) = X := by rw [hX]; unfold wrap64; omega
      have bZ := shl_lo (pM s) (pE s - pE b).toNat 0 (by omega) (by omega) (by omega)
      obtain ⟨Z, hZ⟩ : ∃ Z : Int, pM s * 2 ^ (pE s - pE b).toNat = Z := ⟨_, rfl⟩
      rw [hZ] at bZ hu4
      have fZ : wrap64 (pM s * 2 ^ (pE s - pE b).toNat) = Z := by rw [hZ]; unfold wrap64; omega
      have hm4 : ∀ w, (Builtin.min_ #[3, 3, 3, 3] 3 #[.int .i64 (pE a), .int .i64 (pE b), .int .i64 (pE s), .int .i64 (pE e)]).run Try.prog w = .ok (.int .i64 (min (min (min (pE a) (pE b)) (pE s)) (pE e))) w := fun w => run_min4 w _ _ _ _ _ _
      have hM4 : ∀ w, (Builtin.max_ #[3, 3, 3, 3] 3 #[.int .i64 (pE a), .int .i64 (pE b), .int .i64 (pE s), .int .i64 (pE b)]).run Try.prog w = .ok (.int .i64 (max (max (max (pE a) (pE b)) (pE s)) (pE b))) w := fun w => run_max4 w _ _ _ _ _ _
      obtain ⟨M4, hMM⟩ : ∃ M4 : Int, max (max (max (pE a) (pE b)) (pE s)) (pE b) = M4 := ⟨_, rfl⟩
      rw [hMM] at hM4
      have bM4 : M4 - pE b ≤ 36 ∧ -149 ≤ M4 ∧ M4 ≤ 105 := by omega
      clear hMM
      clear hx hX hZ
      go_enter Try.func6, Try.ntmps6
      go_wp2_with (first
        | (go_at_call 9; refine (add_any _ (by omega) (by omega) _ (by omega) (by omega) _).mono ?_; rintro x w1 ⟨rfl, hb1⟩)
        | (go_at_call 17; refine (sub_any _ (by omega) (by omega) _ (by omega) (by omega) _).mono ?_; rintro x w1 ⟨rfl, hb1⟩)
        | (go_at_call 16; refine (finite_any _ (by omega) (by omega) _).mono ?_; rintro x w' ⟨rfl, rfl⟩)
        | (go_at_call 26; refine (prt_any _ (by omega) (by omega) _).mono ?_; rintro x w' ⟨rfl, rfl⟩)
        | (go_at_call 18; refine (works_any _).mono ?_; rintro x w1 ⟨rfl, hb1⟩))
      all_goals (
        go_ret
        refine ⟨rfl, ?_⟩
        repeat (first | (with_reducible assumption) | (with_reducible exact bel0 _) | (with_reducible refine bel ?_ (by with_reducible assumption))))
    · have hu4 := (units4 a b s e h0 h1 g0 g1 ls.1 ls.2 le.1 le.2 hx (pE s) (by omega) (by omega) (by omega) (by omega)).1 hw
      rw [show (pE s - pE s).toNat = 0 by omega, Int.pow_zero, Int.mul_one] at hu4
      have bX := shl_lo (pM a) (pE a - pE s).toNat 0 (by omega) (by omega) (by omega)
      obtain ⟨X, hX⟩ : ∃ X : Int, pM a * 2 ^ (pE a - pE s).toNat = X := ⟨_, rfl⟩
      rw [hX] at bX hu4
      have fX : wrap64 (pM a * 2 ^ (pE a - pE s).toNat) = X := by rw [hX]; unfold wrap64; omega
      have bY := shl_lo (pM b) (pE b - pE s).toNat 0 (by omega) (by omega) (by omega)
      obtain ⟨Y, hY⟩ : ∃ Y : Int, pM b * 2 ^ (pE b - pE s).toNat = Y := ⟨_, rfl⟩
      rw [hY] at bY hu4
      have fY : wrap64 (pM b * 2 ^ (pE b - pE s).toNat) = Y := by rw [hY]; unfold wrap64; omega
      have hm4 : ∀ w, (Builtin.min_ #[3, 3, 3, 3] 3 #[.int .i64 (pE a), .int .i64 (pE b), .int .i64 (pE s), .int .i64 (pE e)]).run Try.prog w = .ok (.int .i64 (min (min (min (pE a) (pE b)) (pE s)) (pE e))) w := fun w => run_min4 w _ _ _ _ _ _
      have hM4 : ∀ w, (Builtin.max_ #[3, 3, 3, 3] 3 #[.int .i64 (pE a), .int .i64 (pE b), .int .i64 (pE s), .int .i64 (pE s)]).run Try.prog w = .ok (.int .i64 (max (max (max (pE a) (pE b)) (pE s)) (pE s))) w := fun w => run_max4 w _ _ _ _ _ _
      obtain ⟨M4, hMM⟩ : ∃ M4 : Int, max (max (max (pE a) (pE b)) (pE s)) (pE s) = M4 := ⟨_, rfl⟩
      rw [hMM] at hM4
      have bM4 : M4 - pE s ≤ 36 ∧ -149 ≤ M4 ∧ M4 ≤ 105 := by omega
      clear hMM
      clear hx hX hY
      go_enter Try.func6, Try.ntmps6
      go_wp2_with (first
        | (go_at_call 9; refine (add_any _ (by omega) (by omega) _ (by omega) (by omega) _).mono ?_; rintro x w1 ⟨rfl, hb1⟩)
        | (go_at_call 17; refine (sub_any _ (by omega) (by omega) _ (by omega) (by omega) _).mono ?_; rintro x w1 ⟨rfl, hb1⟩)
        | (go_at_call 16; refine (finite_any _ (by omega) (by omega) _).mono ?_; rintro x w' ⟨rfl, rfl⟩)
        | (go_at_call 26; refine (prt_any _ (by omega) (by omega) _).mono ?_; rintro x w' ⟨rfl, rfl⟩)
        | (go_at_call 18; refine (works_any _).mono ?_; rintro x w1 ⟨rfl, hb1⟩))
      all_goals (
        go_ret
        refine ⟨rfl, ?_⟩
        repeat (first | (with_reducible assumption) | (with_reducible exact bel0 _) | (with_reducible refine bel ?_ (by with_reducible assumption))))
  · clear hx
    rcases (show (pE a ≤ pE b ∧ pE a ≤ pE s) ∨ (pE b < pE a ∧ pE b ≤ pE s) ∨ (pE s < pE a ∧ pE s < pE b) by omega) with c | c | c
    · skip
      have hm4 : ∀ w, (Builtin.min_ #[3, 3, 3, 3] 3 #[.int .i64 (pE a), .int .i64 (pE b), .int .i64 (pE s), .int .i64 (pE e)]).run Try.prog w = .ok (.int .i64 (min (min (min (pE a) (pE b)) (pE s)) (pE e))) w := fun w => run_min4 w _ _ _ _ _ _
      have hM4 : ∀ w, (Builtin.max_ #[3, 3, 3, 3] 3 #[.int .i64 (pE a), .int .i64 (pE b), .int .i64 (pE s), .int .i64 (pE a)]).run Try.prog w = .ok (.int .i64 (max (max (max (pE a) (pE b)) (pE s)) (pE a))) w := fun w => run_max4 w _ _ _ _ _ _
      obtain ⟨M4, hMM⟩ : ∃ M4 : Int, max (max (max (pE a) (pE b)) (pE s)) (pE a) = M4 := ⟨_, rfl⟩
      rw [hMM] at hM4
      have bM4 : M4 - pE a > 36 ∧ -149 ≤ M4 ∧ M4 ≤ 105 := by omega
      clear hMM
      go_enter Try.func6, Try.ntmps6
      go_wp2_with (first
        | (go_at_call 9; refine (add_any _ (by omega) (by omega) _ (by omega) (by omega) _).mono ?_; rintro x w1 ⟨rfl, hb1⟩)
        | (go_at_call 17; refine (sub_any _ (by omega) (by omega) _ (by omega) (by omega) _).mono ?_; rintro x w1 ⟨rfl, hb1⟩)
        | (go_at_call 16; refine (finite_any _ (by omega) (by omega) _).mono ?_; rintro x w' ⟨rfl, rfl⟩)
        | (go_at_call 26; refine (prt_any _ (by omega) (by omega) _).mono ?_; rintro x w' ⟨rfl, rfl⟩)
        | (go_at_call 18; refine (works_any _).mono ?_; rintro x w1 ⟨rfl, hb1⟩))
      all_goals (
        go_ret
        refine ⟨rfl, ?_⟩
        repeat (first | (with_reducible assumption) | (with_reducible exact bel0 _) | (with_reducible refine bel ?_ (by with_reducible assumption))))
    · skip
      have hm4 : ∀ w, (Builtin.min_ #[3, 3, 3, 3] 3 #[.int .i64 (pE a), .int .i64 (pE b), .int .i64 (pE s), .int .i64 (pE e)]).run Try.prog w = .ok (.int .i64 (min (min (min (pE a) (pE b)) (pE s)) (pE e))) w := fun w => run_min4 w _ _ _ _ _ _
      have hM4 : ∀ w, (Builtin.max_ #[3, 3, 3, 3] 3 #[.int .i64 (pE a), .int .i64 (pE b), .int .i64 (pE s), .int .i64 (pE b)]).run Try.prog w = .ok (.int .i64 (max (max (max (pE a) (pE b)) (pE s)) (pE b))) w := fun w => run_max4 w _ _ _ _ _ _
      obtain ⟨M4, hMM⟩ : ∃ M4 : Int, max (max (max (pE a) (pE b)) (pE s)) (pE b) = M4 := ⟨_, rfl⟩
      rw [hMM] at hM4
      have bM4 : M4 - pE b > 36 ∧ -149 ≤ M4 ∧ M4 ≤ 105 := by omega
      clear hMM
      go_enter Try.func6, Try.ntmps6
      go_wp2_with (first
        | (go_at_call 9; refine (add_any _ (by omega) (by omega) _ (by omega) (by omega) _).mono ?_; rintro x w1 ⟨rfl, hb1⟩)
        | (go_at_call 17; refine (sub_any _ (by omega) (by omega) _ (by omega) (by omega) _).mono ?_; rintro x w1 ⟨rfl, hb1⟩)
        | (go_at_call 16; refine (finite_any _ (by omega) (by omega) _).mono ?_; rintro x w' ⟨rfl, rfl⟩)
        | (go_at_call 26; refine (prt_any _ (by omega) (by omega) _).mono ?_; rintro x w' ⟨rfl, rfl⟩)
        | (go_at_call 18; refine (works_any _).mono ?_; rintro x w1 ⟨rfl, hb1⟩))
      all_goals (
        go_ret
        refine ⟨rfl, ?_⟩
        repeat (first | (with_reducible assumption) | (with_reducible exact bel0 _) | (with_reducible refine bel ?_ (by with_reducible assumption))))
    · skip
      have hm4 : ∀ w, (Builtin.min_ #[3, 3, 3, 3] 3 #[.int .i64 (pE a), .int .i64 (pE b), .int .i64 (pE s), .int .i64 (pE e)]).run Try.prog w = .ok (.int .i64 (min (min (min (pE a) (pE b)) (pE s)) (pE e))) w := fun w => run_min4 w _ _ _ _ _ _
      have hM4 : ∀ w, (Builtin.max_ #[3, 3, 3, 3] 3 #[.int .i64 (pE a), .int .i64 (pE b), .int .i64 (pE s), .int .i64 (pE s)]).run Try.prog w = .ok (.int .i64 (max (max (max (pE a) (pE b)) (pE s)) (pE s))) w := fun w => run_max4 w _ _ _ _ _ _
      obtain ⟨M4, hMM⟩ : ∃ M4 : Int, max (max (max (pE a) (pE b)) (pE s)) (pE s) = M4 := ⟨_, rfl⟩
      rw [hMM] at hM4
      have bM4 : M4 - pE s > 36 ∧ -149 ≤ M4 ∧ M4 ≤ 105 := by omega
      clear hMM
      go_enter Try.func6, Try.ntmps6
      go_wp2_with (first
        | (go_at_call 9; refine (add_any _ (by omega) (by omega) _ (by omega) (by omega) _).mono ?_; rintro x w1 ⟨rfl, hb1⟩)
        | (go_at_call 17; refine (sub_any _ (by omega) (by omega) _ (by omega) (by omega) _).mono ?_; rintro x w1 ⟨rfl, hb1⟩)
        | (go_at_call 16; refine (finite_any _ (by omega) (by omega) _).mono ?_; rintro x w' ⟨rfl, rfl⟩)
        | (go_at_call 26; refine (prt_any _ (by omega) (by omega) _).mono ?_; rintro x w' ⟨rfl, rfl⟩)
        | (go_at_call 18; refine (works_any _).mono ?_; rintro x w1 ⟨rfl, hb1⟩))
      all_goals (
        go_ret
        refine ⟨rfl, ?_⟩
        repeat (first | (with_reducible assumption) | (with_reducible exact bel0 _) | (with_reducible refine bel ?_ (by with_reducible assumption))))

set_option maxHeartbeats 4000000 in
theorem kn_w (a : Int) (h0 : 0 ≤ a) (h1 : a < 4294967296) (b : Int) (g0 : 0 ≤ b) (g1 : b < 4294967296) (s t u x1 x2 e : Int) (hs : fadd a b = s) (ht : fsub s a = t) (hu : fsub s t = u) (hx1 : fsub a u = x1) (hx2 : fsub b t = x2) (he : fadd x1 x2 = e) (ls : 0 ≤ s ∧ s < 4294967296) (lt : 0 ≤ t ∧ t < 4294967296) (lu : 0 ≤ u ∧ u < 4294967296) (lx1 : 0 ≤ x1 ∧ x1 < 4294967296) (lx2 : 0 ≤ x2 ∧ x2 < 4294967296) (le : 0 ≤ e ∧ e < 4294967296) (fa : ffin a = true) (fb : ffin b = true) (fs : ffin s = true) (ft : ffin t = true) (fe : ffin e = true) (hw : pM e ≠ 0) (w : World) :
    Calls Try.prog 6 #[.int .u32 a, .int .u32 b] w fun e w' => e = .returned (.bool true) ∧ Below w.heap.size w w' := by
  have hx := knuth a b s t u x1 x2 e h0 h1 g0 hs ht hu hx1 hx2 he fs ft fe
  have ea := pE_lo a h0 h1
  have eb := pE_lo b g0 g1
  have es := pE_lo s ls.1 ls.2
  have ee := pE_lo e le.1 le.2
  have ma := pM_lo a h0 h1
  have mb := pM_lo b g0 g1
  have ms := pM_lo s ls.1 ls.2
  have me := pM_lo e le.1 le.2
  by_cases near : pE a - pE b ≤ 36 ∧ pE a - pE s ≤ 36 ∧ pE a - pE e ≤ 36 ∧ pE b - pE a ≤ 36 ∧ pE b - pE s ≤ 36 ∧ pE b - pE e ≤ 36 ∧ pE s - pE a ≤ 36 ∧ pE s - pE b ≤ 36 ∧ pE s - pE e ≤ 36 ∧ pE e - pE a ≤ 36 ∧ pE e - pE b ≤ 36 ∧ pE e - pE s ≤ 36
  · rcases (show (pE a ≤ pE b ∧ pE a ≤ pE s ∧ pE a ≤ pE e) ∨ (pE b < pE a ∧ pE b ≤ pE s ∧ pE b ≤ pE e) ∨ (pE s < pE a ∧ pE s < pE b ∧ pE s ≤ pE e) ∨ (pE e < pE a ∧ pE e < pE b ∧ pE e < pE s) by omega) with c | c | c | c
    · have hu4 := (units4 a b s e h0 h1 g0 g1 ls.1 ls.2 le.1 le.2 hx (pE a) (by omega) (by omega) (by omega) (by omega)).2 (by omega)
      rw [show (pE a - pE a).toNat = 0 by omega, Int.pow_zero, Int.mul_one] at hu4
      have bY := shl_lo (pM b) (pE b - pE a).toNat 0 (by omega) (by omega) (by omega)
      obtain ⟨Y, hY⟩ : ∃ Y : Int, pM b * 2 ^ (pE b - pE a).toNat = Y := ⟨_, rfl⟩
      rw [hY] at bY hu4
      have fY : wrap64 (pM b * 2 ^ (pE b - pE a).toNat) = Y := by rw [hY]; unfold wrap64; omega
      have bZ := shl_lo (pM s) (pE s - pE a).toNat 0 (by omega) (by omega) (by omega)
      obtain ⟨Z, hZ⟩ : ∃ Z : Int, pM s * 2 ^ (pE s - pE a).toNat = Z := ⟨_, rfl⟩
      rw [hZ] at bZ hu4
      have fZ : wrap64 (pM s * 2 ^ (pE s - pE a).toNat) = Z := by rw [hZ]; unfold wrap64; omega
      have bQ := shl_lo (pM e) (pE e - pE a).toNat 0 (by omega) (by omega) (by omega)
      obtain ⟨Q, hQ⟩ : ∃ Q : Int, pM e * 2 ^ (pE e - pE a).toNat = Q := ⟨_, rfl⟩
      rw [hQ] at bQ hu4
      have fQ : wrap64 (pM e * 2 ^ (pE e - pE a).toNat) = Q := by rw [hQ]; unfold wrap64; omega
      have hm4 : ∀ w, (Builtin.min_ #[3, 3, 3, 3] 3 #[.int .i64 (pE a), .int .i64 (pE b), .int .i64 (pE s), .int .i64 (pE e)]).run Try.prog w = .ok (.int .i64 (min (min (min (pE a) (pE b)) (pE s)) (pE e))) w := fun w => run_min4 w _ _ _ _ _ _
      have hL4 : min (min (min (pE a) (pE b)) (pE s)) (pE e) = pE a := by omega
      rw [hL4] at hm4
      have hM4 : ∀ w, (Builtin.max_ #[3, 3, 3, 3] 3 #[.int .i64 (pE a), .int .i64 (pE b), .int .i64 (pE s), .int .i64 (pE e)]).run Try.prog w = .ok (.int .i64 (max (max (max (pE a) (pE b)) (pE s)) (pE e))) w := fun w => run_max4 w _ _ _ _ _ _
      obtain ⟨M4, hMM⟩ : ∃ M4 : Int, max (max (max (pE a) (pE b)) (pE s)) (pE e) = M4 := ⟨_, rfl⟩
      rw [hMM] at hM4
      have bM4 : M4 - pE a ≤ 36 ∧ -149 ≤ M4 ∧ M4 ≤ 105 := by omega
      clear hMM
      clear hx hY hZ hQ
      go_enter Try.func6, Try.ntmps6
      go_wp2_with (first
        | (go_at_call 9; refine (add_any _ (by omega) (by omega) _ (by omega) (by omega) _).mono ?_; rintro x w1 ⟨rfl, hb1⟩)
        | (go_at_call 17; refine (sub_any _ (by omega) (by omega) _ (by omega) (by omega) _).mono ?_; rintro x w1 ⟨rfl, hb1⟩)
        | (go_at_call 16; refine (finite_any _ (by omega) (by omega) _).mono ?_; rintro x w' ⟨rfl, rfl⟩)
        | (go_at_call 26; refine (prt_any _ (by omega) (by omega) _).mono ?_; rintro x w' ⟨rfl, rfl⟩)
        | (go_at_call 18; refine (works_any _).mono ?_; rintro x w1 ⟨rfl, hb1⟩))
      all_goals (
        go_ret
        refine ⟨rfl, ?_⟩
        repeat (first | (with_reducible assumption) | (with_reducible exact bel0 _) | (with_reducible refine bel ?_ (by with_reducible assumption))))
    · have hu4 := (units4 a b s e h0 h1 g0 g1 ls.1 ls.2 le.1 le.2 hx (pE b) (by omega) (by omega) (by omega) (by omega)).2 (by omega)
      rw [show (pE b - pE b).toNat = 0 by omega, Int.pow_zero, Int.mul_one] at hu4
      have bX := shl_lo (pM a) (pE a - pE b).toNat 0 (by omega) (by omega) (by omega)
      obtain ⟨X, hX⟩ : ∃ X : Int, pM a * 2 ^ (pE a - pE b).toNat = X := ⟨_, rfl⟩
      rw [hX] at bX hu4
      have fX : wrap64 (pM a * 2 ^ (pE a - pE b).toNat) = X := by rw [hX]; unfold wrap64; omega
      have bZ := shl_lo (pM s) (pE s - pE b).toNat 0 (by omega) (by omega) (by omega)
      obtain ⟨Z, hZ⟩ : ∃ Z : Int, pM s * 2 ^ (pE s - pE b).toNat = Z := ⟨_, rfl⟩
      rw [hZ] at bZ hu4
      have fZ : wrap64 (pM s * 2 ^ (pE s - pE b).toNat) = Z := by rw [hZ]; unfold wrap64; omega
      have bQ := shl_lo (pM e) (pE e - pE b).toNat 0 (by omega) (by omega) (by omega)
      obtain ⟨Q, hQ⟩ : ∃ Q : Int, pM e * 2 ^ (pE e - pE b).toNat = Q := ⟨_, rfl⟩
      rw [hQ] at bQ hu4
      have fQ : wrap64 (pM e * 2 ^ (pE e - pE b).toNat) = Q := by rw [hQ]; unfold wrap64; omega
      have hm4 : ∀ w, (Builtin.min_ #[3, 3, 3, 3] 3 #[.int .i64 (pE a), .int .i64 (pE b), .int .i64 (pE s), .int .i64 (pE e)]).run Try.prog w = .ok (.int .i64 (min (min (min (pE a) (pE b)) (pE s)) (pE e))) w := fun w => run_min4 w _ _ _ _ _ _
      have hL4 : min (min (min (pE a) (pE b)) (pE s)) (pE e) = pE b := by omega
      rw [hL4] at hm4
      have hM4 : ∀ w, (Builtin.max_ #[3, 3, 3, 3] 3 #[.int .i64 (pE a), .int .i64 (pE b), .int .i64 (pE s), .int .i64 (pE e)]).run Try.prog w = .ok (.int .i64 (max (max (max (pE a) (pE b)) (pE s)) (pE e))) w := fun w => run_max4 w _ _ _ _ _ _
      obtain ⟨M4, hMM⟩ : ∃ M4 : Int, max (max (max (pE a) (pE b)) (pE s)) (pE e) = M4 := ⟨_, rfl⟩
      rw [hMM] at hM4
      have bM4 : M4 - pE b ≤ 36 ∧ -149 ≤ M4 ∧ M4 ≤ 105 := by omega
      clear hMM
      clear hx hX hZ hQ
      go_enter Try.func6, Try.ntmps6
      go_wp2_with (first
        | (go_at_call 9; refine (add_any _ (by omega) (by omega) _ (by omega) (by omega) _).mono ?_; rintro x w1 ⟨rfl, hb1⟩)
        | (go_at_call 17; refine (sub_any _ (by omega) (by omega) _ (by omega) (by omega) _).mono ?_; rintro x w1 ⟨rfl, hb1⟩)
        | (go_at_call 16; refine (finite_any _ (by omega) (by omega) _).mono ?_; rintro x w' ⟨rfl, rfl⟩)
        | (go_at_call 26; refine (prt_any _ (by omega) (by omega) _).mono ?_; rintro x w' ⟨rfl, rfl⟩)
        | (go_at_call 18; refine (works_any _).mono ?_; rintro x w1 ⟨rfl, hb1⟩))
      all_goals (
        go_ret
        refine ⟨rfl, ?_⟩
        repeat (first | (with_reducible assumption) | (with_reducible exact bel0 _) | (with_reducible refine bel ?_ (by with_reducible assumption))))
    · have hu4 := (units4 a b s e h0 h1 g0 g1 ls.1 ls.2 le.1 le.2 hx (pE s) (by omega) (by omega) (by omega) (by omega)).2 (by omega)
      rw [show (pE s - pE s).toNat = 0 by omega, Int.pow_zero, Int.mul_one] at hu4
      have bX := shl_lo (pM a) (pE a - pE s).toNat 0 (by omega) (by omega) (by omega)
      obtain ⟨X, hX⟩ : ∃ X : Int, pM a * 2 ^ (pE a - pE s).toNat = X := ⟨_, rfl⟩
      rw [hX] at bX hu4
      have fX : wrap64 (pM a * 2 ^ (pE a - pE s).toNat) = X := by rw [hX]; unfold wrap64; omega
      have bY := shl_lo (pM b) (pE b - pE s).toNat 0 (by omega) (by omega) (by omega)
      obtain ⟨Y, hY⟩ : ∃ Y : Int, pM b * 2 ^ (pE b - pE s).toNat = Y := ⟨_, rfl⟩
      rw [hY] at bY hu4
      have fY : wrap64 (pM b * 2 ^ (pE b - pE s).toNat) = Y := by rw [hY]; unfold wrap64; omega
      have bQ := shl_lo (pM e) (pE e - pE s).toNat 0 (by omega) (by omega) (by omega)
      obtain ⟨Q, hQ⟩ : ∃ Q : Int, pM e * 2 ^ (pE e - pE s).toNat = Q := ⟨_, rfl⟩
      rw [hQ] at bQ hu4
      have fQ : wrap64 (pM e * 2 ^ (pE e - pE s).toNat) = Q := by rw [hQ]; unfold wrap64; omega
      have hm4 : ∀ w, (Builtin.min_ #[3, 3, 3, 3] 3 #[.int .i64 (pE a), .int .i64 (pE b), .int .i64 (pE s), .int .i64 (pE e)]).run Try.prog w = .ok (.int .i64 (min (min (min (pE a) (pE b)) (pE s)) (pE e))) w := fun w => run_min4 w _ _ _ _ _ _
      have hL4 : min (min (min (pE a) (pE b)) (pE s)) (pE e) = pE s := by omega
      rw [hL4] at hm4
      have hM4 : ∀ w, (Builtin.max_ #[3, 3, 3, 3] 3 #[.int .i64 (pE a), .int .i64 (pE b), .int .i64 (pE s), .int .i64 (pE e)]).run Try.prog w = .ok (.int .i64 (max (max (max (pE a) (pE b)) (pE s)) (pE e))) w := fun w => run_max4 w _ _ _ _ _ _
      obtain ⟨M4, hMM⟩ : ∃ M4 : Int, max (max (max (pE a) (pE b)) (pE s)) (pE e) = M4 := ⟨_, rfl⟩
      rw [hMM] at hM4
      have bM4 : M4 - pE s ≤ 36 ∧ -149 ≤ M4 ∧ M4 ≤ 105 := by omega
      clear hMM
      clear hx hX hY hQ
      go_enter Try.func6, Try.ntmps6
      go_wp2_with (first
        | (go_at_call 9; refine (add_any _ (by omega) (by omega) _ (by omega) (by omega) _).mono ?_; rintro x w1 ⟨rfl, hb1⟩)
        | (go_at_call 17; refine (sub_any _ (by omega) (by omega) _ (by omega) (by omega) _).mono ?_; rintro x w1 ⟨rfl, hb1⟩)
        | (go_at_call 16; refine (finite_any _ (by omega) (by omega) _).mono ?_; rintro x w' ⟨rfl, rfl⟩)
        | (go_at_call 26; refine (prt_any _ (by omega) (by omega) _).mono ?_; rintro x w' ⟨rfl, rfl⟩)
        | (go_at_call 18; refine (works_any _).mono ?_; rintro x w1 ⟨rfl, hb1⟩))
      all_goals (
        go_ret
        refine ⟨rfl, ?_⟩
        repeat (first | (with_reducible assumption) | (with_reducible exact bel0 _) | (with_reducible refine bel ?_ (by with_reducible assumption))))
    · have hu4 := (units4 a b s e h0 h1 g0 g1 ls.1 ls.2 le.1 le.2 hx (pE e) (by omega) (by omega) (by omega) (by omega)).2 (by omega)
      rw [show (pE e - pE e).toNat = 0 by omega, Int.pow_zero, Int.mul_one] at hu4
      have bX := shl_lo (pM a) (pE a - pE e).toNat 0 (by omega) (by omega) (by omega)
      obtain ⟨X, hX⟩ : ∃ X : Int, pM a * 2 ^ (pE a - pE e).toNat = X := ⟨_, rfl⟩
      rw [hX] at bX hu4
      have fX : wrap64 (pM a * 2 ^ (pE a - pE e).toNat) = X := by rw [hX]; unfold wrap64; omega
      have bY := shl_lo (pM b) (pE b - pE e).toNat 0 (by omega) (by omega) (by omega)
      obtain ⟨Y, hY⟩ : ∃ Y : Int, pM b * 2 ^ (pE b - pE e).toNat = Y := ⟨_, rfl⟩
      rw [hY] at bY hu4
      have fY : wrap64 (pM b * 2 ^ (pE b - pE e).toNat) = Y := by rw [hY]; unfold wrap64; omega
      have bZ := shl_lo (pM s) (pE s - pE e).toNat 0 (by omega) (by omega) (by omega)
      obtain ⟨Z, hZ⟩ : ∃ Z : Int, pM s * 2 ^ (pE s - pE e).toNat = Z := ⟨_, rfl⟩
      rw [hZ] at bZ hu4
      have fZ : wrap64 (pM s * 2 ^ (pE s - pE e).toNat) = Z := by rw [hZ]; unfold wrap64; omega
      have hm4 : ∀ w, (Builtin.min_ #[3, 3, 3, 3] 3 #[.int .i64 (pE a), .int .i64 (pE b), .int .i64 (pE s), .int .i64 (pE e)]).run Try.prog w = .ok (.int .i64 (min (min (min (pE a) (pE b)) (pE s)) (pE e))) w := fun w => run_min4 w _ _ _ _ _ _
      have hL4 : min (min (min (pE a) (pE b)) (pE s)) (pE e) = pE e := by omega
      rw [hL4] at hm4
      have hM4 : ∀ w, (Builtin.max_ #[3, 3, 3, 3] 3 #[.int .i64 (pE a), .int .i64 (pE b), .int .i64 (pE s), .int .i64 (pE e)]).run Try.prog w = .ok (.int .i64 (max (max (max (pE a) (pE b)) (pE s)) (pE e))) w := fun w => run_max4 w _ _ _ _ _ _
      obtain ⟨M4, hMM⟩ : ∃ M4 : Int, max (max (max (pE a) (pE b)) (pE s)) (pE e) = M4 := ⟨_, rfl⟩
      rw [hMM] at hM4
      have bM4 : M4 - pE e ≤ 36 ∧ -149 ≤ M4 ∧ M4 ≤ 105 := by omega
      clear hMM
      clear hx hX hY hZ
      go_enter Try.func6, Try.ntmps6
      go_wp2_with (first
        | (go_at_call 9; refine (add_any _ (by omega) (by omega) _ (by omega) (by omega) _).mono ?_; rintro x w1 ⟨rfl, hb1⟩)
        | (go_at_call 17; refine (sub_any _ (by omega) (by omega) _ (by omega) (by omega) _).mono ?_; rintro x w1 ⟨rfl, hb1⟩)
        | (go_at_call 16; refine (finite_any _ (by omega) (by omega) _).mono ?_; rintro x w' ⟨rfl, rfl⟩)
        | (go_at_call 26; refine (prt_any _ (by omega) (by omega) _).mono ?_; rintro x w' ⟨rfl, rfl⟩)
        | (go_at_call 18; refine (works_any _).mono ?_; rintro x w1 ⟨rfl, hb1⟩))
      all_goals (
        go_ret
        refine ⟨rfl, ?_⟩
        repeat (first | (with_reducible assumption) | (with_reducible exact bel0 _) | (with_reducible refine bel ?_ (by with_reducible assumption))))
  · clear hx
    rcases (show (pE a ≤ pE b ∧ pE a ≤ pE s ∧ pE a ≤ pE e) ∨ (pE b < pE a ∧ pE b ≤ pE s ∧ pE b ≤ pE e) ∨ (pE s < pE a ∧ pE s < pE b ∧ pE s ≤ pE e) ∨ (pE e < pE a ∧ pE e < pE b ∧ pE e < pE s) by omega) with c | c | c | c
    · skip
      have hm4 : ∀ w, (Builtin.min_ #[3, 3, 3, 3] 3 #[.int .i64 (pE a), .int .i64 (pE b), .int .i64 (pE s), .int .i64 (pE e)]).run Try.prog w = .ok (.int .i64 (min (min (min (pE a) (pE b)) (pE s)) (pE e))) w := fun w => run_min4 w _ _ _ _ _ _
      have hL4 : min (min (min (pE a) (pE b)) (pE s)) (pE e) = pE a := by omega
      rw [hL4] at hm4
      have hM4 : ∀ w, (Builtin.max_ #[3, 3, 3, 3] 3 #[.int .i64 (pE a), .int .i64 (pE b), .int .i64 (pE s), .int .i64 (pE e)]).run Try.prog w = .ok (.int .i64 (max (max (max (pE a) (pE b)) (pE s)) (pE e))) w := fun w => run_max4 w _ _ _ _ _ _
      obtain ⟨M4, hMM⟩ : ∃ M4 : Int, max (max (max (pE a) (pE b)) (pE s)) (pE e) = M4 := ⟨_, rfl⟩
      rw [hMM] at hM4
      have bM4 : M4 - pE a > 36 ∧ -149 ≤ M4 ∧ M4 ≤ 105 := by omega
      clear hMM
      go_enter Try.func6, Try.ntmps6
      go_wp2_with (first
        | (go_at_call 9; refine (add_any _ (by omega) (by omega) _ (by omega) (by omega) _).mono ?_; rintro x w1 ⟨rfl, hb1⟩)
        | (go_at_call 17; refine (sub_any _ (by omega) (by omega) _ (by omega) (by omega) _).mono ?_; rintro x w1 ⟨rfl, hb1⟩)
        | (go_at_call 16; refine (finite_any _ (by omega) (by omega) _).mono ?_; rintro x w' ⟨rfl, rfl⟩)
        | (go_at_call 26; refine (prt_any _ (by omega) (by omega) _).mono ?_; rintro x w' ⟨rfl, rfl⟩)
        | (go_at_call 18; refine (works_any _).mono ?_; rintro x w1 ⟨rfl, hb1⟩))
      all_goals (
        go_ret
        refine ⟨rfl, ?_⟩
        repeat (first | (with_reducible assumption) | (with_reducible exact bel0 _) | (with_reducible refine bel ?_ (by with_reducible assumption))))
    · skip
      have hm4 : ∀ w, (Builtin.min_ #[3, 3, 3, 3] 3 #[.int .i64 (pE a), .int .i64 (pE b), .int .i64 (pE s), .int .i64 (pE e)]).run Try.prog w = .ok (.int .i64 (min (min (min (pE a) (pE b)) (pE s)) (pE e))) w := fun w => run_min4 w _ _ _ _ _ _
      have hL4 : min (min (min (pE a) (pE b)) (pE s)) (pE e) = pE b := by omega
      rw [hL4] at hm4
      have hM4 : ∀ w, (Builtin.max_ #[3, 3, 3, 3] 3 #[.int .i64 (pE a), .int .i64 (pE b), .int .i64 (pE s), .int .i64 (pE e)]).run Try.prog w = .ok (.int .i64 (max (max (max (pE a) (pE b)) (pE s)) (pE e))) w := fun w => run_max4 w _ _ _ _ _ _
      obtain ⟨M4, hMM⟩ : ∃ M4 : Int, max (max (max (pE a) (pE b)) (pE s)) (pE e) = M4 := ⟨_, rfl⟩
      rw [hMM] at hM4
      have bM4 : M4 - pE b > 36 ∧ -149 ≤ M4 ∧ M4 ≤ 105 := by omega
      clear hMM
      go_enter Try.func6, Try.ntmps6
      go_wp2_with (first
        | (go_at_call 9; refine (add_any _ (by omega) (by omega) _ (by omega) (by omega) _).mono ?_; rintro x w1 ⟨rfl, hb1⟩)
        | (go_at_call 17; refine (sub_any _ (by omega) (by omega) _ (by omega) (by omega) _).mono ?_; rintro x w1 ⟨rfl, hb1⟩)
        | (go_at_call 16; refine (finite_any _ (by omega) (by omega) _).mono ?_; rintro x w' ⟨rfl, rfl⟩)
        | (go_at_call 26; refine (prt_any _ (by omega) (by omega) _).mono ?_; rintro x w' ⟨rfl, rfl⟩)
        | (go_at_call 18; refine (works_any _).mono ?_; rintro x w1 ⟨rfl, hb1⟩))
      all_goals (
        go_ret
        refine ⟨rfl, ?_⟩
        repeat (first | (with_reducible assumption) | (with_reducible exact bel0 _) | (with_reducible refine bel ?_ (by with_reducible assumption))))
    · skip
      have hm4 : ∀ w, (Builtin.min_ #[3, 3, 3, 3] 3 #[.int .i64 (pE a), .int .i64 (pE b), .int .i64 (pE s), .int .i64 (pE e)]).run Try.prog w = .ok (.int .i64 (min (min (min (pE a) (pE b)) (pE s)) (pE e))) w := fun w => run_min4 w _ _ _ _ _ _
      have hL4 : min (min (min (pE a) (pE b)) (pE s)) (pE e) = pE s := by omega
      rw [hL4] at hm4
      have hM4 : ∀ w, (Builtin.max_ #[3, 3, 3, 3] 3 #[.int .i64 (pE a), .int .i64 (pE b), .int .i64 (pE s), .int .i64 (pE e)]).run Try.prog w = .ok (.int .i64 (max (max (max (pE a) (pE b)) (pE s)) (pE e))) w := fun w => run_max4 w _ _ _ _ _ _
      obtain ⟨M4, hMM⟩ : ∃ M4 : Int, max (max (max (pE a) (pE b)) (pE s)) (pE e) = M4 := ⟨_, rfl⟩
      rw [hMM] at hM4
      have bM4 : M4 - pE s > 36 ∧ -149 ≤ M4 ∧ M4 ≤ 105 := by omega
      clear hMM
      go_enter Try.func6, Try.ntmps6
      go_wp2_with (first
        | (go_at_call 9; refine (add_any _ (by omega) (by omega) _ (by omega) (by omega) _).mono ?_; rintro x w1 ⟨rfl, hb1⟩)
        | (go_at_call 17; refine (sub_any _ (by omega) (by omega) _ (by omega) (by omega) _).mono ?_; rintro x w1 ⟨rfl, hb1⟩)
        | (go_at_call 16; refine (finite_any _ (by omega) (by omega) _).mono ?_; rintro x w' ⟨rfl, rfl⟩)
        | (go_at_call 26; refine (prt_any _ (by omega) (by omega) _).mono ?_; rintro x w' ⟨rfl, rfl⟩)
        | (go_at_call 18; refine (works_any _).mono ?_; rintro x w1 ⟨rfl, hb1⟩))
      all_goals (
        go_ret
        refine ⟨rfl, ?_⟩
        repeat (first | (with_reducible assumption) | (with_reducible exact bel0 _) | (with_reducible refine bel ?_ (by with_reducible assumption))))
    · skip
      have hm4 : ∀ w, (Builtin.min_ #[3, 3, 3, 3] 3 #[.int .i64 (pE a), .int .i64 (pE b), .int .i64 (pE s), .int .i64 (pE e)]).run Try.prog w = .ok (.int .i64 (min (min (min (pE a) (pE b)) (pE s)) (pE e))) w := fun w => run_min4 w _ _ _ _ _ _
      have hL4 : min (min (min (pE a) (pE b)) (pE s)) (pE e) = pE e := by omega
      rw [hL4] at hm4
      have hM4 : ∀ w, (Builtin.max_ #[3, 3, 3, 3] 3 #[.int .i64 (pE a), .int .i64 (pE b), .int .i64 (pE s), .int .i64 (pE e)]).run Try.prog w = .ok (.int .i64 (max (max (max (pE a) (pE b)) (pE s)) (pE e))) w := fun w => run_max4 w _ _ _ _ _ _
      obtain ⟨M4, hMM⟩ : ∃ M4 : Int, max (max (max (pE a) (pE b)) (pE s)) (pE e) = M4 := ⟨_, rfl⟩
      rw [hMM] at hM4
      have bM4 : M4 - pE e > 36 ∧ -149 ≤ M4 ∧ M4 ≤ 105 := by omega
      clear hMM
      go_enter Try.func6, Try.ntmps6
      go_wp2_with (first
        | (go_at_call 9; refine (add_any _ (by omega) (by omega) _ (by omega) (by omega) _).mono ?_; rintro x w1 ⟨rfl, hb1⟩)
        | (go_at_call 17; refine (sub_any _ (by omega) (by omega) _ (by omega) (by omega) _).mono ?_; rintro x w1 ⟨rfl, hb1⟩)
        | (go_at_call 16; refine (finite_any _ (by omega) (by omega) _).mono ?_; rintro x w' ⟨rfl, rfl⟩)
        | (go_at_call 26; refine (prt_any _ (by omega) (by omega) _).mono ?_; rintro x w' ⟨rfl, rfl⟩)
        | (go_at_call 18; refine (works_any _).mono ?_; rintro x w1 ⟨rfl, hb1⟩))
      all_goals (
        go_ret
        refine ⟨rfl, ?_⟩
        repeat (first | (with_reducible assumption) | (with_reducible exact bel0 _) | (with_reducible refine bel ?_ (by with_reducible assumption))))

set_option maxHeartbeats 1000000 in
theorem kn_all (a : Int) (h0 : 0 ≤ a) (h1 : a < 4294967296) (b : Int) (g0 : 0 ≤ b) (g1 : b < 4294967296) (s t u x1 x2 e : Int) (hs : fadd a b = s) (ht : fsub s a = t) (hu : fsub s t = u) (hx1 : fsub a u = x1) (hx2 : fsub b t = x2) (he : fadd x1 x2 = e) (ls : 0 ≤ s ∧ s < 4294967296) (lt : 0 ≤ t ∧ t < 4294967296) (lu : 0 ≤ u ∧ u < 4294967296) (lx1 : 0 ≤ x1 ∧ x1 < 4294967296) (lx2 : 0 ≤ x2 ∧ x2 < 4294967296) (le : 0 ≤ e ∧ e < 4294967296) (w : World) :
    Calls Try.prog 6 #[.int .u32 a, .int .u32 b] w fun e w' => e = .returned (.bool true) ∧ Below w.heap.size w w' := by
  cases fa : ffin a
  · skip
    go_enter Try.func6, Try.ntmps6
    go_wp2_with (first
      | (go_at_call 9; refine (add_any _ (by omega) (by omega) _ (by omega) (by omega) _).mono ?_; rintro x w1 ⟨rfl, hb1⟩)
      | (go_at_call 17; refine (sub_any _ (by omega) (by omega) _ (by omega) (by omega) _).mono ?_; rintro x w1 ⟨rfl, hb1⟩)
      | (go_at_call 16; refine (finite_any _ (by omega) (by omega) _).mono ?_; rintro x w' ⟨rfl, rfl⟩)
      | (go_at_call 26; refine (prt_any _ (by omega) (by omega) _).mono ?_; rintro x w' ⟨rfl, rfl⟩)
      | (go_at_call 18; refine (works_any _).mono ?_; rintro x w1 ⟨rfl, hb1⟩))
    all_goals (
      go_ret
      refine ⟨rfl, ?_⟩
      repeat (first | (with_reducible assumption) | (with_reducible exact bel0 _) | (with_reducible refine bel ?_ (by with_reducible assumption))))
  · cases fb : ffin b
    · skip
      go_enter Try.func6, Try.ntmps6
      go_wp2_with (first
        | (go_at_call 9; refine (add_any _ (by omega) (by omega) _ (by omega) (by omega) _).mono ?_; rintro x w1 ⟨rfl, hb1⟩)
        | (go_at_call 17; refine (sub_any _ (by omega) (by omega) _ (by omega) (by omega) _).mono ?_; rintro x w1 ⟨rfl, hb1⟩)
        | (go_at_call 16; refine (finite_any _ (by omega) (by omega) _).mono ?_; rintro x w' ⟨rfl, rfl⟩)
        | (go_at_call 26; refine (prt_any _ (by omega) (by omega) _).mono ?_; rintro x w' ⟨rfl, rfl⟩)
        | (go_at_call 18; refine (works_any _).mono ?_; rintro x w1 ⟨rfl, hb1⟩))
      all_goals (
        go_ret
        refine ⟨rfl, ?_⟩
        repeat (first | (with_reducible assumption) | (with_reducible exact bel0 _) | (with_reducible refine bel ?_ (by with_reducible assumption))))
    · cases fs : ffin s
      · skip
        go_enter Try.func6, Try.ntmps6
        go_wp2_with (first
          | (go_at_call 9; refine (add_any _ (by omega) (by omega) _ (by omega) (by omega) _).mono ?_; rintro x w1 ⟨rfl, hb1⟩)
          | (go_at_call 17; refine (sub_any _ (by omega) (by omega) _ (by omega) (by omega) _).mono ?_; rintro x w1 ⟨rfl, hb1⟩)
          | (go_at_call 16; refine (finite_any _ (by omega) (by omega) _).mono ?_; rintro x w' ⟨rfl, rfl⟩)
          | (go_at_call 26; refine (prt_any _ (by omega) (by omega) _).mono ?_; rintro x w' ⟨rfl, rfl⟩)
          | (go_at_call 18; refine (works_any _).mono ?_; rintro x w1 ⟨rfl, hb1⟩))
        all_goals (
          go_ret
          refine ⟨rfl, ?_⟩
          repeat (first | (with_reducible assumption) | (with_reducible exact bel0 _) | (with_reducible refine bel ?_ (by with_reducible assumption))))
      · cases ft : ffin t
        · skip
          go_enter Try.func6, Try.ntmps6
          go_wp2_with (first
            | (go_at_call 9; refine (add_any _ (by omega) (by omega) _ (by omega) (by omega) _).mono ?_; rintro x w1 ⟨rfl, hb1⟩)
            | (go_at_call 17; refine (sub_any _ (by omega) (by omega) _ (by omega) (by omega) _).mono ?_; rintro x w1 ⟨rfl, hb1⟩)
            | (go_at_call 16; refine (finite_any _ (by omega) (by omega) _).mono ?_; rintro x w' ⟨rfl, rfl⟩)
            | (go_at_call 26; refine (prt_any _ (by omega) (by omega) _).mono ?_; rintro x w' ⟨rfl, rfl⟩)
            | (go_at_call 18; refine (works_any _).mono ?_; rintro x w1 ⟨rfl, hb1⟩))
          all_goals (
            go_ret
            refine ⟨rfl, ?_⟩
            repeat (first | (with_reducible assumption) | (with_reducible exact bel0 _) | (with_reducible refine bel ?_ (by with_reducible assumption))))
        · cases fe : ffin e
          · skip
            go_enter Try.func6, Try.ntmps6
            go_wp2_with (first
              | (go_at_call 9; refine (add_any _ (by omega) (by omega) _ (by omega) (by omega) _).mono ?_; rintro x w1 ⟨rfl, hb1⟩)
              | (go_at_call 17; refine (sub_any _ (by omega) (by omega) _ (by omega) (by omega) _).mono ?_; rintro x w1 ⟨rfl, hb1⟩)
              | (go_at_call 16; refine (finite_any _ (by omega) (by omega) _).mono ?_; rintro x w' ⟨rfl, rfl⟩)
              | (go_at_call 26; refine (prt_any _ (by omega) (by omega) _).mono ?_; rintro x w' ⟨rfl, rfl⟩)
              | (go_at_call 18; refine (works_any _).mono ?_; rintro x w1 ⟨rfl, hb1⟩))
            all_goals (
              go_ret
              refine ⟨rfl, ?_⟩
              repeat (first | (with_reducible assumption) | (with_reducible exact bel0 _) | (with_reducible refine bel ?_ (by with_reducible assumption))))
          · by_cases hw : pM e = 0
            · exact kn_z a h0 h1 b g0 g1 s t u x1 x2 e hs ht hu hx1 hx2 he ls lt lu lx1 lx2 le fa fb fs ft fe hw w
            · exact kn_w a h0 h1 b g0 g1 s t u x1 x2 e hs ht hu hx1 hx2 he ls lt lu lx1 lx2 le fa fb fs ft fe hw w

theorem walk_FloatKnuth (a : Int) (h0 : 0 ≤ a) (h1 : a < 4294967296) (b : Int) (g0 : 0 ≤ b) (g1 : b < 4294967296) (w : World) :
    Calls Try.prog 6 #[.int .u32 a, .int .u32 b] w fun e w' => e = .returned (.bool true) ∧ Below w.heap.size w w' := by
  exact kn_all a h0 h1 b g0 g1 _ _ _ _ _ _ rfl rfl rfl rfl rfl rfl (fadd_lo _ _) (fsub_lo _ _) (fsub_lo _ _) (fsub_lo _ _) (fsub_lo _ _) (fadd_lo _ _) w

end Go.Proofs.Ytbeamaaclplabab
