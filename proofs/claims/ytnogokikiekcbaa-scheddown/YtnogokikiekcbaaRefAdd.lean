import Derived.Test.YtnogokikiekcbaaRefOps
/- Sums of the reference of layer 2. -/
namespace Go.Proofs.Ytnogokikiekcbaa
open Go.RowKit
set_option linter.unusedVariables false

def rnd (x e : Int) : Int := if x = 0 then 0 else (Ieee.single.nearest (decide (x < 0)) x.natAbs e : Nat)
def sgd (s : Bool) (x : Int) : Int := if s then -x else x
def sumv (s1 : Bool) (m1 e1 : Int) (s2 : Bool) (m2 e2 : Int) : Int :=
  if e1 - e2 ≤ 36 then rnd (sgd s1 (m1 * 2 ^ (e1 - e2).toNat) + sgd s2 m2) e2 else rnd (sgd s1 (m1 * 68719476736) + sgd s2 1) (e1 - 36)
theorem ret_near {s : Bool} {m m' : Nat} {e e' : Int} (h : m = m') (k : e = e') : Ending.returned (.int .i64 ((Ieee.single.nearest s m e : Nat) : Int)) = .returned (.int .i64 ((Ieee.single.nearest s m' e' : Nat) : Int)) := by rw [h, k]

set_option maxHeartbeats 2000000 in
theorem rsum_any (s1 : Bool) (m1 e1 : Int) (i1 n1 s2 : Bool) (m2 e2 : Int) (i2 n2 : Bool) (h1 : 0 < m1) (h2 : m1 < 16777216) (h3 : 0 < m2) (h4 : m2 < 16777216) (h5 : -149 ≤ e2) (h6 : e2 ≤ e1) (h7 : e1 ≤ 104) (w : World) :
    Calls Try.prog 50 #[.agg #[.bool s1, .int .u64 m1, .int .i64 e1, .bool i1, .bool n1], .agg #[.bool s2, .int .u64 m2, .int .i64 e2, .bool i2, .bool n2]] w fun e w' => e = .returned (.int .i64 (sumv s1 m1 e1 s2 m2 e2)) ∧ Below w.heap.size w w' := by
  unfold sumv
  by_cases c : e1 - e2 ≤ 36
  · rw [if_pos c]
    generalize hd : e1 - e2 = d at *
    have hd0 : 0 ≤ d := by omega
    obtain ⟨X, hXX⟩ : ∃ X, m1 * 2 ^ d.toNat = X := ⟨_, rfl⟩
    have hX : 0 < X ∧ X < 1152921504606846976 := by
      rw [← hXX]
      have p1 : (1 : Int) ≤ 2 ^ d.toNat := Int.pow_pos (by decide)
      have p2 : (2 : Int) ^ d.toNat ≤ 68719476736 := by
        have h : 2 ^ d.toNat ≤ 68719476736 := Nat.le_trans (Nat.pow_le_pow_right (by decide) (show d.toNat ≤ 36 by omega)) (by decide)
        have h' : ((2 ^ d.toNat : Nat) : Int) ≤ ((68719476736 : Nat) : Int) := Int.ofNat_le.2 h
        rw [Int.natCast_pow] at h'; exact h'
      refine ⟨Int.mul_pos h1 (by omega), ?_⟩
      have := Int.mul_le_mul (show m1 ≤ 16777215 by omega) p2 (by omega) (by omega)
      omega
    have hw : IntKind.u64.wrap (m1 * 2 ^ d.toNat) = X := by rw [hXX, IntKind.wrap_u64]; omega
    rw [hXX]
    clear hXX
    cases s1 <;> cases s2 <;> simp only [sgd, if_true, if_false, Bool.false_eq_true] <;> unfold rnd
    · rw [if_neg (by omega), decide_eq_false (by omega), show (X + m2).natAbs = (X + m2).toNat by omega]
      go_enter Try.func50, Try.ntmps50
      go_wp2_with (first
        | (go_at_call 48; refine (rzero_any _ _).mono ?_; rintro e w' ⟨rfl, rfl⟩)
        | (go_at_call 49; refine (rround_any _ _ (by omega) (by omega) _ (by omega) (by omega) _).mono ?_; rintro e w' ⟨rfl, rfl⟩))
      go_ret
      exact ⟨ret_near (by omega) rfl, by go_grown⟩
    · rcases Int.lt_trichotomy (X + -m2) 0 with c2 | c2 | c2
      · rw [if_neg (by omega), decide_eq_true (by omega), show (X + -m2).natAbs = (-(X + -m2)).toNat by omega]
        go_enter Try.func50, Try.ntmps50
        go_wp2_with (first
          | (go_at_call 48; refine (rzero_any _ _).mono ?_; rintro e w' ⟨rfl, rfl⟩)
          | (go_at_call 49; refine (rround_any _ _ (by omega) (by omega) _ (by omega) (by omega) _).mono ?_; rintro e w' ⟨rfl, rfl⟩))
        go_ret
        exact ⟨ret_near (by omega) rfl, by go_grown⟩
      · rw [if_pos c2]
        go_enter Try.func50, Try.ntmps50
        go_wp2_with (first
          | (go_at_call 48; refine (rzero_any _ _).mono ?_; rintro e w' ⟨rfl, rfl⟩)
          | (go_at_call 49; refine (rround_any _ _ (by omega) (by omega) _ (by omega) (by omega) _).mono ?_; rintro e w' ⟨rfl, rfl⟩))
        go_ret
        exact ⟨rfl, by go_grown⟩
      · rw [if_neg (by omega), decide_eq_false (by omega), show (X + -m2).natAbs = (X + -m2).toNat by omega]
        go_enter Try.func50, Try.ntmps50
        go_wp2_with (first
          | (go_at_call 48; refine (rzero_any _ _).mono ?_; rintro e w' ⟨rfl, rfl⟩)
          | (go_at_call 49; refine (rround_any _ _ (by omega) (by omega) _ (by omega) (by omega) _).mono ?_; rintro e w' ⟨rfl, rfl⟩))
        go_ret
        exact ⟨ret_near (by omega) rfl, by go_grown⟩
    · rcases Int.lt_trichotomy (-X + m2) 0 with c2 | c2 | c2
      · rw [if_neg (by omega), decide_eq_true (by omega), show (-X + m2).natAbs = (-(-X + m2)).toNat by omega]
        go_enter Try.func50, Try.ntmps50
        go_wp2_with (first
          | (go_at_call 48; refine (rzero_any _ _).mono ?_; rintro e w' ⟨rfl, rfl⟩)
          | (go_at_call 49; refine (rround_any _ _ (by omega) (by omega) _ (by omega) (by omega) _).mono ?_; rintro e w' ⟨rfl, rfl⟩))
        go_ret
        exact ⟨ret_near (by omega) rfl, by go_grown⟩
      · rw [if_pos c2]
        go_enter Try.func50, Try.ntmps50
        go_wp2_with (first
          | (go_at_call 48; refine (rzero_any _ _).mono ?_; rintro e w' ⟨rfl, rfl⟩)
          | (go_at_call 49; refine (rround_any _ _ (by omega) (by omega) _ (by omega) (by omega) _).mono ?_; rintro e w' ⟨rfl, rfl⟩))
        go_ret
        exact ⟨rfl, by go_grown⟩
      · rw [if_neg (by omega), decide_eq_false (by omega), show (-X + m2).natAbs = (-X + m2).toNat by omega]
        go_enter Try.func50, Try.ntmps50
        go_wp2_with (first
          | (go_at_call 48; refine (rzero_any _ _).mono ?_; rintro e w' ⟨rfl, rfl⟩)
          | (go_at_call 49; refine (rround_any _ _ (by omega) (by omega) _ (by omega) (by omega) _).mono ?_; rintro e w' ⟨rfl, rfl⟩))
        go_ret
        exact ⟨ret_near (by omega) rfl, by go_grown⟩
    · rw [if_neg (by omega), decide_eq_true (by omega), show (-X + -m2).natAbs = (-(-X + -m2)).toNat by omega]
      go_enter Try.func50, Try.ntmps50
      go_wp2_with (first
        | (go_at_call 48; refine (rzero_any _ _).mono ?_; rintro e w' ⟨rfl, rfl⟩)
        | (go_at_call 49; refine (rround_any _ _ (by omega) (by omega) _ (by omega) (by omega) _).mono ?_; rintro e w' ⟨rfl, rfl⟩))
      go_ret
      exact ⟨ret_near (by omega) rfl, by go_grown⟩
  · rw [if_neg c]
    obtain ⟨X, hXX⟩ : ∃ X, m1 * 68719476736 = X := ⟨_, rfl⟩
    have hX : 68719476736 ≤ X ∧ X < 1152921504606846976 := by omega
    have hw : IntKind.u64.wrap (m1 * 68719476736) = X := by rw [hXX, IntKind.wrap_u64]; omega
    rw [hXX]
    have hX3 : m1 * 68719476736 < 18446744073709551616 := by omega
    cases s1 <;> cases s2 <;> simp only [sgd, if_true, if_false, Bool.false_eq_true] <;> unfold rnd
    · rw [if_neg (by omega), decide_eq_false (by omega), show (X + 1).natAbs = (X + 1).toNat by omega]
      go_enter Try.func50, Try.ntmps50
      go_wp2_with (first
        | (go_at_call 48; refine (rzero_any _ _).mono ?_; rintro e w' ⟨rfl, rfl⟩)
        | (go_at_call 49; refine (rround_any _ _ (by omega) (by omega) _ (by omega) (by omega) _).mono ?_; rintro e w' ⟨rfl, rfl⟩))
      go_ret
      exact ⟨ret_near (by omega) rfl, by go_grown⟩
    · rw [if_neg (by omega), decide_eq_false (by omega), show (X + -1).natAbs = (X + -1).toNat by omega]
      go_enter Try.func50, Try.ntmps50
      go_wp2_with (first
        | (go_at_call 48; refine (rzero_any _ _).mono ?_; rintro e w' ⟨rfl, rfl⟩)
        | (go_at_call 49; refine (rround_any _ _ (by omega) (by omega) _ (by omega) (by omega) _).mono ?_; rintro e w' ⟨rfl, rfl⟩))
      go_ret
      exact ⟨ret_near (by omega) rfl, by go_grown⟩
    · rw [if_neg (by omega), decide_eq_true (by omega), show (-X + 1).natAbs = (-(-X + 1)).toNat by omega]
      go_enter Try.func50, Try.ntmps50
      go_wp2_with (first
        | (go_at_call 48; refine (rzero_any _ _).mono ?_; rintro e w' ⟨rfl, rfl⟩)
        | (go_at_call 49; refine (rround_any _ _ (by omega) (by omega) _ (by omega) (by omega) _).mono ?_; rintro e w' ⟨rfl, rfl⟩))
      go_ret
      exact ⟨ret_near (by omega) rfl, by go_grown⟩
    · rw [if_neg (by omega), decide_eq_true (by omega), show (-X + -1).natAbs = (-(-X + -1)).toNat by omega]
      go_enter Try.func50, Try.ntmps50
      go_wp2_with (first
        | (go_at_call 48; refine (rzero_any _ _).mono ?_; rintro e w' ⟨rfl, rfl⟩)
        | (go_at_call 49; refine (rround_any _ _ (by omega) (by omega) _ (by omega) (by omega) _).mono ?_; rintro e w' ⟨rfl, rfl⟩))
      go_ret
      exact ⟨ret_near (by omega) rfl, by go_grown⟩

end Go.Proofs.Ytnogokikiekcbaa
