import Ieee.Arith
import Derived.Laws.FloatBits
import Derived.Test.YtmiidhgbdecdkaaPart1
import Derived.Laws.FloatArith
import Derived.Orders
import Derived.OrdersHeld
import Derived.Below
import Derived.KernelRfl
import Derived.Laws.AppendOwnNone
import Derived.MapKept
namespace Go.Proofs.Ytmiidhgbdecdkaa
set_option linter.unusedVariables false
def V (p k : Nat) : Nat := if k < 2 ^ p then k else (2 ^ p + k % 2 ^ p) * 2 ^ (k / 2 ^ p - 1)
theorem V_at (p t k : Nat) (h : k ≤ 2 * 2 ^ p) (h' : t = 0 ∨ 2 ^ p ≤ k) : V p (t * 2 ^ p + k) = k * 2 ^ t := by
 unfold V
 have hB : 0 < 2 ^ p := Nat.two_pow_pos p
 generalize 2 ^ p = B at *
 rcases Nat.lt_or_ge k B with c | c
 ·have : t = 0 := by omega
  subst this
  simp [c]
 ·have hge : ¬ (t * B + k < B) := by have := Nat.zero_le (t * B); omega
  rw [if_neg hge]
  rcases Nat.lt_or_ge k (2 * B) with c2 | c2
  ·have e1 : (t * B + k) % B = k - B := by
    have : t * B + k = (k - B) + B * (t + 1) := by rw [Nat.mul_add, Nat.mul_comm]; omega
    rw [this, Nat.add_mul_mod_self_left, Nat.mod_eq_of_lt (by omega)]
   have e2 : (t * B + k) / B = t + 1 := by
    have : t * B + k = (k - B) + B * (t + 1) := by rw [Nat.mul_add, Nat.mul_comm]; omega
    rw [this, Nat.add_mul_div_left _ _ hB, Nat.div_eq_of_lt (by omega)]; omega
   rw [e1, e2, show B + (k - B) = k by omega, Nat.add_sub_cancel]
  ·have hk : k = 2 * B := by omega
   subst hk
   have e0 : t * B + 2 * B = 0 + B * (t + 2) := by rw [Nat.mul_add, Nat.mul_comm]; omega
   rw [e0, Nat.add_mul_mod_self_left, Nat.add_mul_div_left _ _ hB, Nat.zero_mod, Nat.zero_div]
   rw [show 0 + (t + 2) - 1 = t + 1 by omega, Nat.pow_succ]
   grind
theorem rung_split (p r : Nat) : ∃ t k, r = t * 2 ^ p + k ∧ k < 2 * 2 ^ p ∧ (t = 0 ∨ 2 ^ p ≤ k) ∧ t = r / 2 ^ p - 1 := by
 have hB : 0 < 2 ^ p := Nat.two_pow_pos p
 generalize 2 ^ p = B at *
 have hd := Nat.div_add_mod r B
 have hm := Nat.mod_lt r hB
 rcases Nat.lt_or_ge r B with c | c
 ·exact ⟨0, r, by omega, by omega, Or.inl rfl, by rw [Nat.div_eq_of_lt c]⟩
 ·have : 1 ≤ r / B := (Nat.le_div_iff_mul_le hB).2 (by omega)
  obtain ⟨t, ht⟩ : ∃ t, r / B = t + 1 := ⟨r / B - 1, by omega⟩
  refine ⟨t, B + r % B, ?_, by omega, Or.inr (by omega), by omega⟩
  rw [ht, Nat.mul_add, Nat.mul_comm] at hd
  omega
theorem V_step (p r : Nat) : V p (r + 1) = V p r + 2 ^ (r / 2 ^ p - 1) := by
 obtain ⟨t, k, hr, hk, h, ht⟩ := rung_split p r
 have e1 : V p r = k * 2 ^ t := by rw [hr]; exact V_at p t k (by omega) h
 have e2 : V p (r + 1) = (k + 1) * 2 ^ t := by rw [hr, Nat.add_assoc]; exact V_at p t (k + 1) (by omega) (by omega)
 rw [e1, e2, ← ht, Nat.add_mul, Nat.one_mul]
theorem V_lt_succ (p r : Nat) : V p r < V p (r + 1) := by
 rw [V_step]; have := Nat.two_pow_pos (r / 2 ^ p - 1); omega
theorem V_lt (p : Nat) {r s : Nat} (h : r < s) : V p r < V p s := by
 induction s with
 | zero => omega
 | succ s ih =>
  rcases Nat.lt_or_ge r s with c | c
  ·exact Nat.lt_trans (ih c) (V_lt_succ p s)
  ·have : r = s := by omega
   subst this; exact V_lt_succ p r
theorem V_le (p : Nat) {r s : Nat} (h : r ≤ s) : V p r ≤ V p s := by
 rcases Nat.lt_or_eq_of_le h with c | c
 ·exact Nat.le_of_lt (V_lt p c)
 ·rw [c]; exact Nat.le_refl _
theorem V_zero (p : Nat) : V p 0 = 0 := by
 have hB : 0 < 2 ^ p := Nat.two_pow_pos p
 simp [V, hB]
structure Near (p n d r : Nat) : Prop where
 up : 2 * n ≤ (V p r + V p (r + 1)) * d
 ue : 2 * n = (V p r + V p (r + 1)) * d → r % 2 = 0
 dn : ∀ q, r = q + 1 → (V p q + V p r) * d ≤ 2 * n
 de : ∀ q, r = q + 1 → (V p q + V p r) * d = 2 * n → r % 2 = 0
theorem Near.mono {p n d r n' d' r' : Nat} (h : Near p n d r) (h' : Near p n' d' r') (hd : 0 < d) (hd' : 0 < d') (hn : n * d' ≤ n' * d) : r ≤ r' := by
 rcases Nat.lt_or_ge r' r with c | c
 ·exfalso
  obtain ⟨q, hq⟩ : ∃ q, r = q + 1 := ⟨r - 1, by omega⟩
  have a1 := h.dn q hq
  have a2 := h'.up
  have b1 : V p r' + V p (r' + 1) ≤ V p q + V p r := by
   have := V_le p (show r' ≤ q by omega); have := V_le p (show r' + 1 ≤ r by omega); omega
  have k1 : (V p q + V p r) * (d * d') ≤ 2 * n * d' := by
   rw [← Nat.mul_assoc]; exact Nat.mul_le_mul_right _ a1
  have k2 : 2 * n' * d ≤ (V p r' + V p (r' + 1)) * (d * d') := by
   have := Nat.mul_le_mul_right d a2
   rw [Nat.mul_comm d d', ← Nat.mul_assoc]; exact this
  have k3 : 2 * n * d' ≤ 2 * n' * d := by
   rw [Nat.mul_assoc, Nat.mul_assoc]; exact Nat.mul_le_mul_left _ hn
  have k4 : (V p r' + V p (r' + 1)) * (d * d') ≤ (V p q + V p r) * (d * d') := Nat.mul_le_mul_right _ b1
  have hdd : 0 < d * d' := Nat.mul_pos hd hd'
  have e4 : (V p r' + V p (r' + 1)) * (d * d') = (V p q + V p r) * (d * d') := by omega
  have e5 := Nat.eq_of_mul_eq_mul_right hdd e4
  have hqr : r' = q := by
   rcases Nat.lt_or_ge r' q with c2 | c2
   ·have := V_lt p c2; have := V_le p (show r' + 1 ≤ r by omega); omega
   ·omega
  have e6 : (V p q + V p r) * d * d' = 2 * n * d' := by rw [Nat.mul_assoc]; omega
  have e7 : 2 * n' * d = (V p r' + V p (r' + 1)) * d' * d := by rw [Nat.mul_assoc _ d' d, Nat.mul_comm d' d]; omega
  have p1 := h.de q hq (Nat.eq_of_mul_eq_mul_right hd' e6)
  have p2 := h'.ue (Nat.eq_of_mul_eq_mul_right hd e7)
  omega
 ·exact c
theorem Near.unique {p n d r n' d' r' : Nat} (h : Near p n d r) (h' : Near p n' d' r') (hd : 0 < d) (hd' : 0 < d') (hn : n * d' = n' * d) : r = r' :=
 Nat.le_antisymm (h.mono h' hd hd' (by omega)) (h'.mono h hd' hd (by omega))
theorem near_exact (p r d : Nat) (hd : 0 < d) : Near p (V p r * d) d r := by
 have s1 := V_lt_succ p r
 refine ⟨?_, ?_, ?_, ?_⟩
 ·rw [← Nat.mul_assoc]; exact Nat.mul_le_mul_right _ (by omega)
 ·intro h; rw [← Nat.mul_assoc] at h; have := Nat.eq_of_mul_eq_mul_right hd h; omega
 ·intro q hq; rw [← Nat.mul_assoc]; have := V_lt p (show q < r by omega); exact Nat.mul_le_mul_right _ (by omega)
 ·intro q hq h; rw [← Nat.mul_assoc] at h; have := Nat.eq_of_mul_eq_mul_right hd h; have := V_lt p (show q < r by omega); omega
structure Cut (n d k t : Nat) : Prop where
 up : 2 * n ≤ (2 * k + 1) * 2 ^ t * d
 ue : 2 * n = (2 * k + 1) * 2 ^ t * d → k % 2 = 0
 dn : 2 * k * 2 ^ t * d ≤ 2 * n + 2 ^ t * d
 de : 2 * k * 2 ^ t * d = 2 * n + 2 ^ t * d → k % 2 = 0
theorem Cut.near {p n d k t : Nat} (h : Cut n d k t) (hd : 0 < d) (hp : 1 ≤ p) (hr : t = 0 ∨ 2 ^ p * 2 ^ t * d ≤ n) (hu : n < 2 * 2 ^ p * 2 ^ t * d) :
  Near p n d (t * 2 ^ p + k) ∧ k ≤ 2 * 2 ^ p ∧ (t = 0 ∨ 2 ^ p ≤ k) := by
 have hT : 0 < 2 ^ t := Nat.two_pow_pos t
 have hB2 : 2 ^ p % 2 = 0 := by
  obtain ⟨q, rfl⟩ : ∃ q, p = q + 1 := ⟨p - 1, by omega⟩
  rw [Nat.pow_succ]; omega
 have hB : 0 < 2 ^ p := Nat.two_pow_pos p
 have hTd : 0 < 2 ^ t * d := Nat.mul_pos hT hd
 have up := h.up
 have ue := h.ue
 have dn := h.dn
 have de := h.de
 -- all in multiples of u = 2^t * d
 simp only [Nat.mul_assoc] at up ue dn de hr hu
 have kle : k ≤ 2 * 2 ^ p := by
  rcases Nat.lt_or_ge (2 * 2 ^ p) k with c | c
  ·exfalso
   have : (2 * (2 * 2 ^ p) + 2) * (2 ^ t * d) ≤ 2 * k * (2 ^ t * d) := Nat.mul_le_mul_right _ (by omega)
   rw [Nat.mul_assoc 2 k] at this
   rw [Nat.add_mul] at this
   generalize 2 ^ t * d = u at *
   simp only [Nat.mul_assoc] at this
   omega
  ·exact c
 have kge : t = 0 ∨ 2 ^ p ≤ k := by
  rcases hr with c | c
  ·exact Or.inl c
  ·right
   rcases Nat.lt_or_ge k (2 ^ p) with c2 | c2
   ·exfalso
    have : (2 * k + 1) * (2 ^ t * d) ≤ (2 * 2 ^ p - 1) * (2 ^ t * d) := Nat.mul_le_mul_right _ (by omega)
    rw [Nat.sub_mul] at this
    generalize 2 ^ t * d = u at *
    simp only [Nat.mul_assoc] at this
    have h3 : 0 < 2 ^ p * u := Nat.mul_pos hB hTd
    omega
   ·exact c2
 refine ⟨?_, kle, kge⟩
 have par : (t * 2 ^ p + k) % 2 = k % 2 := by
  have : (t * 2 ^ p) % 2 = 0 := by rw [Nat.mul_mod, hB2, Nat.mul_zero, Nat.zero_mod]
  omega
 have vr : V p (t * 2 ^ p + k) = k * 2 ^ t := V_at p t k kle kge
 have vs := V_step p (t * 2 ^ p + k)
 -- the step above is at least 2^t, and just that below 2 * 2^p
 have sge : 2 ^ t ≤ 2 ^ ((t * 2 ^ p + k) / 2 ^ p - 1) := by
  apply Nat.pow_le_pow_right (by omega)
  rcases kge with c | c
  ·omega
  ·have : t + 1 ≤ (t * 2 ^ p + k) / 2 ^ p := (Nat.le_div_iff_mul_le hB).2 (by rw [Nat.add_mul]; omega)
   omega
 have seq : k < 2 * 2 ^ p → V p (t * 2 ^ p + k + 1) = (k + 1) * 2 ^ t := by
  intro c; rw [Nat.add_assoc]; exact V_at p t (k + 1) (by omega) (by omega)
 have vs2 : (k + 1) * 2 ^ t ≤ V p (t * 2 ^ p + k + 1) := by rw [vs, vr, Nat.add_mul]; omega
 have upper : (2 * k + 1) * (2 ^ t * d) ≤ (V p (t * 2 ^ p + k) + V p (t * 2 ^ p + k + 1)) * d := by
  rw [← Nat.mul_assoc]; apply Nat.mul_le_mul_right
  rw [vr]; have : (2 * k + 1) * 2 ^ t = k * 2 ^ t + (k + 1) * 2 ^ t := by rw [← Nat.add_mul]; congr 1; omega
  omega
 refine ⟨by omega, ?_, ?_, ?_⟩
 ·intro e; rw [par]; exact ue (by omega)
 ·intro q hq
  have hk0 : k ≠ 0 := by
   intro k0; subst k0
   rcases kge with c | c
   ·subst c; omega
   ·omega
  obtain ⟨j, rfl⟩ : ∃ j, k = j + 1 := ⟨k - 1, by omega⟩
  have hqj : q = t * 2 ^ p + j := by omega
  rcases kge with c | c
  ·subst c
   have : V p q = j * 2 ^ 0 := by rw [hqj]; exact V_at p 0 j (by omega) (Or.inl rfl)
   rw [vr, this]
   simp only [Nat.pow_zero, Nat.one_mul, Nat.mul_one] at *
   have : 2 * ((j + 1) * d) = (j + (j + 1)) * d + d := by grind
   omega
  ·rcases Nat.lt_or_ge j (2 ^ p) with c2 | c2
   ·-- the lowest of a binade: the number is not below
    have hk : j + 1 = 2 ^ p := by omega
    rcases hr with c3 | c3
    ·subst c3
     have : V p q = j * 2 ^ 0 := by rw [hqj]; exact V_at p 0 j (by omega) (Or.inl rfl)
     rw [vr, this]
     simp only [Nat.pow_zero, Nat.one_mul, Nat.mul_one] at *
     have : 2 * ((j + 1) * d) = (j + (j + 1)) * d + d := by grind
     omega
    ·have := V_lt p (show q < t * 2 ^ p + (j + 1) by omega)
     have l : (V p q + V p (t * 2 ^ p + (j + 1))) * d ≤ (2 * (2 ^ p * 2 ^ t)) * d := by
      apply Nat.mul_le_mul_right; rw [vr, hk] at *; omega
     simp only [Nat.mul_assoc] at l
     omega
   ·have : V p q = j * 2 ^ t := by rw [hqj]; exact V_at p t j (by omega) (Or.inr c2)
    rw [vr, this]
    have : 2 * ((j + 1) * (2 ^ t * d)) = (j * 2 ^ t + (j + 1) * 2 ^ t) * d + 2 ^ t * d := by
     simp only [Nat.add_mul, Nat.mul_assoc, Nat.one_mul]; omega
    omega
 ·intro q hq e
  rw [par]
  have hk0 : k ≠ 0 := by
   intro k0; subst k0
   rcases kge with c | c
   ·subst c; omega
   ·omega
  obtain ⟨j, rfl⟩ : ∃ j, k = j + 1 := ⟨k - 1, by omega⟩
  have hqj : q = t * 2 ^ p + j := by omega
  rcases Nat.lt_or_ge j (2 ^ p) with c2 | c2
  ·rcases hr with c3 | c3
   ·subst c3
    have : V p q = j * 2 ^ 0 := by rw [hqj]; exact V_at p 0 j (by omega) (Or.inl rfl)
    rw [vr, this] at e
    apply de
    simp only [Nat.pow_zero, Nat.one_mul, Nat.mul_one] at *
    have : 2 * ((j + 1) * d) = (j + (j + 1)) * d + d := by grind
    omega
   ·rcases kge with c4 | c4
    ·subst c4
     have : V p q = j * 2 ^ 0 := by rw [hqj]; exact V_at p 0 j (by omega) (Or.inl rfl)
     rw [vr, this] at e
     apply de
     simp only [Nat.pow_zero, Nat.one_mul, Nat.mul_one] at *
     have : 2 * ((j + 1) * d) = (j + (j + 1)) * d + d := by grind
     omega
    ·exfalso
     have hk : j + 1 = 2 ^ p := by omega
     have := V_lt p (show q < t * 2 ^ p + (j + 1) by omega)
     have l : (V p q + V p (t * 2 ^ p + (j + 1)) + 1) * d ≤ (2 * (2 ^ p * 2 ^ t)) * d := by
      apply Nat.mul_le_mul_right; rw [vr, hk] at *; omega
     rw [Nat.add_mul] at l
     simp only [Nat.mul_assoc] at l
     omega
  ·have : V p q = j * 2 ^ t := by rw [hqj]; exact V_at p t j (by omega) (Or.inr c2)
   rw [vr, this] at e
   apply de
   have : 2 * ((j + 1) * (2 ^ t * d)) = (j * 2 ^ t + (j + 1) * 2 ^ t) * d + 2 ^ t * d := by
    simp only [Nat.add_mul, Nat.mul_assoc, Nat.one_mul]; omega
   omega
theorem Cut.scale {n k u : Nat} (h : Cut n 1 k u) (b s t : Nat) (e : u + b = t + s) : Cut (n * 2 ^ b) (2 ^ s) k t := by
 have up := h.up
 have ue := h.ue
 have dn := h.dn
 have de := h.de
 simp only [Nat.mul_one] at up ue dn de
 have hb : 0 < 2 ^ b := Nat.two_pow_pos b
 have ets : ∀ x : Nat, x * 2 ^ t * 2 ^ s = x * 2 ^ u * 2 ^ b := by
  intro x; rw [Nat.mul_assoc, Nat.mul_assoc, ← Nat.pow_add, ← Nat.pow_add, e]
 have ets1 : 2 ^ t * 2 ^ s = 2 ^ u * 2 ^ b := by rw [← Nat.pow_add, ← Nat.pow_add, e]
 refine ⟨?_, ?_, ?_, ?_⟩
 ·rw [ets, ← Nat.mul_assoc]; exact Nat.mul_le_mul_right _ up
 ·rw [ets, ← Nat.mul_assoc]; intro h; exact ue (Nat.eq_of_mul_eq_mul_right hb h)
 ·rw [ets, ets1, ← Nat.mul_assoc, ← Nat.add_mul]; exact Nat.mul_le_mul_right _ dn
 ·rw [ets, ets1, ← Nat.mul_assoc, ← Nat.add_mul]; intro h; exact de (Nat.eq_of_mul_eq_mul_right hb h)
theorem cut_of {n k t G : Nat} (hG : 2 ^ t = G) (up : 2 * n ≤ (2 * k + 1) * G) (ue : 2 * n = (2 * k + 1) * G → k % 2 = 0) (dn : 2 * k * G ≤ 2 * n + G) (de : 2 * k * G = 2 * n + G → k % 2 = 0) : Cut n 1 k t := by
 subst hG; exact ⟨by simpa using up, by simpa using ue, by simpa using dn, by simpa using de⟩
theorem cut_even (neg : Bool) (n drop : Nat) : Cut n 1 (Ieee.Toward.even.cut neg n drop) drop := by
 unfold Ieee.Toward.cut
 simp only [Nat.one_shiftLeft]
 rcases Nat.lt_or_ge (n.log2 + 2) drop with c | c
 ·rw [Nat.min_eq_right (by omega)]
  have h1 : n < 2 ^ (n.log2 + 1) := Nat.lt_log2_self
  have h2 : 2 ^ (n.log2 + 2) = 2 * 2 ^ (n.log2 + 1) := by rw [Nat.pow_succ]; omega
  have h3 : 2 ^ (n.log2 + 2) ≤ 2 ^ drop := Nat.pow_le_pow_right (by omega) (by omega)
  rw [Nat.div_eq_of_lt (by omega), Nat.mod_eq_of_lt (by omega)]
  have e1 : (decide (2 ^ (n.log2 + 2) < 2 * n) || 2 ^ (n.log2 + 2) == 2 * n && 0 % 2 == 1) = false := by
   have : ¬ (2 ^ (n.log2 + 2) < 2 * n) := by omega
   simp [this]
  rw [e1]
  refine ⟨?_, ?_, ?_, ?_⟩ <;> simp <;> omega
 ·rw [Nat.min_eq_left (by omega)]
  have hG : 0 < 2 ^ drop := Nat.two_pow_pos drop
  have h1 := Nat.div_add_mod n (2 ^ drop)
  have h2 := Nat.mod_lt n hG
  generalize hq : n / 2 ^ drop = q at *
  generalize hr : n % 2 ^ drop = r at *
  generalize hGd : 2 ^ drop = G at *
  clear hq hr
  have h3 : 2 * n = 2 * (q * G) + 2 * r := by rw [Nat.mul_comm q G]; omega
  have x0 : (2 * q + 1) * G = 2 * (q * G) + G := by rw [Nat.add_mul, Nat.mul_assoc]; omega
  have x1 : (2 * (q + 1) + 1) * G = 2 * (q * G) + 3 * G := by rw [show 2 * (q + 1) + 1 = 2 * q + 3 by omega, Nat.add_mul, Nat.mul_assoc]
  have x2 : 2 * q * G = 2 * (q * G) := Nat.mul_assoc ..
  have x3 : 2 * (q + 1) * G = 2 * (q * G) + 2 * G := by rw [show 2 * (q + 1) = 2 * q + 2 by omega, Nat.add_mul, Nat.mul_assoc]
  refine cut_of hGd ?_ ?_ ?_ ?_ <;> clear hGd
  all_goals (
   by_cases c1 : G < 2 * r
   ·have e1 : (decide (G < 2 * r) || G == 2 * r && q % 2 == 1) = true := by simp [c1]
    rw [e1]
    simp only [Bool.toNat_true]; omega
   ·by_cases c2 : G = 2 * r
    ·by_cases c3 : q % 2 = 1
     ·have e1 : (decide (G < 2 * r) || G == 2 * r && q % 2 == 1) = true := by simp [c2, c3]
      rw [e1]
      simp only [Bool.toNat_true]; omega
     ·have e1 : (decide (G < 2 * r) || G == 2 * r && q % 2 == 1) = false := by simp [c2]; omega
      rw [e1]
      simp only [Bool.toNat_false, Nat.add_zero]; omega
    ·have e1 : (decide (G < 2 * r) || G == 2 * r && q % 2 == 1) = false := by simp [c1, c2]
     rw [e1]
     simp only [Bool.toNat_false, Nat.add_zero]; omega)
def rungOf (p : Nat) (L : Int) (mag : Nat) (place : Int) : Nat :=
 if mag = 0 then 0 else
 (max (place + mag.log2 - p) L - L).toNat * 2 ^ p + Ieee.Toward.even.cut false (mag <<< (place - max (place + mag.log2 - p) L).toNat) (max (place + mag.log2 - p) L - place).toNat
theorem nearest_eq (f : Ieee.Format) (neg : Bool) (mag : Nat) (place : Int) :
  f.nearest neg mag place = f.word neg (min (rungOf f.fractionBits f.leastPlace mag place) f.infRung) := by
 unfold Ieee.Format.nearest rungOf
 by_cases h : mag = 0
 ·rw [if_pos h, if_pos h, Nat.zero_min]
 ·rw [if_neg h, if_neg h]; rfl
theorem rungOf_cut (p : Nat) (L : Int) (mag : Nat) (place : Int) (h0 : mag ≠ 0) :
  ∃ t k j u : Nat, rungOf p L mag place = t * 2 ^ p + k ∧ Cut (mag * 2 ^ j) 1 k u ∧ (L + t + j : Int) = place + u ∧ (t = 0 ∨ (p + u : Int) = mag.log2 + j) ∧ (mag.log2 + j : Int) ≤ p + u ∧ (j = 0 ∨ u = 0) := by
 unfold rungOf
 rw [if_neg h0]
 generalize hl : max (place + mag.log2 - p) L = last
 have hL : L ≤ last := by omega
 have hq : place + mag.log2 - p ≤ last := by omega
 have hor : last = L ∨ last = place + mag.log2 - p := by omega
 rw [Nat.shiftLeft_eq]
 exact ⟨(last - L).toNat, _, (place - last).toNat, (last - place).toNat, rfl, cut_even _ _ _, by omega, by omega, by omega, by omega⟩
theorem near_rungOf (p : Nat) (L : Int) (mag : Nat) (place : Int) (hp : 1 ≤ p) (a s : Nat) (h : (a : Int) = place - L + s) :
  Near p (mag * 2 ^ a) (2 ^ s) (rungOf p L mag place) := by
 by_cases h0 : mag = 0
 ·subst h0
  have : rungOf p L 0 place = 0 := by simp [rungOf]
  rw [this]
  have := near_exact p 0 (2 ^ s) (Nat.two_pow_pos s)
  rw [V_zero] at this
  simpa using this
 ·obtain ⟨t, k, j, u, e, hc, e1, e2, e3, e4⟩ := rungOf_cut p L mag place h0
  rw [e]
  have hb : j ≤ a + u := by omega
  -- u + b = t + s, a = j + b
  have hlo : 2 ^ mag.log2 ≤ mag := Nat.log2_self_le h0
  have hhi : mag < 2 ^ (mag.log2 + 1) := Nat.lt_log2_self
  have hcs : Cut (mag * 2 ^ a) (2 ^ s) k t := by
   have := hc.scale (a - j) s t (by omega)
   rwa [Nat.mul_assoc, ← Nat.pow_add, show j + (a - j) = a by omega] at this
  refine (hcs.near (Nat.two_pow_pos s) hp ?_ ?_).1
  ·rcases e2 with c | c
   ·exact Or.inl c
   ·right
    rw [← Nat.pow_add, ← Nat.pow_add, show p + t + s = mag.log2 + a by omega, Nat.pow_add]
    exact Nat.mul_le_mul_right _ hlo
  ·have : 2 * 2 ^ p * 2 ^ t * 2 ^ s = 2 ^ (p + t + s + 1) := by
    rw [Nat.pow_succ, Nat.pow_add, Nat.pow_add, Nat.mul_comm _ 2]; simp only [Nat.mul_assoc]
   rw [this]
   calc mag * 2 ^ a < 2 ^ (mag.log2 + 1) * 2 ^ a := Nat.mul_lt_mul_of_pos_right hhi (Nat.two_pow_pos a)
    _ = 2 ^ (mag.log2 + 1 + a) := (Nat.pow_add ..).symm
    _ ≤ 2 ^ (p + t + s + 1) := Nat.pow_le_pow_right (by omega) (by omega)
def ng (a : Nat) : Bool := a / 2147483648 % 2 == 1
def rg (a : Nat) : Nat := a % 2147483648
def mv (a : Nat) : Nat := V 23 (rg a)
def sg (s : Bool) (m : Nat) : Int := if s then -(m : Int) else m
def sv (a : Nat) : Int := sg (ng a) (mv a)
def wd (s : Bool) (r : Nat) : Nat := if s then 2147483648 + min r 2139095040 else min r 2139095040
def R (n : Nat) : Nat := rungOf 23 (-149) n (-149)
theorem single_least : Ieee.single.leastPlace = -149 := rfl
theorem single_fb : Ieee.single.fractionBits = 23 := rfl
theorem word_wd (s : Bool) (r : Nat) : Ieee.single.word s (min r Ieee.single.infRung) = wd s r := rfl
theorem near_R (n : Nat) : Near 23 n 1 (R n) := by
 have := near_rungOf 23 (-149) n (-149) (by decide) 0 0 (by decide)
 simpa [R] using this
theorem rungOf_R (m : Nat) (t : Nat) : rungOf 23 (-149) m (-149 + (t : Int)) = R (m * 2 ^ t) := by
 have h1 := near_rungOf 23 (-149) m (-149 + (t : Int)) (by decide) t 0 (by simp; omega)
 exact h1.unique (near_R (m * 2 ^ t)) (by decide) (by decide) (by simp)
theorem R_exact (r : Nat) : R (V 23 r) = r := by
 have := near_exact 23 r 1 (by decide)
 rw [Nat.mul_one] at this
 exact (near_R _).unique this (by decide) (by decide) rfl
end Go.Proofs.Ytmiidhgbdecdkaa
namespace Go.Proofs.Ytmiidhgbdecdkaa
set_option linter.unusedVariables false
def ffrom (n : Int) : Int := (Ieee.single.nearest (decide (n < 0)) n.natAbs 0 : Nat)
def fneg (a : Int) : Int := canon (if 2147483648 ≤ a then a - 2147483648 else a + 2147483648)
theorem rg_wd (s : Bool) (r : Nat) : rg (wd s r) = min r 2139095040 := by
 unfold rg wd; split <;> omega
theorem write_num (d : Ieee.Datum) (h : d.isNaN = false) : rg (Ieee.single.write d) ≤ 2139095040 := by
 cases d with
 | number s m e => show rg (Ieee.single.nearest s m e) ≤ _; rw [nearest_eq, word_wd, rg_wd]; omega
 | infinity s => show rg (wd s 2139095040) ≤ _; rw [rg_wd]; omega
 | nan s t => simp [Ieee.Datum.isNaN] at h
theorem nan_nat (r : Nat) : nan (r : Int) = decide (2139095040 < rg r) := by unfold nan rg; rw [decide_eq_decide]; omega
theorem canon_num {r : Nat} (h : rg r ≤ 2139095040) : canon (r : Int) = r := by
 unfold canon; rw [nan_nat]; simp; omega
section
variable {P : Program} (w : World)
end
end Go.Proofs.Ytmiidhgbdecdkaa
namespace Go.Proofs.Ytmiidhgbdecdkaa
set_option linter.unusedVariables false
set_option linter.unusedSimpArgs false
structure Rw where
 name : ByteArray
 args : List ByteArray
 vals : List Nd
def noneN : Nd := ⟨0, ⟨#[]⟩, 0, 0, ⟨#[]⟩, [], 0⟩
def numN (f : Int) : Nd := ⟨2, ⟨#[]⟩, f, 0, ⟨#[]⟩, [], 0⟩
def flagN (s : ByteArray) : Nd := ⟨4, s, 0, 0, ⟨#[]⟩, [], 0⟩
def callA (nm : ByteArray) (l : List Nd) : Nd := ⟨1, nm, 0, 0, ⟨#[]⟩, l, 0⟩
def madeN (a : Int) (nm : ByteArray) (l : List Nd) : Nd := ⟨1, nm, 0, 0, ⟨#[]⟩, l, a⟩
def row0 : Rw := ⟨⟨#[97, 100, 97, 98, 101, 108, 105, 101, 102]⟩, [⟨#[114, 97, 116, 101]⟩, ⟨#[98, 49]⟩, ⟨#[98, 50]⟩, ⟨#[101, 112, 115]⟩, ⟨#[101, 112, 115, 95, 114, 111, 111, 116]⟩], [noneN, numN 1063675494, numN 1065336439, numN 619091349, numN 619091349]⟩ -- adabelief
def row1 : Rw := ⟨⟨#[97, 100, 97, 100, 101, 108, 116, 97]⟩, [⟨#[114, 97, 116, 101]⟩, ⟨#[114, 104, 111]⟩, ⟨#[101, 112, 115]⟩], [noneN, numN 1063675494, numN 897988541]⟩ -- adadelta
def row2 : Rw := ⟨⟨#[97, 100, 97, 103, 114, 97, 100]⟩, [⟨#[114, 97, 116, 101]⟩, ⟨#[105, 110, 105, 116, 105, 97, 108]⟩, ⟨#[101, 112, 115]⟩], [noneN, numN 1036831949, numN 869711765]⟩ -- adagrad
def row3 : Rw := ⟨⟨#[97, 100, 97, 109]⟩, [⟨#[114, 97, 116, 101]⟩, ⟨#[98, 49]⟩, ⟨#[98, 50]⟩, ⟨#[101, 112, 115]⟩, ⟨#[101, 112, 115, 95, 114, 111, 111, 116]⟩], [noneN, numN 1063675494, numN 1065336439, numN 841731191, numN 0]⟩ -- adam
def row4 : Rw := ⟨⟨#[97, 100, 97, 109, 97, 120]⟩, [⟨#[114, 97, 116, 101]⟩, ⟨#[98, 49]⟩, ⟨#[98, 50]⟩, ⟨#[101, 112, 115]⟩], [noneN, numN 1063675494, numN 1065336439, numN 841731191]⟩ -- adamax
def row5 : Rw := ⟨⟨#[97, 100, 97, 109, 119]⟩, [⟨#[114, 97, 116, 101]⟩, ⟨#[98, 49]⟩, ⟨#[98, 50]⟩, ⟨#[101, 112, 115]⟩, ⟨#[101, 112, 115, 95, 114, 111, 111, 116]⟩, ⟨#[119, 101, 105, 103, 104, 116, 95, 100, 101, 99, 97, 121]⟩, ⟨#[109, 97, 115, 107]⟩], [noneN, numN 1063675494, numN 1065336439, numN 841731191, numN 0, numN 953267991, callA ⟨#[97, 108, 108]⟩ []]⟩ -- adamw
def row6 : Rw := ⟨⟨#[97, 103, 99]⟩, [⟨#[114, 97, 116, 101]⟩, ⟨#[99, 108, 105, 112, 112, 105, 110, 103]⟩, ⟨#[101, 112, 115]⟩, ⟨#[109, 111, 109, 101, 110, 116, 117, 109]⟩, ⟨#[110, 101, 115, 116, 101, 114, 111, 118]⟩], [noneN, numN 1036831949, numN 981668463, numN 0, flagN ⟨#[102, 97, 108, 115, 101]⟩]⟩ -- agc
def row7 : Rw := ⟨⟨#[97, 109, 115, 103, 114, 97, 100]⟩, [⟨#[114, 97, 116, 101]⟩, ⟨#[98, 49]⟩, ⟨#[98, 50]⟩, ⟨#[101, 112, 115]⟩, ⟨#[101, 112, 115, 95, 114, 111, 111, 116]⟩], [noneN, numN 1063675494, numN 1065336439, numN 841731191, numN 0]⟩ -- amsgrad
def row8 : Rw := ⟨⟨#[108, 97, 109, 98]⟩, [⟨#[114, 97, 116, 101]⟩, ⟨#[98, 49]⟩, ⟨#[98, 50]⟩, ⟨#[101, 112, 115]⟩, ⟨#[101, 112, 115, 95, 114, 111, 111, 116]⟩, ⟨#[119, 101, 105, 103, 104, 116, 95, 100, 101, 99, 97, 121]⟩, ⟨#[109, 97, 115, 107]⟩], [noneN, numN 1063675494, numN 1065336439, numN 897988541, numN 0, numN 0, callA ⟨#[97, 108, 108]⟩ []]⟩ -- lamb
def row9 : Rw := ⟨⟨#[108, 97, 114, 115]⟩, [⟨#[114, 97, 116, 101]⟩, ⟨#[119, 101, 105, 103, 104, 116, 95, 100, 101, 99, 97, 121]⟩, ⟨#[116, 114, 117, 115, 116, 95, 99, 111, 101, 102, 102, 105, 99, 105, 101, 110, 116]⟩, ⟨#[101, 112, 115]⟩, ⟨#[109, 111, 109, 101, 110, 116, 117, 109]⟩, ⟨#[110, 101, 115, 116, 101, 114, 111, 118]⟩], [noneN, numN 0, numN 981668463, numN 0, numN 1063675494, flagN ⟨#[102, 97, 108, 115, 101]⟩]⟩ -- lars
def row10 : Rw := ⟨⟨#[108, 105, 111, 110]⟩, [⟨#[114, 97, 116, 101]⟩, ⟨#[98, 49]⟩, ⟨#[98, 50]⟩, ⟨#[119, 101, 105, 103, 104, 116, 95, 100, 101, 99, 97, 121]⟩, ⟨#[109, 97, 115, 107]⟩], [noneN, numN 1063675494, numN 1065185444, numN 981668463, callA ⟨#[97, 108, 108]⟩ []]⟩ -- lion
def row11 : Rw := ⟨⟨#[110, 111, 118, 111, 103, 114, 97, 100]⟩, [⟨#[114, 97, 116, 101]⟩, ⟨#[98, 49]⟩, ⟨#[98, 50]⟩, ⟨#[101, 112, 115]⟩, ⟨#[101, 112, 115, 95, 114, 111, 111, 116]⟩, ⟨#[119, 101, 105, 103, 104, 116, 95, 100, 101, 99, 97, 121]⟩], [noneN, numN 1063675494, numN 1048576000, numN 897988541, numN 0, numN 0]⟩ -- novograd
def row12 : Rw := ⟨⟨#[111, 112, 116, 105, 109, 105, 115, 116, 105, 99]⟩, [⟨#[114, 97, 116, 101]⟩, ⟨#[97, 108, 112, 104, 97]⟩, ⟨#[98, 101, 116, 97]⟩], [noneN, numN 1065353216, numN 1065353216]⟩ -- optimistic
def row13 : Rw := ⟨⟨#[114, 109, 115, 112, 114, 111, 112]⟩, [⟨#[114, 97, 116, 101]⟩, ⟨#[100, 101, 99, 97, 121]⟩, ⟨#[101, 112, 115]⟩, ⟨#[105, 110, 105, 116, 105, 97, 108]⟩, ⟨#[109, 111, 109, 101, 110, 116, 117, 109]⟩], [noneN, numN 1063675494, numN 841731191, numN 0, numN 0]⟩ -- rmsprop
def row14 : Rw := ⟨⟨#[115, 99, 97, 108, 101, 95, 98, 121, 95, 108, 101, 97, 114, 110, 105, 110, 103, 95, 114, 97, 116, 101]⟩, [⟨#[114, 97, 116, 101]⟩], [noneN]⟩ -- scale_by_learning_rate
def row15 : Rw := ⟨⟨#[115, 103, 100]⟩, [⟨#[114, 97, 116, 101]⟩, ⟨#[109, 111, 109, 101, 110, 116, 117, 109]⟩, ⟨#[110, 101, 115, 116, 101, 114, 111, 118]⟩], [noneN, numN 0, flagN ⟨#[102, 97, 108, 115, 101]⟩]⟩ -- sgd
def row16 : Rw := ⟨⟨#[121, 111, 103, 105]⟩, [⟨#[114, 97, 116, 101]⟩, ⟨#[98, 49]⟩, ⟨#[98, 50]⟩, ⟨#[101, 112, 115]⟩, ⟨#[105, 110, 105, 116, 105, 97, 108]⟩], [noneN, numN 1063675494, numN 1065336439, numN 981668463, numN 897988541]⟩ -- yogi
def rowsA : List Rw := [row0, row1, row2, row3, row4, row5, row6, row7, row8, row9, row10, row11, row12, row13, row14, row15, row16]
def sameB (a b : ByteArray) : Bool := a.toList == b.toList
def findA (t : Nd) : Option Rw := if t.kind == 1 then rowsA.find? (fun r => sameB r.name t.name) else none
def placeI : List ByteArray → ByteArray → Option Nat
 | [], _ => none
 | x :: l, key => if sameB x key then some 0 else (placeI l key).map (· + 1)
def givenL (r : Rw) : List Nd → Nat → Bool → List Nat → Except (Int × Int) (List Nat)
 | [], _, _, taken => .ok taken
 | ⟨_, _, _, _, key, _, a⟩ :: l, next, keyed, taken =>
  if key.size != 0 then
   match placeI r.args key with
   | none => .error (132, a)
   | some k => if taken.contains k then .error (132, a) else givenL r l next true (taken ++ [k])
  else if keyed then .error (132, a)
  else if r.args.length ≤ next then .error (131, a)
  else givenL r l (next + 1) false (taken ++ [next])
def givenP (r : Rw) (t : Nd) : Except (Int × Int) (List Nat) :=
 match givenL r t.args 0 false [] with
 | .error e => .error e
 | .ok l => if l.contains 0 then .ok l else .error (131, t.at_)
def errA (t : Nd) : Int × Int :=
 match findA t with
 | none => (0, 0)
 | some r => match givenP r t with | .error e => e | .ok _ => (0, 0)
def faultAL : List Nd → Int × Int
 | [] => (0, 0)
 | ⟨k, n, x, i, y, l, a⟩ :: r =>
  if (errA ⟨k, n, x, i, y, l, a⟩).1 ≠ 0 then errA ⟨k, n, x, i, y, l, a⟩
  else if (faultAL l).1 ≠ 0 then faultAL l else faultAL r
def faultA (t : Nd) : Int × Int := if (errA t).1 ≠ 0 then errA t else faultAL t.args
theorem faultAL_nil : faultAL [] = (0, 0) := by simp [faultAL]
theorem faultAL_cons (t : Nd) (r : List Nd) : faultAL (t :: r) = if (faultA t).1 ≠ 0 then faultA t else faultAL r := by
 cases t with
 | mk k n x i y l a =>
  simp only [faultAL, faultA]
  by_cases h : (errA ⟨k, n, x, i, y, l, a⟩).1 ≠ 0
  ·simp [h]
  ·simp [h]
def placeL (a : Int) : List Nd → List Nd
 | [] => []
 | ⟨k, n, x, i, y, l, _⟩ :: r => ⟨k, n, x, i, y, placeL a l, a⟩ :: placeL a r
def placeN (t : Nd) (a : Int) : Nd := ⟨t.kind, t.name, t.num, t.int_, t.key, placeL a t.args, a⟩
theorem placeL_nil (a : Int) : placeL a [] = [] := by simp [placeL]
theorem placeL_cons (a : Int) (t : Nd) (r : List Nd) : placeL a (t :: r) = placeN t a :: placeL a r := by cases t; simp [placeL, placeN]
theorem placeL_map (a : Int) : ∀ l : List Nd, placeL a l = l.map (fun t => placeN t a)
 | [] => placeL_nil a
 | t :: r => by rw [placeL_cons, placeL_map a r]; rfl
def keyN (t : Nd) (k : ByteArray) : Nd := ⟨t.kind, t.name, t.num, t.int_, k, t.args, t.at_⟩
def argsN (t : Nd) (l : List Nd) : Nd := ⟨t.kind, t.name, t.num, t.int_, t.key, l, t.at_⟩
def rateA (a : Int) (r : Nd) : Nd :=
 if r.kind == 2 then madeN a ⟨#[115, 99, 97, 108, 101]⟩ [⟨2, ⟨#[]⟩, fneg r.num, 0, ⟨#[]⟩, [], r.at_⟩]
 else if r.kind == 3 then madeN a ⟨#[115, 99, 97, 108, 101]⟩ [⟨2, ⟨#[]⟩, fneg (ffrom r.int_), 0, ⟨#[]⟩, [], r.at_⟩]
 else madeN a ⟨#[99, 104, 97, 105, 110]⟩ [madeN a ⟨#[115, 99, 97, 108, 101, 95, 98, 121, 95, 115, 99, 104, 101, 100, 117, 108, 101]⟩ [r], madeN a ⟨#[115, 99, 97, 108, 101]⟩ [placeN (numN 3212836864) a]]
def decA (a : Int) (mask weight : Nd) : Nd := madeN a ⟨#[109, 97, 115, 107, 101, 100]⟩ [mask, madeN a ⟨#[97, 100, 100, 95, 100, 101, 99, 97, 121, 101, 100, 95, 119, 101, 105, 103, 104, 116, 115]⟩ [weight]]
def ix (l : List Nd) (i : Nat) : Nd := l.getD i noneN
def becA (nm : ByteArray) (a : Int) (l : List Nd) : Nd :=
 if sameB nm ⟨#[115, 99, 97, 108, 101, 95, 98, 121, 95, 108, 101, 97, 114, 110, 105, 110, 103, 95, 114, 97, 116, 101]⟩ then rateA a (ix l 0)
 else if sameB nm ⟨#[115, 103, 100]⟩ then madeN a ⟨#[99, 104, 97, 105, 110]⟩ [madeN a ⟨#[116, 114, 97, 99, 101]⟩ [ix l 1, ix l 2], rateA a (ix l 0)]
 else if sameB nm ⟨#[97, 100, 97, 109]⟩ then madeN a ⟨#[99, 104, 97, 105, 110]⟩ [madeN a ⟨#[115, 99, 97, 108, 101, 95, 98, 121, 95, 97, 100, 97, 109]⟩ (l.drop 1), rateA a (ix l 0)]
 else if sameB nm ⟨#[97, 109, 115, 103, 114, 97, 100]⟩ then madeN a ⟨#[99, 104, 97, 105, 110]⟩ [madeN a ⟨#[115, 99, 97, 108, 101, 95, 98, 121, 95, 97, 109, 115, 103, 114, 97, 100]⟩ (l.drop 1), rateA a (ix l 0)]
 else if sameB nm ⟨#[97, 100, 97, 98, 101, 108, 105, 101, 102]⟩ then madeN a ⟨#[99, 104, 97, 105, 110]⟩ [madeN a ⟨#[115, 99, 97, 108, 101, 95, 98, 121, 95, 98, 101, 108, 105, 101, 102]⟩ (l.drop 1), rateA a (ix l 0)]
 else if sameB nm ⟨#[121, 111, 103, 105]⟩ then madeN a ⟨#[99, 104, 97, 105, 110]⟩ [madeN a ⟨#[115, 99, 97, 108, 101, 95, 98, 121, 95, 121, 111, 103, 105]⟩ (l.drop 1), rateA a (ix l 0)]
 else if sameB nm ⟨#[97, 100, 97, 100, 101, 108, 116, 97]⟩ then madeN a ⟨#[99, 104, 97, 105, 110]⟩ [madeN a ⟨#[115, 99, 97, 108, 101, 95, 98, 121, 95, 97, 100, 97, 100, 101, 108, 116, 97]⟩ (l.drop 1), rateA a (ix l 0)]
 else if sameB nm ⟨#[97, 100, 97, 109, 97, 120]⟩ then madeN a ⟨#[99, 104, 97, 105, 110]⟩ [madeN a ⟨#[115, 99, 97, 108, 101, 95, 98, 121, 95, 97, 100, 97, 109, 97, 120]⟩ (l.drop 1), rateA a (ix l 0)]
 else if sameB nm ⟨#[110, 111, 118, 111, 103, 114, 97, 100]⟩ then madeN a ⟨#[99, 104, 97, 105, 110]⟩ [madeN a ⟨#[115, 99, 97, 108, 101, 95, 98, 121, 95, 110, 111, 118, 111, 103, 114, 97, 100]⟩ (l.drop 1), rateA a (ix l 0)]
 else if sameB nm ⟨#[111, 112, 116, 105, 109, 105, 115, 116, 105, 99]⟩ then madeN a ⟨#[99, 104, 97, 105, 110]⟩ [madeN a ⟨#[115, 99, 97, 108, 101, 95, 98, 121, 95, 111, 112, 116, 105, 109, 105, 115, 116, 105, 99, 95, 103, 114, 97, 100, 105, 101, 110, 116]⟩ (l.drop 1), rateA a (ix l 0)]
 else if sameB nm ⟨#[97, 103, 99]⟩ then madeN a ⟨#[99, 104, 97, 105, 110]⟩ [madeN a ⟨#[97, 100, 97, 112, 116, 105, 118, 101, 95, 103, 114, 97, 100, 95, 99, 108, 105, 112]⟩ ((l.drop 1).take 2), madeN a ⟨#[116, 114, 97, 99, 101]⟩ (l.drop 3), rateA a (ix l 0)]
 else if sameB nm ⟨#[97, 100, 97, 103, 114, 97, 100]⟩ then madeN a ⟨#[99, 104, 97, 105, 110]⟩ [madeN a ⟨#[115, 99, 97, 108, 101, 95, 98, 121, 95, 114, 115, 115]⟩ (l.drop 1), rateA a (ix l 0)]
 else if sameB nm ⟨#[97, 100, 97, 109, 119]⟩ then madeN a ⟨#[99, 104, 97, 105, 110]⟩ [madeN a ⟨#[115, 99, 97, 108, 101, 95, 98, 121, 95, 97, 100, 97, 109]⟩ ((l.drop 1).take 4), decA a (ix l 6) (ix l 5), rateA a (ix l 0)]
 else if sameB nm ⟨#[114, 109, 115, 112, 114, 111, 112]⟩ then madeN a ⟨#[99, 104, 97, 105, 110]⟩ [madeN a ⟨#[115, 99, 97, 108, 101, 95, 98, 121, 95, 114, 109, 115]⟩ ((l.drop 1).take 3), rateA a (ix l 0), madeN a ⟨#[116, 114, 97, 99, 101]⟩ [ix l 4, placeN (flagN ⟨#[102, 97, 108, 115, 101]⟩) a]]
 else if sameB nm ⟨#[108, 105, 111, 110]⟩ then madeN a ⟨#[99, 104, 97, 105, 110]⟩ [madeN a ⟨#[115, 99, 97, 108, 101, 95, 98, 121, 95, 108, 105, 111, 110]⟩ ((l.drop 1).take 2), decA a (ix l 4) (ix l 3), rateA a (ix l 0)]
 else if sameB nm ⟨#[108, 97, 109, 98]⟩ then madeN a ⟨#[99, 104, 97, 105, 110]⟩ [madeN a ⟨#[115, 99, 97, 108, 101, 95, 98, 121, 95, 97, 100, 97, 109]⟩ ((l.drop 1).take 4), decA a (ix l 6) (ix l 5), placeN (callA ⟨#[115, 99, 97, 108, 101, 95, 98, 121, 95, 116, 114, 117, 115, 116, 95, 114, 97, 116, 105, 111]⟩ [numN 0, numN 1065353216, numN 0]) a, rateA a (ix l 0)]
 else madeN a ⟨#[99, 104, 97, 105, 110]⟩ [madeN a ⟨#[97, 100, 100, 95, 100, 101, 99, 97, 121, 101, 100, 95, 119, 101, 105, 103, 104, 116, 115]⟩ [ix l 1], madeN a ⟨#[115, 99, 97, 108, 101, 95, 98, 121, 95, 116, 114, 117, 115, 116, 95, 114, 97, 116, 105, 111]⟩ [placeN (numN 0) a, ix l 2, ix l 3], rateA a (ix l 0), madeN a ⟨#[116, 114, 97, 99, 101]⟩ [ix l 4, ix l 5]]
def fillA : List Nat → List Nd → List Nd → List Nd
 | k :: w, x :: l, a => fillA w l (a.set k (keyN x ⟨#[]⟩))
 | _, _, a => a
def oneA (t : Nd) (l : List Nd) : Nd :=
 match findA t with
 | none => argsN t l
 | some r =>
  let which := match givenP r t with | .ok w => w | .error _ => []
  keyN (becA t.name t.at_ (fillA which l (r.vals.map fun v => placeN v t.at_))) t.key
def wholeL : List Nd → List Nd
 | [] => []
 | ⟨k, n, x, i, y, l, a⟩ :: r => oneA ⟨k, n, x, i, y, l, a⟩ (wholeL l) :: wholeL r
def wholeN (t : Nd) : Nd := oneA t (wholeL t.args)
theorem wholeL_nil : wholeL [] = [] := by simp [wholeL]
theorem wholeL_cons (t : Nd) (r : List Nd) : wholeL (t :: r) = wholeN t :: wholeL r := by cases t; simp [wholeL, wholeN]
theorem wholeL_map : ∀ l : List Nd, wholeL l = l.map wholeN
 | [] => wholeL_nil
 | t :: r => by rw [wholeL_cons, wholeL_map r]; rfl
def letsF : Nat → Nd → List (ByteArray × Nd) × Nd
 | 0, t => ([], t)
 | n + 1, t => if t.kind == 6 then (((t.name, ix t.args 0) :: (letsF n (ix t.args 1)).1), (letsF n (ix t.args 1)).2) else ([], t)
def letsA (t : Nd) : List (ByteArray × Nd) × Nd := letsF (dep t) t
abbrev Env := List (ByteArray × Nd)
def lookE (e : Env) (nm : ByteArray) : Option Nd := (e.find? fun p => sameB p.1 nm).map (·.2)
def wrOne (e : Env) (t : Nd) (l : List Nd) : Nd :=
 if t.kind == 4 then (match lookE e t.name with | some v => keyN (placeN v t.at_) t.key | none => argsN t l) else argsN t l
def wrL (e : Env) : List Nd → List Nd
 | [] => []
 | ⟨k, n, x, i, y, l, a⟩ :: r => wrOne e ⟨k, n, x, i, y, l, a⟩ (wrL e l) :: wrL e r
def wrN (e : Env) (t : Nd) : Nd := wrOne e t (wrL e t.args)
theorem wrL_nil (e : Env) : wrL e [] = [] := by simp [wrL]
theorem wrL_cons (e : Env) (t : Nd) (r : List Nd) : wrL e (t :: r) = wrN e t :: wrL e r := by cases t; simp [wrL, wrN]
theorem wrL_map (e : Env) : ∀ l : List Nd, wrL e l = l.map (wrN e)
 | [] => wrL_nil e
 | t :: r => by rw [wrL_cons, wrL_map e r]; rfl
def envA : List (ByteArray × Nd) → Env
 | l => l.foldl (fun e p => (p.1, wrN e p.2) :: e) []
theorem envA_snoc (l : List (ByteArray × Nd)) (p : ByteArray × Nd) : envA (l ++ [p]) = (p.1, wrN (envA l) p.2) :: envA l := by simp [envA]
def writtenA (t : Nd) : Nd := wrN (envA (letsA t).1) (letsA t).2
structure ExpR where
 tree : Nd
 err : Int
 place : Int
end Go.Proofs.Ytmiidhgbdecdkaa
namespace Go.Proofs.Ytmiidhgbdecdkaa
open Go.RowKit
set_option linter.unusedVariables false
def eachOk (ops : Array Oper) (n : Nat) (slots : List Nat) : Bool :=
 let ds := ops.toList.map (·.dst)
 ops.toList.all (fun o => o.guard.isNone && match o.dst with | some t => decide (t < n) && !slots.contains t | none => false) && decide ds.Nodup
theorem nodup_idx : ∀ {l : List (Option Tmp)}, l.Nodup → ∀ {i j : Nat} {t : Option Tmp}, l[i]? = some t → l[j]? = some t → i = j
 | [], _, i, j, t, h, _ => by simp at h
 | x :: l, hn, i, j, t, hi, hj => by
  have hn' := List.nodup_cons.1 hn
  cases i with
  | zero =>
   cases j with
   | zero => rfl
   | succ j =>
    simp at hi hj
    subst hi
    exact absurd (List.mem_of_getElem? hj) hn'.1
  | succ i =>
   cases j with
   | zero =>
    simp at hi hj
    subst hj
    exact absurd (List.mem_of_getElem? hi) hn'.1
   | succ j =>
    simp at hi hj
    rw [nodup_idx hn'.2 hi hj]
theorem each_at {ops : Array Oper} {n : Nat} {slots : List Nat} (h : eachOk ops n slots = true) {i : Nat} {o : Oper} (ho : ops[i]? = some o) : o.guard = none ∧ ∃ t, o.dst = some t ∧ t < n ∧ t ∉ slots := by
 unfold eachOk at h
 rw [Bool.and_eq_true] at h
 have hm : o ∈ ops.toList := by
  rw [← Array.getElem?_toList] at ho
  exact List.mem_of_getElem? ho
 have := List.all_eq_true.1 h.1 o hm
 rw [Bool.and_eq_true] at this
 refine ⟨by simpa using this.1, ?_⟩
 cases hd : o.dst with
 | none => rw [hd] at this; simp at this
 | some t =>
  rw [hd] at this
  have h2 := this.2
  simp only [Bool.and_eq_true, decide_eq_true_eq, Bool.not_eq_true', List.contains_eq_mem, decide_eq_false_iff_not] at h2
  exact ⟨t, rfl, h2.1, h2.2⟩
theorem each_ne {ops : Array Oper} {n : Nat} {slots : List Nat} (h : eachOk ops n slots = true) {i j : Nat} {oi oj : Oper} {t : Tmp} (hi : ops[i]? = some oi) (hj : ops[j]? = some oj) (di : oi.dst = some t) (dj : oj.dst = some t) : i = j := by
 unfold eachOk at h
 rw [Bool.and_eq_true] at h
 have hn : (ops.toList.map (·.dst)).Nodup := of_decide_eq_true h.2
 rw [← Array.getElem?_toList] at hi hj
 exact nodup_idx hn (i := i) (j := j) (t := some t) (by rw [List.getElem?_map, hi]; simp [di]) (by rw [List.getElem?_map, hj]; simp [dj])
def Finds (ops : Array Oper) (Post : Nat → Value → World → Prop) (base : List (Nat × Value)) (o : Oper) (a : Act) (w : World) : Prop :=
 (∀ p ∈ base, a.tmps[p.1]? = some p.2) ∧ ∀ e ∈ o.after, Region.binds .any e = true → ∀ od t, ops[e.on]? = some od → od.dst = some t → ∃ v, a.tmps[t]? = some v ∧ Post e.on v w
structure Each (ops : Array Oper) (Post : Nat → Value → World → Prop) (a0 : Act) (w0 : World) (listed : Array Bool) (a : Act) (w : World) : Prop where
 defers : a.defers = a0.defers
 size : a.tmps.size = a0.tmps.size
 ls : listed.size = ops.size
 below : Below w0.heap.size w0 w
 rest : ∀ (s : Nat), (∀ (i : Nat) (o : Oper), ops[i]? = some o → o.dst ≠ some s) → a.tmps[s]? = a0.tmps[s]?
 posts : ∀ (i : Nat) (o : Oper) (t : Tmp), ops[i]? = some o → o.dst = some t → listed.getD i false = true → ∃ v, a.tmps[t]? = some v ∧ Post i v w
theorem ready_spec {ops : Array Oper} {listed : Array Bool} {i : Nat} (h : i ∈ Region.ready .any ops listed) : ∃ o, ops[i]? = some o ∧ listed.getD i true = false ∧ ∀ e ∈ o.after, Region.binds .any e = true → listed.getD e.on false = true := by
 unfold Region.ready at h
 rw [List.mem_filter, Bool.and_eq_true] at h
 obtain ⟨hr, h1, h2⟩ := h
 cases ho : ops[i]? with
 | none => rw [ho] at h2; simp at h2
 | some o =>
  rw [ho] at h2
  refine ⟨o, rfl, by simpa using h1, fun e he hb => ?_⟩
  have h3 : (o.after.all fun e => !Region.binds .any e || listed.getD e.on false) = true := by simpa using h2
  rw [Array.all_eq_true] at h3
  obtain ⟨k, hk, rfl⟩ := Array.mem_iff_getElem.1 he
  have h4 := h3 k hk
  rw [hb] at h4
  simpa using h4
def earlyB (ops : Array Oper) : Bool := (List.range ops.size).all fun i => ((ops[i]?).map (·.after.all fun e => !Region.binds .any e || decide (e.on < i))).getD true
theorem all_of_none {ops : Array Oper} (hE : earlyB ops = true) (listed : Array Bool) (hl : listed.size = ops.size) (hr : Region.ready .any ops listed = []) : ∀ i, i < ops.size → listed.getD i false = true := by
 intro i
 induction i using Nat.strongRecOn with
 | ind i ih =>
  intro hi
  cases hd : listed.getD i false with
  | true => rfl
  | false =>
   exfalso
   have hmem : i ∈ Region.ready .any ops listed := by
    unfold Region.ready
    rw [List.mem_filter, Bool.and_eq_true]
    have ho : ops[i]? = some ops[i] := Array.getElem?_eq_getElem hi
    refine ⟨List.mem_range.2 hi, ?_, ?_⟩
    ·have hlt : i < listed.size := by omega
     rw [Array.getD_eq_getD_getElem?, Array.getElem?_eq_getElem hlt] at hd ⊢
     simpa using hd
    ·have h1 := List.all_eq_true.1 hE i (List.mem_range.2 hi)
     rw [ho] at h1 ⊢
     simp only [Option.map_some, Option.getD_some] at h1 ⊢
     rw [Array.all_eq_true] at h1 ⊢
     intro k hk
     have h2 := h1 k hk
     cases hb : Region.binds .any ops[i].after[k] with
     | false => simp
     | true =>
      rw [hb] at h2
      have hlt : ops[i].after[k].on < i := by simpa using h2
      simp only [Bool.not_true, Bool.false_or]
      exact ih _ hlt (by omega)
   rw [hr] at hmem
   simp at hmem
variable {P : Program} {ops : Array Oper} {Q : Exit → Act → World → Prop} {Post : Nat → Value → World → Prop} {base : List (Nat × Value)} {a0 : Act} {w0 : World}
theorem wpAny_each (hE : earlyB ops = true) (hok : eachOk ops a0.tmps.size (base.map (·.1)) = true) (hst : ∀ i v w w', Below w.heap.size w w' → Post i v w → Post i v w') (hb : ∀ p ∈ base, a0.tmps[p.1]? = some p.2)
  (hstep : ∀ (i : Nat) (o : Oper), ops[i]? = some o → ∀ (a : Act) (w : World), a.defers = a0.defers → Below w0.heap.size w0 w → Finds ops Post base o a w → o.wp P a w (fun a' w' => ∃ v, a' = a.put o.dst v ∧ Below w.heap.size w w' ∧ Post i v w') Q)
  (hdone : ∀ (a : Act) (w : World), a.defers = a0.defers → a.tmps.size = a0.tmps.size → Below w0.heap.size w0 w → (∀ (s : Nat), (∀ (i : Nat) (o : Oper), ops[i]? = some o → o.dst ≠ some s) → a.tmps[s]? = a0.tmps[s]?) → (∀ (i : Nat) (o : Oper) (t : Tmp), ops[i]? = some o → o.dst = some t → ∃ v, a.tmps[t]? = some v ∧ Post i v w) → Q .normal a w) :
  ∀ (fuel : Nat) (listed : Array Bool) (a : Act) (w : World), Each ops Post a0 w0 listed a w → (listed.toList.count false ≤ fuel) → wpAny P .any ops Q fuel listed a w := by
 intro fuel
 induction fuel with
 | zero =>
  intro listed a w he hc
  have hz : listed.toList.count false = 0 := by omega
  have hno : false ∉ listed.toList := List.count_eq_zero.1 hz
  have hrd : Region.ready .any ops listed = [] := by
   rw [List.eq_nil_iff_forall_not_mem]
   intro i hi
   obtain ⟨o, ho, hl, _⟩ := ready_spec hi
   have hlt : i < listed.size := by rw [he.ls]; exact (Array.getElem?_eq_some_iff.1 ho).1
   rw [Array.getD_eq_getD_getElem?, Array.getElem?_eq_getElem hlt] at hl
   exact hno (by rw [← show listed[i] = false by simpa using hl]; exact Array.getElem_mem_toList _)
  refine ⟨hrd, hdone a w he.defers he.size he.below he.rest (fun i o t ho hd => he.posts i o t ho hd (all_of_none hE listed he.ls hrd i (Array.getElem?_eq_some_iff.1 ho).1))⟩
 | succ fuel ih =>
  intro listed a w he hc
  refine ⟨fun hrd => hdone a w he.defers he.size he.below he.rest (fun i o t ho hd => he.posts i o t ho hd (all_of_none hE listed he.ls hrd i (Array.getElem?_eq_some_iff.1 ho).1)), fun i hi => ?_⟩
  obtain ⟨o, ho, hl, hdeps⟩ := ready_spec hi
  obtain ⟨hg, t, hdt, htn, hts⟩ := each_at hok ho
  unfold wpOp
  rw [ho]
  simp only
  rw [if_pos (by unfold Region.wanted; rw [hg])]
  refine Or.inl ?_
  have hfind : Finds ops Post base o a w := by
   refine ⟨fun p hp => ?_, fun e hee hbe od td hod hdd => he.posts e.on od td hod hdd (hdeps e hee hbe)⟩
   rw [he.rest p.1 (fun j oj hoj hdj => ?_)]
   ·exact hb p hp
   ·obtain ⟨_, t', hdt', _, hts'⟩ := each_at hok hoj
    rw [hdj] at hdt'
    obtain rfl := Option.some.inj hdt'
    exact hts' (List.mem_map_of_mem hp)
  refine Oper.wp_mono ?_ (hstep i o ho a w he.defers he.below hfind)
  rintro a' w' ⟨v, rfl, hbw, hp⟩
  have hput : a.put o.dst v = { a with tmps := a.tmps.setIfInBounds t v } := by rw [hdt]; rfl
  have hlt : i < listed.size := by rw [he.ls]; exact (Array.getElem?_eq_some_iff.1 ho).1
  have hta : t < a.tmps.size := by rw [he.size]; exact htn
  refine ih _ _ _ ?_ ?_
  ·rw [hput]
   refine ⟨he.defers, by simp [he.size], by simp [he.ls], he.below.trans (hbw.mono he.below.size), fun s hs => ?_, fun j oj tj hoj hdj hlj => ?_⟩
   ·have hne : t ≠ s := fun e => hs i o ho (by rw [hdt, e])
    rw [Array.getElem?_setIfInBounds_ne hne]
    exact he.rest s hs
   ·by_cases hij : i = j
    ·subst hij
     rw [ho] at hoj
     obtain rfl := Option.some.inj hoj
     rw [hdt] at hdj
     obtain rfl := Option.some.inj hdj
     exact ⟨v, by simp [hta], hp⟩
    ·have hne : t ≠ tj := fun e => hij (each_ne hok ho hoj hdt (by rw [hdj, e]))
     obtain ⟨u, hu, hpu⟩ := he.posts j oj tj hoj hdj (by
      rw [Array.getD_eq_getD_getElem?, Array.getElem?_setIfInBounds_ne hij] at hlj
      rw [Array.getD_eq_getD_getElem?]; exact hlj)
     exact ⟨u, by rw [Array.getElem?_setIfInBounds_ne hne]; exact hu, hst j u w w' hbw hpu⟩
  ·have hfa : listed[i] = false := by
    rw [Array.getD_eq_getD_getElem?, Array.getElem?_eq_getElem hlt] at hl
    simpa using hl
   have : (listed.setIfInBounds i true).toList.count false = listed.toList.count false - 1 := by
    rw [Array.toList_setIfInBounds, List.count_set (by simpa using hlt)]
    simp [hfa]
   rw [this]
   omega
theorem wp_region_each {id : Nat} (hm : P.follows .mixedOrders = true) (base : List (Nat × Value)) (Post : Nat → Value → World → Prop) (hE : earlyB ops = true) (hok : eachOk ops a0.tmps.size (base.map (·.1)) = true) (hst : ∀ i v w w', Below w.heap.size w w' → Post i v w → Post i v w') (hb : ∀ p ∈ base, a0.tmps[p.1]? = some p.2)
  (hstep : ∀ (i : Nat) (o : Oper), ops[i]? = some o → ∀ (a : Act) (w : World), a.defers = a0.defers → Below w0.heap.size w0 w → Finds ops Post base o a w → o.wp P a w (fun a' w' => ∃ v, a' = a.put o.dst v ∧ Below w.heap.size w w' ∧ Post i v w') Q)
  (hdone : ∀ (a : Act) (w : World), a.defers = a0.defers → a.tmps.size = a0.tmps.size → Below w0.heap.size w0 w → (∀ (s : Nat), (∀ (i : Nat) (o : Oper), ops[i]? = some o → o.dst ≠ some s) → a.tmps[s]? = a0.tmps[s]?) → (∀ (i : Nat) (o : Oper) (t : Tmp), ops[i]? = some o → o.dst = some t → ∃ v, a.tmps[t]? = some v ∧ Post i v w) → Q .normal a w) :
  (Code.region id ops true).wp P Q a0 w0 := by
 refine wp_region_any hm ?_
 refine wpAny_each hE hok hst hb (w0 := w0) hstep hdone _ _ _ _ ⟨rfl, rfl, by simp, (Below.refl _ _).drew, fun s _ => rfl, fun i o t ho hd hl => ?_⟩ ?_
 ·exfalso
  rw [Array.getD_eq_getD_getElem?] at hl
  by_cases h : i < ops.size
  ·rw [Array.getElem?_eq_getElem (by simpa using h)] at hl; simp at hl
  ·rw [Array.getElem?_eq_none (by simpa using h)] at hl; simp at hl
 ·simp
end Go.Proofs.Ytmiidhgbdecdkaa
namespace Go.Proofs.Ytmiidhgbdecdkaa
open Go.RowKit
set_option linter.unusedVariables false
set_option linter.unusedSimpArgs false
theorem box_heapA (w : World) (x : Obj) : (w.alloc x).heap[w.heap.size]? = some x := (MapKept.heap_alloc w _).1
theorem at_cellA {w : World} {C : Nat} {a : Array Value} {t : TypeId} (h : w.heap[C]? = some (.cells a t)) (i : Nat) {u : Value} (e : a[i]? = some u) : w.cell? ⟨C, i, none⟩ = some u ∧ w.frozen? ⟨C, i, none⟩ = false := by
 constructor
 ·simp [World.cell?, h, e]
 ·simp [World.frozen?, h]
theorem sevenA {v : World} {R : Nat} {a0 a1 a2 a3 a4 a5 a6 : Value} {t : TypeId} (h : v.heap[R]? = some (.cells #[a0, a1, a2, a3, a4, a5, a6] t)) :
  (v.cell? ⟨R, 0, none⟩ = some a0 ∧ v.cell? ⟨R, 1, none⟩ = some a1 ∧ v.cell? ⟨R, 2, none⟩ = some a2 ∧ v.cell? ⟨R, 3, none⟩ = some a3 ∧ v.cell? ⟨R, 4, none⟩ = some a4 ∧ v.cell? ⟨R, 5, none⟩ = some a5 ∧ v.cell? ⟨R, 6, none⟩ = some a6)
  ∧ (v.frozen? ⟨R, 0, none⟩ = false ∧ v.frozen? ⟨R, 1, none⟩ = false ∧ v.frozen? ⟨R, 2, none⟩ = false ∧ v.frozen? ⟨R, 3, none⟩ = false ∧ v.frozen? ⟨R, 4, none⟩ = false ∧ v.frozen? ⟨R, 5, none⟩ = false ∧ v.frozen? ⟨R, 6, none⟩ = false) :=
 ⟨⟨(at_cellA h 0 rfl).1, (at_cellA h 1 rfl).1, (at_cellA h 2 rfl).1, (at_cellA h 3 rfl).1, (at_cellA h 4 rfl).1, (at_cellA h 5 rfl).1, (at_cellA h 6 rfl).1⟩,
  (at_cellA h 0 rfl).2, (at_cellA h 1 rfl).2, (at_cellA h 2 rfl).2, (at_cellA h 3 rfl).2, (at_cellA h 4 rfl).2, (at_cellA h 5 rfl).2, (at_cellA h 6 rfl).2⟩
theorem below_seven {w W : World} (h : Below w.heap.size w W) (a b c d e f g : Value) : Below w.heap.size w (((((((W.setCell ⟨w.heap.size, 0, none⟩ a).setCell ⟨w.heap.size, 1, none⟩ b).setCell ⟨w.heap.size, 2, none⟩ c).setCell ⟨w.heap.size, 3, none⟩ d).setCell ⟨w.heap.size, 4, none⟩ e).setCell ⟨w.heap.size, 5, none⟩ f).setCell ⟨w.heap.size, 6, none⟩ g) :=
 ((((((h.setCell (p := ⟨w.heap.size, 0, none⟩) (Nat.le_refl _) _).setCell (p := ⟨w.heap.size, 1, none⟩) (Nat.le_refl _) _).setCell (p := ⟨w.heap.size, 2, none⟩) (Nat.le_refl _) _).setCell (p := ⟨w.heap.size, 3, none⟩) (Nat.le_refl _) _).setCell (p := ⟨w.heap.size, 4, none⟩) (Nat.le_refl _) _).setCell (p := ⟨w.heap.size, 5, none⟩) (Nat.le_refl _) _).setCell (p := ⟨w.heap.size, 6, none⟩) (Nat.le_refl _) _
theorem put_oneA {v : World} {R : Nat} {cs : Array Value} {t : TypeId} (h : v.heap[R]? = some (.cells cs t)) (i : Nat) (b : Value) : (v.setCell ⟨R, i, none⟩ b).heap[R]? = some (.cells (cs.setIfInBounds i b) t) := by
 simp [World.setCell, Array.getElem?_modify, h]
theorem put_sevenA {v : World} {R : Nat} {a0 a1 a2 a3 a4 a5 a6 : Value} {t : TypeId} (h : v.heap[R]? = some (.cells #[a0, a1, a2, a3, a4, a5, a6] t)) (b0 b1 b2 b3 b4 b5 b6 : Value) :
  (((((((v.setCell ⟨R, 0, none⟩ b0).setCell ⟨R, 1, none⟩ b1).setCell ⟨R, 2, none⟩ b2).setCell ⟨R, 3, none⟩ b3).setCell ⟨R, 4, none⟩ b4).setCell ⟨R, 5, none⟩ b5).setCell ⟨R, 6, none⟩ b6).heap[R]? = some (.cells #[b0, b1, b2, b3, b4, b5, b6] t) := by
 have h7 := put_oneA (put_oneA (put_oneA (put_oneA (put_oneA (put_oneA (put_oneA h 0 b0) 1 b1) 2 b2) 3 b3) 4 b4) 5 b5) 6 b6
 simp only [List.setIfInBounds_toArray, List.set_cons_zero, List.set_cons_succ] at h7
 exact h7
theorem new_box (w : World) : ∃ W, w.alloc (.cells #[.int .i64 0, .string ⟨#[]⟩, .int .u32 0, .int .i64 0, .string ⟨#[]⟩, .slice none 0 0, .int .i64 0] 26) = W ∧ W.heap[w.heap.size]? = some (.cells #[.int .i64 0, .string ⟨#[]⟩, .int .u32 0, .int .i64 0, .string ⟨#[]⟩, .slice none 0 0, .int .i64 0] 26) ∧ Below w.heap.size w W ∧ W.heap.size = w.heap.size + 1 :=
 ⟨_, rfl, box_heapA w _, (Below.refl _ _).alloc (Nat.le_refl _) _, by simp⟩
set_option maxHeartbeats 1000000 in
theorem num_any (f : Int) (w : World) :
  Calls Try.prog 27 #[.int .u32 f] w fun e w' => e = .returned (nv (numN f) (.slice none 0 0)) ∧ Below w.heap.size w w' := by
 obtain ⟨W, hW, hX, hB, hs⟩ := new_box w
 obtain ⟨⟨g0, g1, g2, g3, g4, g5, g6⟩, f0, f1, f2, f3, f4, f5, f6⟩ := sevenA hX
 clear hX hs
 go_enter Try.func27, Try.ntmps27
 go_wp2
 refine bodyPost_ret (by simp [results, Try.results27, go_sem, *]; try rfl) rfl ?_
 exact ⟨rfl, below_seven hB _ _ _ _ _ _ _⟩
set_option maxHeartbeats 1000000 in
theorem flag_any (s : ByteArray) (w : World) :
  Calls Try.prog 29 #[.string s] w fun e w' => e = .returned (nv (flagN s) (.slice none 0 0)) ∧ Below w.heap.size w w' := by
 obtain ⟨W, hW, hX, hB, hs⟩ := new_box w
 obtain ⟨⟨g0, g1, g2, g3, g4, g5, g6⟩, f0, f1, f2, f3, f4, f5, f6⟩ := sevenA hX
 clear hX hs
 go_enter Try.func29, Try.ntmps29
 go_wp2
 refine bodyPost_ret (by simp [results, Try.results29, go_sem, *]; try rfl) rfl ?_
 exact ⟨rfl, below_seven hB _ _ _ _ _ _ _⟩
theorem info_NodeA : (Try.prog.info? 26).map (fun i => (i.zero, i.size, i.bytes)) = some (some (.agg #[.int .i64 0, .string ⟨#[]⟩, .int .u32 0, .int .i64 0, .string ⟨#[]⟩, .slice none 0 0, .int .i64 0]), 7, 88) := by kernel_rfl
set_option maxHeartbeats 1000000 in
theorem call0_any (s : ByteArray) (w : World) :
  Calls Try.prog 28 #[.string s, .slice none 0 0] w fun e w' => e = .returned (nv (callA s []) (.slice none 0 0)) ∧ Below w.heap.size w w' := by
 obtain ⟨W, hW, hX, hB, hs⟩ := new_box w
 obtain ⟨⟨g0, g1, g2, g3, g4, g5, g6⟩, f0, f1, f2, f3, f4, f5, f6⟩ := sevenA hX
 obtain ⟨i0, hi0, hz0, hz1, hz2⟩ := info_parts info_NodeA
 clear hX hs
 go_enter Try.func28, Try.ntmps28
 go_wp2_with (at_builtin; refine wpList_append_own_none rfl _ _ 24 rfl w.heap.size 26 i0 7 Try.underlying24 hi0 (.slice none 0 0) 0 [] rfl (World.ownsRow_nil _ _ _ 7) rfl ?_)
 refine bodyPost_ret (by simp [results, Try.results28, go_sem, *]; try rfl) rfl ?_
 exact ⟨rfl, below_seven hB _ _ _ _ _ _ _⟩
end Go.Proofs.Ytmiidhgbdecdkaa
