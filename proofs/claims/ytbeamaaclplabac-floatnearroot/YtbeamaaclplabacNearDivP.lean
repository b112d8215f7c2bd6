import Derived.Test.YtbeamaaclplabacNearWalks
/- Quotients and roots are nearest. -/
namespace Go.Proofs.Ytbeamaaclplabac
open Go.RowKit
set_option linter.unusedVariables false

theorem quot_near {A B M ta tb t s : Nat} (h : Cut (A * 2 ^ ta * 2 ^ 149) (B * 2 ^ tb) M t) (hs : ta + 149 = s + t + tb) :
    2 * ((A * 2 ^ s : Nat) : Int) - 2 * ((M * B : Nat) : Int) ≤ B ∧ 2 * ((M * B : Nat) : Int) - 2 * ((A * 2 ^ s : Nat) : Int) ≤ B ∧ ((2 * ((A * 2 ^ s : Nat) : Int) - 2 * ((M * B : Nat) : Int) = B ∨ 2 * ((M * B : Nat) : Int) - 2 * ((A * 2 ^ s : Nat) : Int) = B) → M % 2 = 0) := by
  have hP : 0 < 2 ^ (t + tb) := Nat.two_pow_pos _
  obtain ⟨z, hz⟩ : ∃ z : Nat, z = 149 := ⟨_, rfl⟩
  rw [← hz] at h hs
  have e1 : A * 2 ^ ta * 2 ^ z = A * 2 ^ s * 2 ^ (t + tb) := by rw [Nat.mul_assoc, Nat.mul_assoc, ← Nat.pow_add, ← Nat.pow_add]; congr 2; omega
  have e2 : ∀ x : Nat, x * 2 ^ t * (B * 2 ^ tb) = x * B * 2 ^ (t + tb) := by intro x; rw [Nat.pow_add]; grind
  have up := h.up
  have ue := h.ue
  have dn := h.dn
  have de := h.de
  rw [e1, e2, ← Nat.mul_assoc] at up ue
  have e3 : 2 ^ t * (B * 2 ^ tb) = B * 2 ^ (t + tb) := by rw [Nat.pow_add]; grind
  rw [e1, e2, e3, ← Nat.mul_assoc, ← Nat.add_mul] at dn de
  have up' := Nat.le_of_mul_le_mul_right up hP
  have dn' := Nat.le_of_mul_le_mul_right dn hP
  have ue' : 2 * (A * 2 ^ s) = (2 * M + 1) * B → M % 2 = 0 := fun q => ue (by rw [q])
  have de' : 2 * M * B = 2 * (A * 2 ^ s) + B → M % 2 = 0 := fun q => de (by rw [q])
  have k1 : (2 * M + 1) * B = 2 * (M * B) + B := by rw [Nat.add_mul, Nat.mul_assoc, Nat.one_mul]
  have k2 : 2 * M * B = 2 * (M * B) := Nat.mul_assoc ..
  rw [k1] at up' ue'
  rw [k2] at dn' de'
  generalize A * 2 ^ s = X at *
  generalize M * B = Y at *
  refine ⟨by omega, by omega, ?_⟩
  rintro (q | q)
  · exact ue' (by omega)
  · exact de' (by omega)

theorem fdiv_zero (a b : Int) (ha : ffin a = true) (hb : ffin b = true) (h0 : 0 ≤ a) (g0 : 0 ≤ b) (ma : mg a.toNat = 0) (mb : mg b.toNat ≠ 0) : rg (fdiv a b).toNat = 0 := by
  rw [ffin_rg _ h0] at ha
  rw [ffin_rg _ g0] at hb
  have e : (fdiv a b).toNat = wd (ng a.toNat ^^ ng b.toNat) 0 := by
    unfold fdiv Ieee.Format.div
    rw [read_fin _ (by simpa using ha), read_fin _ (by simpa using hb), ma]
    simp only [Ieee.Datum.quotient, if_neg mb, Nat.zero_shiftLeft, Nat.zero_div, Nat.zero_mod]
    rfl
  rw [e, rg_wd]; rfl

/-- What the statement asks of a quotient. -/
theorem div_near (a b : Int) (h0 : 0 ≤ a) (h1 : a < 4294967296) (g0 : 0 ≤ b) (g1 : b < 4294967296) (ha : ffin a = true) (hb : ffin b = true) (hz : ffin (fdiv a b) = true) (kb : pM b ≠ 0) (s : Nat) (hs : (s : Int) = pE a - pE b - pE (fdiv a b)) :
    ∃ X Y K : Int, (pM b < 0 → X = -pM a * 2 ^ s ∧ Y = pM (fdiv a b) * -pM b ∧ K = -pM b) ∧ (0 < pM b → X = pM a * 2 ^ s ∧ Y = pM (fdiv a b) * pM b ∧ K = pM b) ∧
      0 < K ∧ (2 * (X - Y).natAbs < K ∨ (2 * (X - Y).natAbs = K ∧ pM (fdiv a b) % 2 = 0)) := by
  have lz := fdiv_lo a b
  have eA := pM_eq a h0 h1
  have eB := pM_eq b g0 g1
  have eZ := pM_eq (fdiv a b) lz.1 lz.2
  have fA := pE_eq a h0 h1
  have fB := pE_eq b g0 g1
  have fZ := pE_eq (fdiv a b) lz.1 lz.2
  have mb : mg b.toNat ≠ 0 := by
    intro c; rw [c] at eB; unfold sg at eB; split at eB <;> omega
  have hcast : (2 : Int) ^ s = ((2 ^ s : Nat) : Int) := (Int.natCast_pow 2 s).symm
  by_cases ma : mg a.toNat = 0
  · have hr := fdiv_zero a b ha hb h0 g0 ma mb
    have mz : mg (fdiv a b).toNat = 0 := by unfold mg; rw [hr]; rfl
    have pa : pM a = 0 := by rw [eA, ma]; unfold sg; simp
    have pz : pM (fdiv a b) = 0 := by rw [eZ, mz]; unfold sg; simp
    rcases Int.lt_trichotomy (pM b) 0 with c | c | c
    · exact ⟨0, 0, -pM b, fun _ => by rw [pa, pz]; simp, fun d => by omega, by omega, Or.inl (by simp; omega)⟩
    · exact absurd c kb
    · exact ⟨0, 0, pM b, fun d => by omega, fun _ => by rw [pa, pz]; simp, by omega, Or.inl (by simp; omega)⟩
  · obtain ⟨hc, hng⟩ := div_cut a b ha hb h0 g0 ma mb hz
    rw [mv_eq, mv_eq] at hc
    obtain ⟨q1, q2, q3⟩ := quot_near (s := s) hc (by omega)
    simp only [Int.natCast_mul, ← hcast] at q1 q2 q3
    rw [hng] at eZ
    have hBpos : 0 < (mg b.toNat : Int) := by omega
    have hpar : pM (fdiv a b) % 2 = 0 ↔ mg (fdiv a b).toNat % 2 = 0 := by rw [eZ]; unfold sg; split <;> omega
    cases sa : ng a.toNat <;> cases sb : ng b.toNat <;> rw [sa] at eA <;> rw [sb] at eB <;> rw [sa, sb] at eZ <;> simp only [sg, if_true, if_false, Bool.false_eq_true, Bool.xor_false, Bool.xor_self, Bool.xor_true, Bool.not_false] at eA eB eZ
    · refine ⟨_, _, _, fun d => by omega, fun _ => ⟨rfl, rfl, rfl⟩, by omega, ?_⟩
      rw [hpar, eA, eB, eZ]
      generalize (mg a.toNat : Int) * 2 ^ s = P at *
      generalize (mg (fdiv a b).toNat : Int) * (mg b.toNat : Int) = Q at *
      omega
    · refine ⟨_, _, _, fun _ => ⟨rfl, rfl, rfl⟩, fun d => by omega, by omega, ?_⟩
      rw [hpar, eA, eB, eZ, Int.neg_neg, Int.neg_mul, Int.neg_mul]
      generalize (mg a.toNat : Int) * 2 ^ s = P at *
      generalize (mg (fdiv a b).toNat : Int) * (mg b.toNat : Int) = Q at *
      omega
    · refine ⟨_, _, _, fun d => by omega, fun _ => ⟨rfl, rfl, rfl⟩, by omega, ?_⟩
      rw [hpar, eA, eB, eZ, Int.neg_mul, Int.neg_mul]
      generalize (mg a.toNat : Int) * 2 ^ s = P at *
      generalize (mg (fdiv a b).toNat : Int) * (mg b.toNat : Int) = Q at *
      omega
    · refine ⟨_, _, _, fun _ => ⟨rfl, rfl, rfl⟩, fun d => by omega, by omega, ?_⟩
      rw [hpar, eA, eB, eZ, Int.neg_neg, Int.neg_neg]
      generalize (mg a.toNat : Int) * 2 ^ s = P at *
      generalize (mg (fdiv a b).toNat : Int) * (mg b.toNat : Int) = Q at *
      omega

/-- What the statement asks of a root. -/
theorem root_near (a : Int) (h0 : 0 ≤ a) (h1 : a < 4294967296) (ha : ffin a = true) (ka : 0 < pM a) (s : Nat) (hs : (s : Int) = pE a - 2 * pE (fsqrt a) + 2) :
    (2 * pM (fsqrt a) - 1) * (2 * pM (fsqrt a) - 1) < pM a * 2 ^ s ∧ pM a * 2 ^ s < (2 * pM (fsqrt a) + 1) * (2 * pM (fsqrt a) + 1) ∧ 8388608 ≤ pM (fsqrt a) := by
  have lz := fsqrt_lo a
  have eA := pM_eq a h0 h1
  have fA := pE_eq a h0 h1
  have fZ := pE_eq (fsqrt a) lz.1 lz.2
  have eZ := pM_eq (fsqrt a) lz.1 lz.2
  have sa : ng a.toNat = false := by
    cases c : ng a.toNat
    · rfl
    · rw [c] at eA; simp only [sg, if_true] at eA; omega
  rw [sa] at eA
  simp only [sg, if_false, Bool.false_eq_true] at eA
  have ma : mg a.toNat ≠ 0 := by omega
  rw [ffin_rg _ h0] at ha
  obtain ⟨r, hr, hn⟩ := root_single a.toNat (by simpa using ha) sa ma
  have e : (fsqrt a).toNat = wd false r := by unfold fsqrt; rw [hr]; rfl
  have hr2 : r < 2139095040 := by
    obtain ⟨-, -, -, -, r', -, -, -, -, -, -, k7, k8⟩ := sqrt_fin a.toNat (by simpa using ha) sa ma
    rw [hn.unique k8]; exact k7
  have hrg : rg (fsqrt a).toNat = r := by rw [e, rg_wd]; omega
  have hng : ng (fsqrt a).toNat = false := by rw [e, ng_wd]
  rw [hng] at eZ
  simp only [sg, if_false, Bool.false_eq_true] at eZ
  have hp := rg_parts (fsqrt a).toNat
  rw [hrg] at hp
  have hM := mg_lt (fsqrt a).toNat
  have hMo := mg_or (fsqrt a).toNat
  generalize mg (fsqrt a).toNat = M at *
  generalize te (fsqrt a).toNat = t at *
  generalize hA : mg a.toNat = A at *
  rw [hp, mv_eq, hA] at hn
  obtain ⟨z, hz⟩ : ∃ z : Nat, z = 149 := ⟨_, rfl⟩
  have hN : 4 * (A * 2 ^ te a.toNat * 2 ^ 149) = A * 2 ^ s * (2 ^ t * 2 ^ t) := by
    rw [← hz, show (4 : Nat) = 2 ^ 2 from rfl, ← Nat.pow_add, Nat.mul_assoc A, ← Nat.pow_add, Nat.mul_left_comm, ← Nat.pow_add, Nat.mul_assoc A, ← Nat.pow_add]
    congr 2; omega
  have up : ¬ ((V 23 (t * 2 ^ 23 + M) + V 23 (t * 2 ^ 23 + M + 1)) * (V 23 (t * 2 ^ 23 + M) + V 23 (t * 2 ^ 23 + M + 1)) < 4 * (A * 2 ^ te a.toNat * 2 ^ 149)) := hn.up
  have dn : ∀ q, t * 2 ^ 23 + M = q + 1 → (V 23 q + V 23 (t * 2 ^ 23 + M)) * (V 23 q + V 23 (t * 2 ^ 23 + M)) ≤ 4 * (A * 2 ^ te a.toNat * 2 ^ 149) := hn.dn
  rw [hN] at up dn
  have v0 : V 23 (t * 2 ^ 23 + M) = M * 2 ^ t := V_at 23 t M (by omega) hMo
  have v1 : V 23 (t * 2 ^ 23 + M + 1) = (M + 1) * 2 ^ t := by rw [Nat.add_assoc]; exact V_at 23 t (M + 1) (by omega) (by omega)
  have hT : 0 < 2 ^ t * 2 ^ t := Nat.mul_pos (Nat.two_pow_pos t) (Nat.two_pow_pos t)
  have esum : M * 2 ^ t + (M + 1) * 2 ^ t = (2 * M + 1) * 2 ^ t := by rw [← Nat.add_mul]; congr 1; omega
  rw [v0, v1, esum, Nat.mul_mul_mul_comm] at up
  have up2 : A * 2 ^ s ≤ (2 * M + 1) * (2 * M + 1) := Nat.le_of_mul_le_mul_right (Nat.not_lt.1 up) hT
  -- the root is normal
  have ht : t ≠ 0 := by
    intro c
    subst c
    have h1 : (2 * M + 1) * (2 * M + 1) ≤ 33554433 * 33554433 := Nat.mul_self_le_mul_self (by omega)
    have h2 : 2 ^ 151 ≤ 2 ^ s := Nat.pow_le_pow_right (by decide) (by omega)
    have h3 : 2 ^ 151 ≤ A * 2 ^ s := Nat.le_trans h2 (Nat.le_mul_of_pos_left _ (by omega))
    have h4 : 33554433 * 33554433 < 2 ^ 151 := by decide
    omega
  have hM8 : 8388608 ≤ M := by omega
  obtain ⟨q, hq⟩ : ∃ q, t * 2 ^ 23 + M = q + 1 := ⟨t * 2 ^ 23 + M - 1, by omega⟩
  have hd := dn q hq
  have hls := low_step 23 t M q (by omega) hq
  rw [← hq, v0] at hls
  rw [v0] at hd
  have hge : (2 * M - 1) * 2 ^ t ≤ V 23 q + M * 2 ^ t := by
    rw [Nat.sub_mul, Nat.mul_assoc]; omega
  have dn2 : (2 * M - 1) * (2 * M - 1) ≤ A * 2 ^ s := by
    have := Nat.le_trans (Nat.mul_self_le_mul_self hge) hd
    rw [Nat.mul_mul_mul_comm] at this
    exact Nat.le_of_mul_le_mul_right this hT
  -- neither is reached: an odd square against an even number, or one far too small
  have hodd : A * 2 ^ s ≠ (2 * M + 1) * (2 * M + 1) ∧ A * 2 ^ s ≠ (2 * M - 1) * (2 * M - 1) := by
    rcases Nat.eq_zero_or_pos s with c | c
    · subst c
      have hA24 : A < 16777216 := by rw [← hA]; exact mg_lt _
      have b1 := Nat.mul_self_le_mul_self (show 16777215 ≤ 2 * M - 1 by omega)
      rw [Nat.pow_zero, Nat.mul_one]
      omega
    · have hev : A * 2 ^ s % 2 = 0 := by
        obtain ⟨j, rfl⟩ : ∃ j, s = j + 1 := ⟨s - 1, by omega⟩
        rw [Nat.pow_succ, ← Nat.mul_assoc]; omega
      have o1 : (2 * M + 1) * (2 * M + 1) % 2 = 1 := by rw [Nat.mul_mod, show (2 * M + 1) % 2 = 1 by omega]
      have o2 : (2 * M - 1) * (2 * M - 1) % 2 = 1 := by rw [Nat.mul_mod, show (2 * M - 1) % 2 = 1 by omega]
      omega
  have hcast : (2 : Int) ^ s = ((2 ^ s : Nat) : Int) := (Int.natCast_pow 2 s).symm
  rw [eZ, eA, hcast, ← Int.natCast_mul]
  have c1 : (2 * (M : Int) - 1) * (2 * (M : Int) - 1) = (((2 * M - 1) * (2 * M - 1) : Nat) : Int) := by
    rw [Int.natCast_mul]; congr 1 <;> omega
  have c2 : (2 * (M : Int) + 1) * (2 * (M : Int) + 1) = (((2 * M + 1) * (2 * M + 1) : Nat) : Int) := by
    rw [Int.natCast_mul]; congr 1 <;> omega
  rw [c1, c2]
  refine ⟨by omega, by omega, by omega⟩

end Go.Proofs.Ytbeamaaclplabac
