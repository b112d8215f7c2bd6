import Derived.Test.YtnhpnmilgcjeaaaDoorMaskSets
/- MaskParts. -/
namespace Go.Proofs.YtnhpnmilgcjeaaaDoor
open Go.RowKit
set_option linter.unusedVariables false
set_option linter.unusedSimpArgs false

def Plain (a : Gs) : Prop := ∀ c ∈ a, c ≠ 42 ∧ c ≠ 63
theorem means_lit : ∀ (a : Gs), Plain a → ∀ n, (Means a n ↔ n = a)
  | [], _, n => Iff.rfl
  | c :: a, h, n => by
    have hc := h c (by simp)
    rw [means_byte hc.1]
    constructor
    · rintro ⟨b, t, rfl, hb, m⟩
      rw [(means_lit a (fun x hx => h x (by simp [hx])) t).1 m]
      rcases hb with hb | hb
      · exact absurd hb hc.2
      · rw [hb]
    · rintro rfl
      exact ⟨c, a, rfl, .inr rfl, (means_lit a (fun x hx => h x (by simp [hx])) a).2 rfl⟩
theorem means_parts {a b : Gs} (ha : Plain a) (hb : Plain b) (n : Gs) : Means (a ++ 42 :: b) n ↔ a.length + b.length ≤ n.length ∧ n.take a.length = a ∧ n.drop (n.length - b.length) = b := by
  rw [means_append]
  constructor
  · rintro ⟨k, hk, m1, m2⟩
    have e1 := (means_lit a ha _).1 m1
    obtain ⟨j, hj, m3⟩ := means_star.1 m2
    have e2 := (means_lit b hb _).1 m3
    rw [List.length_drop] at hj
    rw [List.drop_drop] at e2
    have l1 := congrArg List.length e1
    have l2 := congrArg List.length e2
    rw [List.length_take] at l1
    rw [List.length_drop] at l2
    have hka : k = a.length := by omega
    refine ⟨by omega, by rw [← hka]; exact e1, ?_⟩
    rw [show n.length - b.length = k + j by omega]
    exact e2
  · rintro ⟨h1, h2, h3⟩
    refine ⟨a.length, by omega, (means_lit a ha _).2 h2, means_star.2 ⟨n.length - b.length - a.length, by rw [List.length_drop]; omega, (means_lit b hb _).2 ?_⟩⟩
    rw [List.drop_drop, show a.length + (n.length - b.length - a.length) = n.length - b.length by omega]
    exact h3
theorem match_lit {y n : Gs} (h : Plain y) : matchP y n = (n == y) := by
  rw [Bool.eq_iff_iff, match_means, means_lit y h, beq_iff_eq]
theorem match_any (n : Gs) : matchP [42] n = true := (match_means _ _).2 (means_all n)
theorem match_within {a b n : Gs} (ha : Plain a) (hb : Plain b) : matchP (a ++ 42 :: b) (a ++ n ++ b) = true := by
  rw [match_means, means_parts ha hb]
  refine ⟨by simp, by simp [List.append_assoc], ?_⟩
  rw [show (a ++ n ++ b).length - b.length = (a ++ n).length by simp; omega, List.drop_append_of_le_length (Nat.le_refl _), List.drop_length, List.nil_append]
theorem match_parts {a b n : Gs} (ha : Plain a) (hb : Plain b) : matchP (a ++ 42 :: b) n = (decide (a.length + b.length ≤ n.length) && (n.take a.length == a) && (n.drop (n.length - b.length) == b)) := by
  rw [Bool.eq_iff_iff, match_means, means_parts ha hb]
  simp [and_assoc]
theorem gs_app (a b : ByteArray) : gs (a ++ b) = gs a ++ gs b := by simp [gs]
theorem gs_extract (s : ByteArray) (i j : Nat) : gs (s.extract i j) = ((gs s).drop i).take (j - i) := by
  simp [gs, ByteArray.data_extract, Array.toList_extract, List.extract]

set_option maxRecDepth 100000 in
set_option maxHeartbeats 4000000 in
theorem walk_MaskParts (a : ByteArray) (ha : a.size ≤ 140737488351232) (b : ByteArray) (hb : b.size ≤ 140737488351232) (n : ByteArray) (hn : n.size ≤ 140737488351232) (w : World) :
    Calls Tryd.prog 4 #[.string a, .string b, .string n] w fun e w' => e = .returned (.bool true) ∧ Below w.heap.size w w' := by
  have hsum : a.size + n.size + b.size ≤ 1152921504606846975 := by omega
  obtain ⟨Y, hY⟩ : ∃ Y, a ++ b = Y := ⟨_, rfl⟩
  have hYs : Y.size = a.size + b.size := by rw [← hY, ByteArray.size_append]
  have hYg : gs Y = gs a ++ gs b := by rw [← hY, gs_app]
  have cY : ¬ (9223372036854775807 < a.size + b.size) := by omega
  have HYG : Hid (gs Y = gs a ++ gs b) := hYg
  obtain ⟨m, hm⟩ : ∃ m, Y.size = m := ⟨_, rfl⟩
  have hmb : m ≤ 281474976702464 := by omega
  have HYS : Hid (m = a.size + b.size) := by rw [← hm]; exact hYs
  clear hYg hYs
  go_enter Tryd.func4, Tryd.ntmps4
  go_wp2
  go_loopw [7] (fun iv wr => wr = w ∧ ∃ i : Nat, i ≤ m ∧ iv = .int .i64 i ∧ Hid (∀ j (h : j < Y.size), j < i → Y[j] ≠ 42 ∧ Y[j] ≠ 63)) (fun iv _ => m - (intOf iv).toNat)
  case atStart => exact ⟨rfl, 0, Nat.zero_le _, rfl, fun j h hj => absurd hj (Nat.not_lt_zero _)⟩
  case round =>
    obtain ⟨rfl, i, hi, rfl, hS⟩ := hrel
    by_cases hlt : i < m
    · have hll : i < Y.size := by rw [hm]; exact hlt
      have i1 : (0 : Int) ≤ (i : Int) := by omega
      have i2 : (i : Int) < (m : Int) := by omega
      by_cases h42 : (Y[i].toNat : Int) = 42
      · have z1 : ((Y[i].toNat : Int) == 42) = true := by simpa using h42
        clear h42 hS
        go_wp2_with (go_at_call 10; refine (sure_any _).mono ?_; rintro e w3 ⟨rfl, hb3⟩)
        go_ret
        exact ⟨rfl, hb3⟩
      · have z1 : ((Y[i].toNat : Int) == 42) = false := by simpa using h42
        by_cases h63 : (Y[i].toNat : Int) = 63
        · have z2 : ((Y[i].toNat : Int) == 63) = true := by simpa using h63
          clear h42 h63 hS
          go_wp2_with (go_at_call 10; refine (sure_any _).mono ?_; rintro e w3 ⟨rfl, hb3⟩)
          go_ret
          exact ⟨rfl, hb3⟩
        · have z2 : ((Y[i].toNat : Int) == 63) = false := by simpa using h63
          have HNX : Hid (∀ j (h : j < Y.size), j < i + 1 → Y[j] ≠ 42 ∧ Y[j] ≠ 63) := fun j h hj => by
            by_cases e : j = i
            · subst e
              exact ⟨fun e => h42 (by rw [e]; rfl), fun e => h63 (by rw [e]; rfl)⟩
            · exact hS.out j h (by omega)
          clear h42 h63 hS
          go_wp2
          go_roundw
          case rel => exact ⟨by trivial, i + 1, by omega, by go_num, HNX.out⟩
          case measure => simp [intOf]; omega
    · have : i = m := by omega
      subst this
      have hpl : Plain (gs Y) := fun c hc => by
        obtain ⟨j, hj, rfl⟩ := List.mem_iff_getElem.1 hc
        rw [gs_length] at hj
        exact hS.out j hj (by rw [← hm]; exact hj)
      have hpa : Plain (gs a) := fun c hc => hpl c (by rw [HYG.out]; simp [hc])
      have hpb : Plain (gs b) := fun c hc => hpl c (by rw [HYG.out]; simp [hc])
      obtain ⟨G1, hG1⟩ : ∃ G, a ++ (⟨#[42]⟩ : ByteArray) = G := ⟨_, rfl⟩
      obtain ⟨G2, hG2⟩ : ∃ G, G1 ++ b = G := ⟨_, rfl⟩
      obtain ⟨N1, hN1⟩ : ∃ G, a ++ n = G := ⟨_, rfl⟩
      obtain ⟨N2, hN2⟩ : ∃ G, N1 ++ b = G := ⟨_, rfl⟩
      have s1 : G1.size = a.size + 1 := by rw [← hG1, ByteArray.size_append]; rfl
      have s2 : G2.size = a.size + 1 + b.size := by rw [← hG2, ByteArray.size_append, s1]
      have s3 : N1.size = a.size + n.size := by rw [← hN1, ByteArray.size_append]
      have s4 : N2.size = a.size + n.size + b.size := by rw [← hN2, ByteArray.size_append, s3]
      have g2 : gs G2 = gs a ++ 42 :: gs b := by rw [← hG2, gs_app, ← hG1, gs_app]; simp [gs]
      have n2 : gs N2 = gs a ++ gs n ++ gs b := by rw [← hN2, gs_app, ← hN1, gs_app]
      obtain ⟨X1, hX1⟩ : ∃ X, n.extract 0 a.size = X := ⟨_, rfl⟩
      obtain ⟨X2, hX2⟩ : ∃ X, n.extract (n.size - b.size) n.size = X := ⟨_, rfl⟩
      obtain ⟨B1, hB1⟩ : ∃ B, (X1.toList == a.toList) = B := ⟨_, rfl⟩
      obtain ⟨B2, hB2⟩ : ∃ B, (X2.toList == b.toList) = B := ⟨_, rfl⟩
      obtain ⟨B3, hB3⟩ : ∃ B, (n.toList == Y.toList) = B := ⟨_, rfl⟩
      have k1 := match_parts (n := gs n) hpa hpb
      have k2 := match_lit (n := gs n) hpl
      have k3 := match_within (n := gs n) hpa hpb
      rw [← g2] at k1
      rw [← g2, ← n2] at k3
      have b1 : (((gs n).take (gs a).length) == gs a) = B1 := by
        rw [← hB1, toList_gs, toList_gs, ← hX1, gs_extract, gs_length]; simp
      have b2 : (((gs n).drop ((gs n).length - (gs b).length)) == gs b) = B2 := by
        rw [← hB2, toList_gs, toList_gs, ← hX2, gs_extract, gs_length, gs_length, List.take_of_length_le (by rw [List.length_drop, gs_length]; omega)]
      have b3 : (gs n == gs Y) = B3 := by rw [← hB3, toList_gs, toList_gs]
      rw [b1, b2, gs_length, gs_length, gs_length] at k1
      rw [b3] at k2
      have H1 : Hid (∀ v, Calls Tryd.prog 8 #[.string G2, .string n] v fun e w' => e = .returned (.bool ((decide (a.size + b.size ≤ n.size) && B1) && B2)) ∧ Below v.heap.size v w') := fun v => by have := mMatch_any G2 n (by omega) (by omega) v; rw [k1] at this; exact this
      have H2 : Hid (∀ v, Calls Tryd.prog 8 #[.string Y, .string n] v fun e w' => e = .returned (.bool B3) ∧ Below v.heap.size v w') := fun v => by have := mMatch_any Y n (by omega) (by omega) v; rw [k2] at this; exact this
      have H3 : Hid (∀ v, Calls Tryd.prog 8 #[.string G2, .string N2] v fun e w' => e = .returned (.bool true) ∧ Below v.heap.size v w') := fun v => by have := mMatch_any G2 N2 (by omega) (by omega) v; rw [k3] at this; exact this
      have H4 : Hid (∀ v, Calls Tryd.prog 8 #[.string ⟨#[42]⟩, .string n] v fun e w' => e = .returned (.bool true) ∧ Below v.heap.size v w') := fun v => by have := mMatch_any ⟨#[42]⟩ n (by decide) (by omega) v; rw [show matchP (gs ⟨#[42]⟩) (gs n) = true from match_any _] at this; exact this
      have c1 : ¬ (9223372036854775807 < a.size + 1) := by omega
      have c2 : ¬ (9223372036854775807 < a.size + 1 + b.size) := by omega
      have c3 : ¬ (9223372036854775807 < a.size + n.size) := by omega
      have c4 : ¬ (9223372036854775807 < a.size + n.size + b.size) := by omega
      have w1 : IntKind.i64.wrap ((a.size : Int) + (b.size : Int)) = (a.size : Int) + (b.size : Int) := by rw [IntKind.wrap_i64]; omega
      have HMS := HYS.out
      clear hpl hpa hpb k1 k2 k3 b1 b2 b3 g2 n2 hS HYG HYS s2 s4
      obtain ⟨V, hV⟩ : ∃ V, ((decide (a.size + b.size ≤ n.size) && B1) && B2) = V := ⟨_, rfl⟩
      rw [hV] at H1
      have HV : Hid (((decide (a.size + b.size ≤ n.size) && B1) && B2) = V) := hV
      clear hV
      have j9 : ¬ ((i : Int) < (i : Int)) := by omega
      go_upto_region 6 with fail
      go_cut [8] (fun v wx => v = .bool V ∧ wx = wr)
      case first =>
        clear hG1 hG2 hN1 hN2 s1 s3 hY hB3 hm HMS H1 H2 H3 H4
        by_cases hle : a.size + b.size ≤ n.size
        · have d1 : decide (a.size + b.size ≤ n.size) = true := decide_eq_true hle
          rw [d1] at HV
          have l1 : (a.size : Int) + (b.size : Int) ≤ (n.size : Int) := by omega
          have w2 : IntKind.i64.wrap ((n.size : Int) - (b.size : Int)) = (n.size : Int) - (b.size : Int) := by rw [IntKind.wrap_i64]; omega
          have l2 : (0 : Int) ≤ (n.size : Int) - (b.size : Int) := by omega
          have l3 : (n.size : Int) - (b.size : Int) ≤ (n.size : Int) := by omega
          have l4 : (a.size : Int) ≤ (n.size : Int) := by omega
          have l5 : ((n.size : Int) - (b.size : Int)).toNat = n.size - b.size := by omega
          have l6 : (b.size : Int) ≤ (n.size : Int) := by omega
          have l7 : b.size ≤ n.size := by omega
          have l8 : a.size ≤ n.size := by omega
          clear d1
          cases B1
          · go_wp2
            go_meet
            exact ⟨by rw [← HV.out]; rfl, rfl⟩
          · cases B2
            all_goals
              go_wp2
              go_meet
              exact ⟨by rw [← HV.out]; rfl, rfl⟩
        · have d1 : decide (a.size + b.size ≤ n.size) = false := decide_eq_false hle
          rw [d1] at HV
          have l1 : ¬ ((a.size : Int) + (b.size : Int) ≤ (n.size : Int)) := by omega
          clear d1 hle
          go_wp2
          go_meet
          exact ⟨by rw [← HV.out]; rfl, rfl⟩
      case rest =>
      obtain ⟨rfl, rfl⟩ := hcut
      clear HV hX1 hX2 hB1 hB2
      cases V <;> cases B3
      all_goals
        go_wp2_with (first
          | ((with_reducible refine (H1.out _).mono ?_); rintro e w2 ⟨rfl, hb2⟩)
          | ((with_reducible refine (H2.out _).mono ?_); rintro e w3 ⟨rfl, hb3⟩)
          | ((with_reducible refine (H3.out _).mono ?_); rintro e w4 ⟨rfl, hb4⟩)
          | ((with_reducible refine (H4.out _).mono ?_); rintro e w5 ⟨rfl, hb5⟩)
          | (go_at_call 10; refine (sure_any _).mono ?_; rintro e w6 ⟨rfl, hb6⟩))
        go_ret
        exact ⟨rfl, bel (bel (bel (bel hb2 hb3) hb4) hb5) hb6⟩

end Go.Proofs.YtnhpnmilgcjeaaaDoor
