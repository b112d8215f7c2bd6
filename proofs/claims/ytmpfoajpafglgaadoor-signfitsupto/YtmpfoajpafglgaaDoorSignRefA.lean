import Derived.Test.YtmpfoajpafglgaaDoorSignMem
/- The reference: names, parameters, numbers, sums, finding. -/
namespace Go.Proofs.YtmpfoajpafglgaaDoor
open Go.RowKit
set_option linter.unusedVariables false
set_option linter.unusedSimpArgs false

theorem nonempty (s : ByteArray) : (s.toList == []) = (s.size == 0) := by
  rw [Bool.eq_iff_iff]
  simp only [beq_iff_eq]
  constructor
  · intro h
    rw [ByteArray.toList_eq] at h
    show s.data.size = 0
    rw [← Array.length_toList, h]; rfl
  · intro h
    rw [ByteArray.toList_eq]
    exact List.eq_nil_of_length_eq_zero (by rw [Array.length_toList]; exact h)
theorem isEmpty_size (s : ByteArray) : s.toList.isEmpty = (s.size == 0) := by
  rw [← nonempty, Bool.eq_iff_iff]
  simp

theorem named_bad {s : ByteArray} {j : Nat} (h : j < s.size) (hq : pIn (s[j].toNat : Int) = false) : namedP s = false := by
  unfold namedP
  have : ((bs s).all fun b => pIn (nb b)) = false := by
    rw [List.all_eq_false]
    exact ⟨s[j], by unfold bs; exact Array.mem_toList_iff.2 (Array.getElem_mem (xs := s.data) h), by simp [nb, hq]⟩
  rw [this, Bool.and_false]
theorem named_good {s : ByteArray} (h0 : s.size ≠ 0) (h1 : s.size ≤ 64) (h : ∀ j (h : j < s.size), pIn (s[j].toNat : Int) = true) : namedP s = true := by
  unfold namedP
  have : ((bs s).all fun b => pIn (nb b)) = true := by
    rw [List.all_eq_true]
    intro b hb
    obtain ⟨j, hj, rfl⟩ := List.mem_iff_getElem.1 hb
    exact h j (by rw [← bs_length]; exact hj)
  rw [this]
  simp [h0, h1]

set_option maxRecDepth 100000 in
set_option maxHeartbeats 2000000 in
theorem rnamed_any (s : ByteArray) (hs : s.size ≤ 140737488351232) (w : World) :
    Calls Tryd.prog 41 #[.string s] w fun e w' => e = .returned (.bool (namedP s)) ∧ w' = w := by
  by_cases h0 : s.size = 0
  · have he : s.toList.isEmpty = true := by rw [isEmpty_size]; simp [h0]
    have he2 : (s.toList == []) = true := by rw [nonempty]; simp [h0]
    have hf : namedP s = false := by unfold namedP; simp [h0]
    rw [hf]
    go_enter Tryd.func41, Tryd.ntmps41
    go_wp2
    all_goals (go_ret; exact ⟨rfl, rfl⟩)
  · have he : s.toList.isEmpty = false := by rw [isEmpty_size]; simp [h0]
    have he2 : (s.toList == []) = false := by rw [nonempty]; simp [h0]
    by_cases h64 : s.size ≤ 64
    · have h64' : ¬ ((64 : Int) < (s.size : Int)) := by omega
      go_enter Tryd.func41, Tryd.ntmps41
      go_wp2
      go_loopw [3] (fun iv wr => wr = w ∧ ∃ j : Nat, j ≤ s.size ∧ iv = .int .i64 j ∧ Hid (∀ i (h : i < s.size), i < j → pIn (s[i].toNat : Int) = true)) (fun iv _ => s.size - (intOf iv).toNat)
      case atStart => exact ⟨rfl, 0, Nat.zero_le _, rfl, fun i h hi => absurd hi (Nat.not_lt_zero _)⟩
      case round =>
        obtain ⟨rfl, j, hj, rfl, hp⟩ := hrel
        by_cases hlt : j < s.size
        · have i1 : (0 : Int) ≤ (j : Int) := by omega
          have i2 : (j : Int) < (s.size : Int) := by omega
          have NX : Hid (pIn (s[j].toNat : Int) = true → ∀ i (h : i < s.size), i < j + 1 → pIn (s[i].toNat : Int) = true) := fun hq i h hi => by
            by_cases e : i = j
            · subst e; exact hq
            · exact hp.out i h (by omega)
          have NB : Hid (pIn (s[j].toNat : Int) = false → namedP s = false) := fun h => named_bad hlt h
          go_upto_region 7 with (fail)
          obtain ⟨c, hc⟩ : ∃ c : Int, (s[j].toNat : Int) = c := ⟨_, rfl⟩
          have hc2 : 0 ≤ c ∧ c ≤ 255 := by have := s[j].toNat_lt; omega
          rw [hc] at NX NB ⊢
          clear hc
          go_cut [59] (fun cv wx => cv = .bool (!pIn c) ∧ wx = wr)
          case first =>
            have hcl : (0 ≤ c ∧ c ≤ 44) ∨ (c = 45) ∨ (c = 46) ∨ (c = 47) ∨ (48 ≤ c ∧ c ≤ 57) ∨ (58 ≤ c ∧ c ≤ 64) ∨ (65 ≤ c ∧ c ≤ 90) ∨ (91 ≤ c ∧ c ≤ 94) ∨ (c = 95) ∨ (c = 96) ∨ (97 ≤ c ∧ c ≤ 122) ∨ (123 ≤ c ∧ c ≤ 255) := by omega
            rcases hcl with h | h | h | h | h | h | h | h | h | h | h | h
            · have f97 : ¬ (97 : Int) ≤ c := by omega
              have f65 : ¬ (65 : Int) ≤ c := by omega
              have f48 : ¬ (48 : Int) ≤ c := by omega
              have g122 : c ≤ (122 : Int) := by omega
              have g90 : c ≤ (90 : Int) := by omega
              have g57 : c ≤ (57 : Int) := by omega
              have e95 : (c == (95 : Int)) = false := by rw [beq_eq_false_iff_ne]; omega
              have e46 : (c == (46 : Int)) = false := by rw [beq_eq_false_iff_ne]; omega
              have e47 : (c == (47 : Int)) = false := by rw [beq_eq_false_iff_ne]; omega
              have e45 : (c == (45 : Int)) = false := by rw [beq_eq_false_iff_ne]; omega
              have hp2 : pIn c = false := by unfold pIn; simp [*]
              clear h hp NX NB
              go_wp2
              go_meet
              exact ⟨by rw [hp2]; rfl, rfl⟩
            · have f97 : ¬ (97 : Int) ≤ c := by omega
              have f65 : ¬ (65 : Int) ≤ c := by omega
              have f48 : ¬ (48 : Int) ≤ c := by omega
              have g122 : c ≤ (122 : Int) := by omega
              have g90 : c ≤ (90 : Int) := by omega
              have g57 : c ≤ (57 : Int) := by omega
              have e95 : (c == (95 : Int)) = false := by rw [beq_eq_false_iff_ne]; omega
              have e46 : (c == (46 : Int)) = false := by rw [beq_eq_false_iff_ne]; omega
              have e47 : (c == (47 : Int)) = false := by rw [beq_eq_false_iff_ne]; omega
              have e45 : (c == (45 : Int)) = true := by simp; omega
              have hp2 : pIn c = true := by unfold pIn; simp [*]
              clear h hp NX NB
              go_wp2
              go_meet
              exact ⟨by rw [hp2]; rfl, rfl⟩
            · have f97 : ¬ (97 : Int) ≤ c := by omega
              have f65 : ¬ (65 : Int) ≤ c := by omega
              have f48 : ¬ (48 : Int) ≤ c := by omega
              have g122 : c ≤ (122 : Int) := by omega
              have g90 : c ≤ (90 : Int) := by omega
              have g57 : c ≤ (57 : Int) := by omega
              have e95 : (c == (95 : Int)) = false := by rw [beq_eq_false_iff_ne]; omega
              have e46 : (c == (46 : Int)) = true := by simp; omega
              have e47 : (c == (47 : Int)) = false := by rw [beq_eq_false_iff_ne]; omega
              have e45 : (c == (45 : Int)) = false := by rw [beq_eq_false_iff_ne]; omega
              have hp2 : pIn c = true := by unfold pIn; simp [*]
              clear h hp NX NB
              go_wp2
              go_meet
              exact ⟨by rw [hp2]; rfl, rfl⟩
            · have f97 : ¬ (97 : Int) ≤ c := by omega
              have f65 : ¬ (65 : Int) ≤ c := by omega
              have f48 : ¬ (48 : Int) ≤ c := by omega
              have g122 : c ≤ (122 : Int) := by omega
              have g90 : c ≤ (90 : Int) := by omega
              have g57 : c ≤ (57 : Int) := by omega
              have e95 : (c == (95 : Int)) = false := by rw [beq_eq_false_iff_ne]; omega
              have e46 : (c == (46 : Int)) = false := by rw [beq_eq_false_iff_ne]; omega
              have e47 : (c == (47 : Int)) = true := by simp; omega
              have e45 : (c == (45 : Int)) = false := by rw [beq_eq_false_iff_ne]; omega
              have hp2 : pIn c = true := by unfold pIn; simp [*]
              clear h hp NX NB
              go_wp2
              go_meet
              exact ⟨by rw [hp2]; rfl, rfl⟩
            · have f97 : ¬ (97 : Int) ≤ c := by omega
              have f65 : ¬ (65 : Int) ≤ c := by omega
              have f48 : (48 : Int) ≤ c := by omega
              have g122 : c ≤ (122 : Int) := by omega
              have g90 : c ≤ (90 : Int) := by omega
              have g57 : c ≤ (57 : Int) := by omega
              have e95 : (c == (95 : Int)) = false := by rw [beq_eq_false_iff_ne]; omega
              have e46 : (c == (46 : Int)) = false := by rw [beq_eq_false_iff_ne]; omega
              have e47 : (c == (47 : Int)) = false := by rw [beq_eq_false_iff_ne]; omega
              have e45 : (c == (45 : Int)) = false := by rw [beq_eq_false_iff_ne]; omega
              have hp2 : pIn c = true := by unfold pIn; simp [*]
              clear h hp NX NB
              go_wp2
              go_meet
              exact ⟨by rw [hp2]; rfl, rfl⟩
            · have f97 : ¬ (97 : Int) ≤ c := by omega
              have f65 : ¬ (65 : Int) ≤ c := by omega
              have f48 : (48 : Int) ≤ c := by omega
              have g122 : c ≤ (122 : Int) := by omega
              have g90 : c ≤ (90 : Int) := by omega
              have g57 : ¬ c ≤ (57 : Int) := by omega
              have e95 : (c == (95 : Int)) = false := by rw [beq_eq_false_iff_ne]; omega
              have e46 : (c == (46 : Int)) = false := by rw [beq_eq_false_iff_ne]; omega
              have e47 : (c == (47 : Int)) = false := by rw [beq_eq_false_iff_ne]; omega
              have e45 : (c == (45 : Int)) = false := by rw [beq_eq_false_iff_ne]; omega
              have hp2 : pIn c = false := by unfold pIn; simp [*]
              clear h hp NX NB
              go_wp2
              go_meet
              exact ⟨by rw [hp2]; rfl, rfl⟩
            · have f97 : ¬ (97 : Int) ≤ c := by omega
              have f65 : (65 : Int) ≤ c := by omega
              have f48 : (48 : Int) ≤ c := by omega
              have g122 : c ≤ (122 : Int) := by omega
              have g90 : c ≤ (90 : Int) := by omega
              have g57 : ¬ c ≤ (57 : Int) := by omega
              have e95 : (c == (95 : Int)) = false := by rw [beq_eq_false_iff_ne]; omega
              have e46 : (c == (46 : Int)) = false := by rw [beq_eq_false_iff_ne]; omega
              have e47 : (c == (47 : Int)) = false := by rw [beq_eq_false_iff_ne]; omega
              have e45 : (c == (45 : Int)) = false := by rw [beq_eq_false_iff_ne]; omega
              have hp2 : pIn c = true := by unfold pIn; simp [*]
              clear h hp NX NB
              go_wp2
              go_meet
              exact ⟨by rw [hp2]; rfl, rfl⟩
            · have f97 : ¬ (97 : Int) ≤ c := by omega
              have f65 : (65 : Int) ≤ c := by omega
              have f48 : (48 : Int) ≤ c := by omega
              have g122 : c ≤ (122 : Int) := by omega
              have g90 : ¬ c ≤ (90 : Int) := by omega
              have g57 : ¬ c ≤ (57 : Int) := by omega
              have e95 : (c == (95 : Int)) = false := by rw [beq_eq_false_iff_ne]; omega
              have e46 : (c == (46 : Int)) = false := by rw [beq_eq_false_iff_ne]; omega
              have e47 : (c == (47 : Int)) = false := by rw [beq_eq_false_iff_ne]; omega
              have e45 : (c == (45 : Int)) = false := by rw [beq_eq_false_iff_ne]; omega
              have hp2 : pIn c = false := by unfold pIn; simp [*]
              clear h hp NX NB
              go_wp2
              go_meet
              exact ⟨by rw [hp2]; rfl, rfl⟩
            · have f97 : ¬ (97 : Int) ≤ c := by omega
              have f65 : (65 : Int) ≤ c := by omega
              have f48 : (48 : Int) ≤ c := by omega
              have g122 : c ≤ (122 : Int) := by omega
              have g90 : ¬ c ≤ (90 : Int) := by omega
              have g57 : ¬ c ≤ (57 : Int) := by omega
              have e95 : (c == (95 : Int)) = true := by simp; omega
              have e46 : (c == (46 : Int)) = false := by rw [beq_eq_false_iff_ne]; omega
              have e47 : (c == (47 : Int)) = false := by rw [beq_eq_false_iff_ne]; omega
              have e45 : (c == (45 : Int)) = false := by rw [beq_eq_false_iff_ne]; omega
              have hp2 : pIn c = true := by unfold pIn; simp [*]
              clear h hp NX NB
              go_wp2
              go_meet
              exact ⟨by rw [hp2]; rfl, rfl⟩
            · have f97 : ¬ (97 : Int) ≤ c := by omega
              have f65 : (65 : Int) ≤ c := by omega
              have f48 : (48 : Int) ≤ c := by omega
              have g122 : c ≤ (122 : Int) := by omega
              have g90 : ¬ c ≤ (90 : Int) := by omega
              have g57 : ¬ c ≤ (57 : Int) := by omega
              have e95 : (c == (95 : Int)) = false := by rw [beq_eq_false_iff_ne]; omega
              have e46 : (c == (46 : Int)) = false := by rw [beq_eq_false_iff_ne]; omega
              have e47 : (c == (47 : Int)) = false := by rw [beq_eq_false_iff_ne]; omega
              have e45 : (c == (45 : Int)) = false := by rw [beq_eq_false_iff_ne]; omega
              have hp2 : pIn c = false := by unfold pIn; simp [*]
              clear h hp NX NB
              go_wp2
              go_meet
              exact ⟨by rw [hp2]; rfl, rfl⟩
            · have f97 : (97 : Int) ≤ c := by omega
              have f65 : (65 : Int) ≤ c := by omega
              have f48 : (48 : Int) ≤ c := by omega
              have g122 : c ≤ (122 : Int) := by omega
              have g90 : ¬ c ≤ (90 : Int) := by omega
              have g57 : ¬ c ≤ (57 : Int) := by omega
              have e95 : (c == (95 : Int)) = false := by rw [beq_eq_false_iff_ne]; omega
              have e46 : (c == (46 : Int)) = false := by rw [beq_eq_false_iff_ne]; omega
              have e47 : (c == (47 : Int)) = false := by rw [beq_eq_false_iff_ne]; omega
              have e45 : (c == (45 : Int)) = false := by rw [beq_eq_false_iff_ne]; omega
              have hp2 : pIn c = true := by unfold pIn; simp [*]
              clear h hp NX NB
              go_wp2
              go_meet
              exact ⟨by rw [hp2]; rfl, rfl⟩
            · have f97 : (97 : Int) ≤ c := by omega
              have f65 : (65 : Int) ≤ c := by omega
              have f48 : (48 : Int) ≤ c := by omega
              have g122 : ¬ c ≤ (122 : Int) := by omega
              have g90 : ¬ c ≤ (90 : Int) := by omega
              have g57 : ¬ c ≤ (57 : Int) := by omega
              have e95 : (c == (95 : Int)) = false := by rw [beq_eq_false_iff_ne]; omega
              have e46 : (c == (46 : Int)) = false := by rw [beq_eq_false_iff_ne]; omega
              have e47 : (c == (47 : Int)) = false := by rw [beq_eq_false_iff_ne]; omega
              have e45 : (c == (45 : Int)) = false := by rw [beq_eq_false_iff_ne]; omega
              have hp2 : pIn c = false := by unfold pIn; simp [*]
              clear h hp NX NB
              go_wp2
              go_meet
              exact ⟨by rw [hp2]; rfl, rfl⟩
          case rest =>
            obtain ⟨rfl, rfl⟩ := hcut
            cases hq : pIn c
            · have HB2 : Hid (namedP s = false) := NB.out hq
              clear NX NB hp hc2
              go_wp2
              go_ret
              exact ⟨ret_bool HB2.out.symm, rfl⟩
            · have HP2 : Hid (∀ i (h : i < s.size), i < j + 1 → pIn (s[i].toNat : Int) = true) := NX.out hq
              clear NX NB hp hc2
              go_wp2
              go_roundw
              case rel => exact ⟨by trivial, j + 1, by omega, by go_num, HP2.out⟩
              case measure => simp [intOf]; omega
        · have : j = s.size := by omega
          subst this
          have HF : Hid (namedP s = true) := named_good h0 h64 fun i h => hp.out i h h
          clear hp
          go_wp2
          go_ret
          exact ⟨ret_bool HF.out.symm, rfl⟩
    · have hf : namedP s = false := by unfold namedP; simp [h0, h64]
      have h64' : (64 : Int) < (s.size : Int) := by omega
      rw [hf]
      go_enter Tryd.func41, Tryd.ntmps41
      go_wp2
      all_goals (go_ret; exact ⟨rfl, rfl⟩)

theorem may_eq (p : Par) : mayP p = ((namedP p.name && (p.kind == 1 || p.kind == 2)) && (decide (1 ≤ p.len) && decide (p.len ≤ 4096))) := rfl

set_option maxRecDepth 100000 in
set_option maxHeartbeats 1000000 in
theorem rMay_any (p : Par) (hs : p.name.size ≤ 140737488351232) (w : World) :
    Calls Tryd.prog 28 #[pv p] w fun e w' => e = .returned (.bool (mayP p)) ∧ Below w.heap.size w w' := by
  rw [may_eq]
  obtain ⟨X, K, L⟩ := p
  unfold pv
  have KN := rnamed_any X hs
  simp only
  obtain ⟨N, hN⟩ : ∃ N, namedP X = N := ⟨_, rfl⟩
  rw [hN] at KN ⊢
  have HK : Hid (∀ w, Calls Tryd.prog 41 #[.string X] w fun e w' => e = .returned (.bool N) ∧ w' = w) := KN
  clear KN hN
  cases N
  · go_enter Tryd.func28, Tryd.ntmps28
    go_wp2_with (go_at_call 41; refine (HK.out _).mono ?_; rintro e w1 ⟨rfl, rfl⟩)
    go_ret
    exact ⟨rfl, bel_alloc _ _⟩
  · have hk : ((K == 1) = true ∧ (K == 2) = false) ∨ ((K == 1) = false ∧ (K == 2) = true) ∨ ((K == 1) = false ∧ (K == 2) = false) := by
      by_cases a : K = 1
      · subst a; exact .inl ⟨rfl, rfl⟩
      · by_cases b : K = 2
        · subst b; exact .inr (.inl ⟨rfl, rfl⟩)
        · exact .inr (.inr ⟨by simpa using a, by simpa using b⟩)
    have hL : (1 ≤ L ∧ L ≤ 4096) ∨ (¬ 1 ≤ L ∧ L ≤ 4096) ∨ (1 ≤ L ∧ ¬ L ≤ 4096) := by omega
    rcases hk with ⟨h1, h2⟩ | ⟨h1, h2⟩ | ⟨h1, h2⟩ <;> rcases hL with ⟨h3, h4⟩ | ⟨h3, h4⟩ | ⟨h3, h4⟩
    all_goals
      go_enter Tryd.func28, Tryd.ntmps28
      go_wp2_with (go_at_call 41; refine (HK.out _).mono ?_; rintro e w1 ⟨rfl, rfl⟩)
      go_ret
      exact ⟨ret_bool (by simp [h1, h2, h3, h4]), bel_alloc _ _⟩

set_option maxRecDepth 100000 in
set_option maxHeartbeats 1000000 in
theorem rNumbers_any (p : Par) (hs : p.name.size ≤ 140737488351232) (w : World) :
    Calls Tryd.prog 16 #[pv p] w fun e w' => e = .returned (.int .i64 (numP p)) ∧ Below w.heap.size w w' := by
  have KM := rMay_any p hs
  have hm : mayP p = true → 1 ≤ p.len ∧ p.len ≤ 4096 := fun h => by rw [may_eq] at h; simp at h; exact h.2
  have hn : numP p = if mayP p then (if p.kind == 2 then 2 * p.len else p.len) else 0 := rfl
  rw [hn]
  clear hn
  obtain ⟨N, hN⟩ : ∃ N, mayP p = N := ⟨_, rfl⟩
  rw [hN] at KM hm ⊢
  clear hN hs
  obtain ⟨X, K, L⟩ := p
  unfold pv at KM ⊢
  simp only at hm KM ⊢
  have HK : Hid (∀ w, Calls Tryd.prog 28 #[.agg #[.string X, .int .i64 K, .int .i64 L]] w fun e w' => e = .returned (.bool N) ∧ Below w.heap.size w w') := KM
  clear KM
  cases N
  · clear hm
    go_enter Tryd.func16, Tryd.ntmps16
    go_wp2_with (go_at_call 28; refine (HK.out _).mono ?_; rintro e w1 ⟨rfl, hb1⟩)
    go_ret
    exact ⟨rfl, bel (bel_alloc _ _) hb1⟩
  · have hL := hm rfl
    clear hm
    cases h2 : (K == 2)
    · go_enter Tryd.func16, Tryd.ntmps16
      go_wp2_with (go_at_call 28; refine (HK.out _).mono ?_; rintro e w1 ⟨rfl, hb1⟩; have c1 : w1.cell? ⟨w.heap.size, 1, none⟩ = some (.int .i64 K) := (hb1.cell (by simp)).trans (by simp [go_sem]); have c2 : w1.cell? ⟨w.heap.size, 2, none⟩ = some (.int .i64 L) := (hb1.cell (by simp)).trans (by simp [go_sem]))
      go_ret
      exact ⟨rfl, bel (bel_alloc _ _) hb1⟩
    · go_enter Tryd.func16, Tryd.ntmps16
      go_wp2_with (go_at_call 28; refine (HK.out _).mono ?_; rintro e w1 ⟨rfl, hb1⟩; have c1 : w1.cell? ⟨w.heap.size, 1, none⟩ = some (.int .i64 K) := (hb1.cell (by simp)).trans (by simp [go_sem]); have c2 : w1.cell? ⟨w.heap.size, 2, none⟩ = some (.int .i64 L) := (hb1.cell (by simp)).trans (by simp [go_sem]))
      go_ret
      exact ⟨ret_int (by simp), bel (bel_alloc _ _) hb1⟩

theorem ne_of_list {a b : ByteArray} (h : (a.toList == b.toList) = false) : a ≠ b := fun e => by rw [e] at h; simp at h
theorem eq_of_list {a b : ByteArray} (h : (a.toList == b.toList) = true) : a = b := by
  rw [beq_iff_eq, ByteArray.toList_eq, ByteArray.toList_eq] at h
  exact bs_inj h
theorem list_eq {a b : ByteArray} (h : a = b) : (a.toList == b.toList) = true := by rw [h]; simp
theorem list_ne {a b : ByteArray} (h : a ≠ b) : (a.toList == b.toList) = false := by
  cases e : (a.toList == b.toList)
  · rfl
  · exact absurd (eq_of_list e) h

set_option maxHeartbeats 1000000 in
theorem rFind_any (v : Value) (l : List Par) (hl : l.length ≤ 140737488351232) (s : ByteArray) (w : World) (hr : Rd w v l) :
    Calls Tryd.prog 10 #[v, .string s] w fun e w' => e = .returned (.tuple #[.int .i64 ((findP s l).getD 0 : Nat), .bool (findP s l).isSome]) ∧ w' = w := by
  obtain ⟨p, c, rfl, hr⟩ := hr
  obtain ⟨n, hn⟩ : ∃ n, l.length = n := ⟨_, rfl⟩
  rw [hn] at hl ⊢
  have HN : Hid (l.length = n) := hn
  have HR : Hid (Row w p l) := hr
  clear hn hr
  go_enter Tryd.func10, Tryd.ntmps10
  go_wp2
  go_loopw [6] (fun iv wr => wr = w ∧ ∃ j : Nat, j ≤ n ∧ iv = .int .i64 j ∧ Hid (∀ i (h : i < l.length), i < j → l[i].name ≠ s)) (fun iv _ => n - (intOf iv).toNat)
  case atStart => exact ⟨rfl, 0, Nat.zero_le _, rfl, fun i h hi => absurd hi (Nat.not_lt_zero _)⟩
  case round =>
    obtain ⟨rfl, j, hj, rfl, hp⟩ := hrel
    by_cases hlt : j < n
    · have hll : j < l.length := by rw [HN.out]; exact hlt
      obtain ⟨b, o, rfl, x0, x1, x2⟩ := HR.out.at hll
      have i1 : (0 : Int) ≤ (j : Int) := by omega
      have i2 : (j : Int) < (n : Int) := by omega
      by_cases he : l[j].name = s
      · have HF : Hid (findP s l = some j) := find_some hll he hp.out
        have he' := list_eq he
        clear hp he
        go_wp2
        go_ret2
        exact ⟨by rw [HF.out]; rfl, rfl⟩
      · have HP2 : Hid (∀ i (h : i < l.length), i < j + 1 → l[i].name ≠ s) := fun i h hi => by
          by_cases e : i = j
          · subst e; exact he
          · exact hp.out i h (by omega)
        have he' := list_ne he
        clear hp he
        go_wp2
        go_roundw
        case rel => exact ⟨by trivial, j + 1, by omega, by go_num, HP2.out⟩
        case measure => simp [intOf]; omega
    · have : j = n := by omega
      subst this
      have HF : Hid (findP s l = none) := find_none fun i h => hp.out i h (by rw [← HN.out]; exact h)
      clear hp
      go_wp2
      go_ret2
      exact ⟨by rw [HF.out]; rfl, rfl⟩

set_option maxRecDepth 100000 in
set_option maxHeartbeats 1000000 in
theorem rTotal_any (v : Value) (l : List Par) (hl : l.length ≤ 140737488351232) (hM : ∀ p ∈ l, p.name.size ≤ 140737488351232) (w : World) (hr : Rd w v l) :
    Calls Tryd.prog 14 #[v] w fun e w' => e = .returned (.int .i64 (totP l)) ∧ Below w.heap.size w w' := by
  obtain ⟨p, c, rfl, hr⟩ := hr
  obtain ⟨n, hn⟩ : ∃ n, l.length = n := ⟨_, rfl⟩
  rw [hn] at hl ⊢
  have HN : Hid (l.length = n) := hn
  have HR : Hid (Row w p l) := hr
  have HM : Hid (∀ p ∈ l, p.name.size ≤ 140737488351232) := hM
  clear hn hr hM
  go_enter Tryd.func14, Tryd.ntmps14
  go_wp2
  go_loopw [3, 4] (fun tv iv wr => Below w.heap.size w wr ∧ ∃ j : Nat, j ≤ n ∧ iv = .int .i64 j ∧ tv = .int .i64 (totP (l.take j))) (fun _ iv _ => n - (intOf iv).toNat)
  case atStart => exact ⟨bel0 w, 0, Nat.zero_le _, rfl, rfl⟩
  case round =>
    obtain ⟨hb, j, hj, rfl, rfl⟩ := hrel
    by_cases hlt : j < n
    · have hll : j < l.length := by rw [HN.out]; exact hlt
      obtain ⟨b, o, rfl, hx⟩ := HR.out.at hll
      obtain ⟨x0, x1, x2⟩ := hx.below hb
      have i1 : (0 : Int) ≤ (j : Int) := by omega
      have i2 : (j : Int) < (n : Int) := by omega
      have KN := rNumbers_any l[j] (HM.out _ (List.getElem_mem hll))
      unfold pv at KN
      have HK : Hid (∀ w, Calls Tryd.prog 16 #[.agg #[.string l[j].name, .int .i64 l[j].kind, .int .i64 l[j].len]] w fun e w' => e = .returned (.int .i64 (numP l[j])) ∧ Below w.heap.size w w') := KN
      have ht : totP (l.take (j + 1)) = totP (l.take j) + numP l[j] := by rw [take_succ hll, tot_snoc]
      have hb1 := tot_bounds (l.take j)
      have hb2 := num_bounds l[j]
      rw [List.length_take, HN.out, Nat.min_eq_left hj] at hb1
      obtain ⟨T, hT⟩ : ∃ T, totP (l.take j) = T := ⟨_, rfl⟩
      obtain ⟨U, hU⟩ : ∃ U, numP l[j] = U := ⟨_, rfl⟩
      rw [hT, hU] at ht
      rw [hT] at hb1 ⊢
      rw [hU] at hb2 HK
      have HT : Hid (totP (l.take (j + 1)) = T + U) := ht
      have hw1 : IntKind.i64.wrap (T + U) = T + U := by rw [IntKind.wrap_i64]; omega
      clear KN ht hT hU hx
      go_wp2_with (go_at_call 16; refine (HK.out _).mono ?_; rintro e w1 ⟨rfl, hb3⟩)
      go_roundw
      case rel => exact ⟨bel hb hb3, j + 1, by omega, by go_num, by rw [HT.out]⟩
      case measure => simp [intOf]; omega
    · have : j = n := by omega
      subst this
      have HF : Hid (totP (l.take j) = totP l) := by show _ = _; rw [List.take_of_length_le (by rw [HN.out]; exact Nat.le_refl _)]
      go_wp2
      go_ret
      exact ⟨ret_int HF.out, hb⟩

end Go.Proofs.YtmpfoajpafglgaaDoor
