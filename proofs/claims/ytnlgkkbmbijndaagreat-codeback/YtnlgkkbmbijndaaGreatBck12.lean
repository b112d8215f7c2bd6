import Derived.Test.YtnlgkkbmbijndaaGreatBck1
import Derived.Shelf.Strings.Builder1
import Derived.Shelf.Small.Strs
import Derived.Shelf.LaysM
import Derived.Shelf.Strconv.Clone
import Derived.Shelf.Strings.Search1
import Derived.Shelf.Strings.Prefix
import Derived.Test.YtnlgkkbmbijndaaGreatProg
import Derived.Maps.OwnSet
/- The reference: names, parameters, numbers, sums, finding. -/
namespace Go.Proofs.YtnlgkkbmbijndaaGreat
open Go.RowKit
set_option linter.unusedVariables false
set_option linter.unusedSimpArgs false

theorem nonempty (s : ByteArray) : (s.toList == []) = (s.size == 0) := by
  rw [Bool.eq_iff_iff]
  simp only [beq_iff_eq]
  constructor
  · intro h
    rw [ByteArray.toList_eq] at h
    show s.data.size = 0
    rw [← Array.length_toList, h]; rfl
  · intro h
    rw [ByteArray.toList_eq]
    exact List.eq_nil_of_length_eq_zero (by rw [Array.length_toList]; exact h)
theorem isEmpty_size (s : ByteArray) : s.toList.isEmpty = (s.size == 0) := by
  rw [← nonempty, Bool.eq_iff_iff]
  simp

theorem named_bad {s : ByteArray} {j : Nat} (h : j < s.size) (hq : pIn (s[j].toNat : Int) = false) : namedP s = false := by
  unfold namedP
  have : ((bs s).all fun b => pIn (nb b)) = false := by
    rw [List.all_eq_false]
    exact ⟨s[j], by unfold bs; exact Array.mem_toList_iff.2 (Array.getElem_mem (xs := s.data) h), by simp [nb, hq]⟩
  rw [this, Bool.and_false]
theorem named_good {s : ByteArray} (h0 : s.size ≠ 0) (h1 : s.size ≤ 64) (h : ∀ j (h : j < s.size), pIn (s[j].toNat : Int) = true) : namedP s = true := by
  unfold namedP
  have : ((bs s).all fun b => pIn (nb b)) = true := by
    rw [List.all_eq_true]
    intro b hb
    obtain ⟨j, hj, rfl⟩ := List.mem_iff_getElem.1 hb
    exact h j (by rw [← bs_length]; exact hj)
  rw [this]
  simp [h0, h1]

set_option maxRecDepth 100000 in
set_option maxHeartbeats 2000000 in
theorem rnamed_any (s : ByteArray) (hs : s.size ≤ 140737488351232) (w : World) :
    Calls Tryz.prog 89 #[.string s] w fun e w' => e = .returned (.bool (namedP s)) ∧ w' = w := by
  by_cases h0 : s.size = 0
  · have he : s.toList.isEmpty = true := by rw [isEmpty_size]; simp [h0]
    have he2 : (s.toList == []) = true := by rw [nonempty]; simp [h0]
    have hf : namedP s = false := by unfold namedP; simp [h0]
    rw [hf]
    go_enter Tryz.func89, Tryz.ntmps89
    go_wp2
    all_goals (go_ret; exact ⟨rfl, rfl⟩)
  · have he : s.toList.isEmpty = false := by rw [isEmpty_size]; simp [h0]
    have he2 : (s.toList == []) = false := by rw [nonempty]; simp [h0]
    by_cases h64 : s.size ≤ 64
    · have h64' : ¬ ((64 : Int) < (s.size : Int)) := by omega
      go_enter Tryz.func89, Tryz.ntmps89
      go_wp2
      go_loopw [3] (fun iv wr => wr = w ∧ ∃ j : Nat, j ≤ s.size ∧ iv = .int .i64 j ∧ Hid (∀ i (h : i < s.size), i < j → pIn (s[i].toNat : Int) = true)) (fun iv _ => s.size - (intOf iv).toNat)
      case atStart => exact ⟨rfl, 0, Nat.zero_le _, rfl, fun i h hi => absurd hi (Nat.not_lt_zero _)⟩
      case round =>
        obtain ⟨rfl, j, hj, rfl, hp⟩ := hrel
        by_cases hlt : j < s.size
        · have i1 : (0 : Int) ≤ (j : Int) := by omega
          have i2 : (j : Int) < (s.size : Int) := by omega
          have NX : Hid (pIn (s[j].toNat : Int) = true → ∀ i (h : i < s.size), i < j + 1 → pIn (s[i].toNat : Int) = true) := fun hq i h hi => by
            by_cases e : i = j
            · subst e; exact hq
            · exact hp.out i h (by omega)
          have NB : Hid (pIn (s[j].toNat : Int) = false → namedP s = false) := fun h => named_bad hlt h
          go_upto_region 7 with (fail)
          obtain ⟨c, hc⟩ : ∃ c : Int, (s[j].toNat : Int) = c := ⟨_, rfl⟩
          have hc2 : 0 ≤ c ∧ c ≤ 255 := by have := s[j].toNat_lt; omega
          rw [hc] at NX NB ⊢
          clear hc
          go_cut [59] (fun cv wx => cv = .bool (!pIn c) ∧ wx = wr)
          case first =>
            have hcl : (0 ≤ c ∧ c ≤ 44) ∨ (c = 45) ∨ (c = 46) ∨ (c = 47) ∨ (48 ≤ c ∧ c ≤ 57) ∨ (58 ≤ c ∧ c ≤ 64) ∨ (65 ≤ c ∧ c ≤ 90) ∨ (91 ≤ c ∧ c ≤ 94) ∨ (c = 95) ∨ (c = 96) ∨ (97 ≤ c ∧ c ≤ 122) ∨ (123 ≤ c ∧ c ≤ 255) := by omega
            rcases hcl with h | h | h | h | h | h | h | h | h | h | h | h
            · have f97 : ¬ (97 : Int) ≤ c := by omega
              have f65 : ¬ (65 : Int) ≤ c := by omega
              have f48 : ¬ (48 : Int) ≤ c := by omega
              have g122 : c ≤ (122 : Int) := by omega
              have g90 : c ≤ (90 : Int) := by omega
              have g57 : c ≤ (57 : Int) := by omega
              have e95 : (c == (95 : Int)) = false := by rw [beq_eq_false_iff_ne]; omega
              have e46 : (c == (46 : Int)) = false := by rw [beq_eq_false_iff_ne]; omega
              have e47 : (c == (47 : Int)) = false := by rw [beq_eq_false_iff_ne]; omega
              have e45 : (c == (45 : Int)) = false := by rw [beq_eq_false_iff_ne]; omega
              have hp2 : pIn c = false := by unfold pIn; simp [*]
              clear h hp NX NB
              go_wp2
              go_meet
              exact ⟨by rw [hp2]; rfl, rfl⟩
            · have f97 : ¬ (97 : Int) ≤ c := by omega
              have f65 : ¬ (65 : Int) ≤ c := by omega
              have f48 : ¬ (48 : Int) ≤ c := by omega
              have g122 : c ≤ (122 : Int) := by omega
              have g90 : c ≤ (90 : Int) := by omega
              have g57 : c ≤ (57 : Int) := by omega
              have e95 : (c == (95 : Int)) = false := by rw [beq_eq_false_iff_ne]; omega
              have e46 : (c == (46 : Int)) = false := by rw [beq_eq_false_iff_ne]; omega
              have e47 : (c == (47 : Int)) = false := by rw [beq_eq_false_iff_ne]; omega
              have e45 : (c == (45 : Int)) = true := by simp; omega
              have hp2 : pIn c = true := by unfold pIn; simp [*]
              clear h hp NX NB
              go_wp2
              go_meet
              exact ⟨by rw [hp2]; rfl, rfl⟩
            · have f97 : ¬ (97 : Int) ≤ c := by omega
              have f65 : ¬ (65 : Int) ≤ c := by omega
              have f48 : ¬ (48 : Int) ≤ c := by omega
              have g122 : c ≤ (122 : Int) := by omega
              have g90 : c ≤ (90 : Int) := by omega
              have g57 : c ≤ (57 : Int) := by omega
              have e95 : (c == (95 : Int)) = false := by rw [beq_eq_false_iff_ne]; omega
              have e46 : (c == (46 : Int)) = true := by simp; omega
              have e47 : (c == (47 : Int)) = false := by rw [beq_eq_false_iff_ne]; omega
              have e45 : (c == (45 : Int)) = false := by rw [beq_eq_false_iff_ne]; omega
              have hp2 : pIn c = true := by unfold pIn; simp [*]
              clear h hp NX NB
              go_wp2
              go_meet
              exact ⟨by rw [hp2]; rfl, rfl⟩
            · have f97 : ¬ (97 : Int) ≤ c := by omega
              have f65 : ¬ (65 : Int) ≤ c := by omega
              have f48 : ¬ (48 : Int) ≤ c := by omega
              have g122 : c ≤ (122 : Int) := by omega
              have g90 : c ≤ (90 : Int) := by omega
              have g57 : c ≤ (57 : Int) := by omega
              have e95 : (c == (95 : Int)) = false := by rw [beq_eq_false_iff_ne]; omega
              have e46 : (c == (46 : Int)) = false := by rw [beq_eq_false_iff_ne]; omega
              have e47 : (c == (47 : Int)) = true := by simp; omega
              have e45 : (c == (45 : Int)) = false := by rw [beq_eq_false_iff_ne]; omega
              have hp2 : pIn c = true := by unfold pIn; simp [*]
              clear h hp NX NB
              go_wp2
              go_meet
              exact ⟨by rw [hp2]; rfl, rfl⟩
            · have f97 : ¬ (97 : Int) ≤ c := by omega
              have f65 : ¬ (65 : Int) ≤ c := by omega
              have f48 : (48 : Int) ≤ c := by omega
              have g122 : c ≤ (122 : Int) := by omega
              have g90 : c ≤ (90 : Int) := by omega
              have g57 : c ≤ (57 : Int) := by omega
              have e95 : (c == (95 : Int)) = false := by rw [beq_eq_false_iff_ne]; omega
              have e46 : (c == (46 : Int)) = false := by rw [beq_eq_false_iff_ne]; omega
              have e47 : (c == (47 : Int)) = false := by rw [beq_eq_false_iff_ne]; omega
              have e45 : (c == (45 : Int)) = false := by rw [beq_eq_false_iff_ne]; omega
              have hp2 : pIn c = true := by unfold pIn; simp [*]
              clear h hp NX NB
              go_wp2
              go_meet
              exact ⟨by rw [hp2]; rfl, rfl⟩
            · have f97 : ¬ (97 : Int) ≤ c := by omega
              have f65 : ¬ (65 : Int) ≤ c := by omega
              have f48 : (48 : Int) ≤ c := by omega
              have g122 : c ≤ (122 : Int) := by omega
              have g90 : c ≤ (90 : Int) := by omega
              have g57 : ¬ c ≤ (57 : Int) := by omega
              have e95 : (c == (95 : Int)) = false := by rw [beq_eq_false_iff_ne]; omega
              have e46 : (c == (46 : Int)) = false := by rw [beq_eq_false_iff_ne]; omega
              have e47 : (c == (47 : Int)) = false := by rw [beq_eq_false_iff_ne]; omega
              have e45 : (c == (45 : Int)) = false := by rw [beq_eq_false_iff_ne]; omega
              have hp2 : pIn c = false := by unfold pIn; simp [*]
              clear h hp NX NB
              go_wp2
              go_meet
              exact ⟨by rw [hp2]; rfl, rfl⟩
            · have f97 : ¬ (97 : Int) ≤ c := by omega
              have f65 : (65 : Int) ≤ c := by omega
              have f48 : (48 : Int) ≤ c := by omega
              have g122 : c ≤ (122 : Int) := by omega
              have g90 : c ≤ (90 : Int) := by omega
              have g57 : ¬ c ≤ (57 : Int) := by omega
              have e95 : (c == (95 : Int)) = false := by rw [beq_eq_false_iff_ne]; omega
              have e46 : (c == (46 : Int)) = false := by rw [beq_eq_false_iff_ne]; omega
              have e47 : (c == (47 : Int)) = false := by rw [beq_eq_false_iff_ne]; omega
              have e45 : (c == (45 : Int)) = false := by rw [beq_eq_false_iff_ne]; omega
              have hp2 : pIn c = true := by unfold pIn; simp [*]
              clear h hp NX NB
              go_wp2
              go_meet
              exact ⟨by rw [hp2]; rfl, rfl⟩
            · have f97 : ¬ (97 : Int) ≤ c := by omega
              have f65 : (65 : Int) ≤ c := by omega
              have f48 : (48 : Int) ≤ c := by omega
              have g122 : c ≤ (122 : Int) := by omega
              have g90 : ¬ c ≤ (90 : Int) := by omega
              have g57 : ¬ c ≤ (57 : Int) := by omega
              have e95 : (c == (95 : Int)) = false := by rw [beq_eq_false_iff_ne]; omega
              have e46 : (c == (46 : Int)) = false := by rw [beq_eq_false_iff_ne]; omega
              have e47 : (c == (47 : Int)) = false := by rw [beq_eq_false_iff_ne]; omega
              have e45 : (c == (45 : Int)) = false := by rw [beq_eq_false_iff_ne]; omega
              have hp2 : pIn c = false := by unfold pIn; simp [*]
              clear h hp NX NB
              go_wp2
              go_meet
              exact ⟨by rw [hp2]; rfl, rfl⟩
            · have f97 : ¬ (97 : Int) ≤ c := by omega
              have f65 : (65 : Int) ≤ c := by omega
              have f48 : (48 : Int) ≤ c := by omega
              have g122 : c ≤ (122 : Int) := by omega
              have g90 : ¬ c ≤ (90 : Int) := by omega
              have g57 : ¬ c ≤ (57 : Int) := by omega
              have e95 : (c == (95 : Int)) = true := by simp; omega
              have e46 : (c == (46 : Int)) = false := by rw [beq_eq_false_iff_ne]; omega
              have e47 : (c == (47 : Int)) = false := by rw [beq_eq_false_iff_ne]; omega
              have e45 : (c == (45 : Int)) = false := by rw [beq_eq_false_iff_ne]; omega
              have hp2 : pIn c = true := by unfold pIn; simp [*]
              clear h hp NX NB
              go_wp2
              go_meet
              exact ⟨by rw [hp2]; rfl, rfl⟩
            · have f97 : ¬ (97 : Int) ≤ c := by omega
              have f65 : (65 : Int) ≤ c := by omega
              have f48 : (48 : Int) ≤ c := by omega
              have g122 : c ≤ (122 : Int) := by omega
              have g90 : ¬ c ≤ (90 : Int) := by omega
              have g57 : ¬ c ≤ (57 : Int) := by omega
              have e95 : (c == (95 : Int)) = false := by rw [beq_eq_false_iff_ne]; omega
              have e46 : (c == (46 : Int)) = false := by rw [beq_eq_false_iff_ne]; omega
              have e47 : (c == (47 : Int)) = false := by rw [beq_eq_false_iff_ne]; omega
              have e45 : (c == (45 : Int)) = false := by rw [beq_eq_false_iff_ne]; omega
              have hp2 : pIn c = false := by unfold pIn; simp [*]
              clear h hp NX NB
              go_wp2
              go_meet
              exact ⟨by rw [hp2]; rfl, rfl⟩
            · have f97 : (97 : Int) ≤ c := by omega
              have f65 : (65 : Int) ≤ c := by omega
              have f48 : (48 : Int) ≤ c := by omega
              have g122 : c ≤ (122 : Int) := by omega
              have g90 : ¬ c ≤ (90 : Int) := by omega
              have g57 : ¬ c ≤ (57 : Int) := by omega
              have e95 : (c == (95 : Int)) = false := by rw [beq_eq_false_iff_ne]; omega
              have e46 : (c == (46 : Int)) = false := by rw [beq_eq_false_iff_ne]; omega
              have e47 : (c == (47 : Int)) = false := by rw [beq_eq_false_iff_ne]; omega
              have e45 : (c == (45 : Int)) = false := by rw [beq_eq_false_iff_ne]; omega
              have hp2 : pIn c = true := by unfold pIn; simp [*]
              clear h hp NX NB
              go_wp2
              go_meet
              exact ⟨by rw [hp2]; rfl, rfl⟩
            · have f97 : (97 : Int) ≤ c := by omega
              have f65 : (65 : Int) ≤ c := by omega
              have f48 : (48 : Int) ≤ c := by omega
              have g122 : ¬ c ≤ (122 : Int) := by omega
              have g90 : ¬ c ≤ (90 : Int) := by omega
              have g57 : ¬ c ≤ (57 : Int) := by omega
              have e95 : (c == (95 : Int)) = false := by rw [beq_eq_false_iff_ne]; omega
              have e46 : (c == (46 : Int)) = false := by rw [beq_eq_false_iff_ne]; omega
              have e47 : (c == (47 : Int)) = false := by rw [beq_eq_false_iff_ne]; omega
              have e45 : (c == (45 : Int)) = false := by rw [beq_eq_false_iff_ne]; omega
              have hp2 : pIn c = false := by unfold pIn; simp [*]
              clear h hp NX NB
              go_wp2
              go_meet
              exact ⟨by rw [hp2]; rfl, rfl⟩
          case rest =>
            obtain ⟨rfl, rfl⟩ := hcut
            cases hq : pIn c
            · have HB2 : Hid (namedP s = false) := NB.out hq
              clear NX NB hp hc2
              go_wp2
              go_ret
              exact ⟨ret_bool HB2.out.symm, rfl⟩
            · have HP2 : Hid (∀ i (h : i < s.size), i < j + 1 → pIn (s[i].toNat : Int) = true) := NX.out hq
              clear NX NB hp hc2
              go_wp2
              go_roundw
              case rel => exact ⟨by trivial, j + 1, by omega, by go_num, HP2.out⟩
              case measure => simp [intOf]; omega
        · have : j = s.size := by omega
          subst this
          have HF : Hid (namedP s = true) := named_good h0 h64 fun i h => hp.out i h h
          clear hp
          go_wp2
          go_ret
          exact ⟨ret_bool HF.out.symm, rfl⟩
    · have hf : namedP s = false := by unfold namedP; simp [h0, h64]
      have h64' : (64 : Int) < (s.size : Int) := by omega
      rw [hf]
      go_enter Tryz.func89, Tryz.ntmps89
      go_wp2
      all_goals (go_ret; exact ⟨rfl, rfl⟩)

theorem may_eq (p : Par) : mayP p = ((namedP p.name && (p.kind == 1 || p.kind == 2)) && (decide (1 ≤ p.len) && decide (p.len ≤ 4096))) := rfl

set_option maxRecDepth 100000 in
set_option maxHeartbeats 1000000 in
theorem rMay_any (p : Par) (hs : p.name.size ≤ 140737488351232) (w : World) :
    Calls Tryz.prog 64 #[pv p] w fun e w' => e = .returned (.bool (mayP p)) ∧ Below w.heap.size w w' := by
  rw [may_eq]
  obtain ⟨X, K, L⟩ := p
  unfold pv
  have KN := rnamed_any X hs
  simp only
  obtain ⟨N, hN⟩ : ∃ N, namedP X = N := ⟨_, rfl⟩
  rw [hN] at KN ⊢
  have HK : Hid (∀ w, Calls Tryz.prog 89 #[.string X] w fun e w' => e = .returned (.bool N) ∧ w' = w) := KN
  clear KN hN
  cases N
  · go_enter Tryz.func64, Tryz.ntmps64
    go_wp2_with (go_at_call 89; refine (HK.out _).mono ?_; rintro e w1 ⟨rfl, rfl⟩)
    go_ret
    exact ⟨rfl, bel_alloc _ _⟩
  · have hk : ((K == 1) = true ∧ (K == 2) = false) ∨ ((K == 1) = false ∧ (K == 2) = true) ∨ ((K == 1) = false ∧ (K == 2) = false) := by
      by_cases a : K = 1
      · subst a; exact .inl ⟨rfl, rfl⟩
      · by_cases b : K = 2
        · subst b; exact .inr (.inl ⟨rfl, rfl⟩)
        · exact .inr (.inr ⟨by simpa using a, by simpa using b⟩)
    have hL : (1 ≤ L ∧ L ≤ 4096) ∨ (¬ 1 ≤ L ∧ L ≤ 4096) ∨ (1 ≤ L ∧ ¬ L ≤ 4096) := by omega
    rcases hk with ⟨h1, h2⟩ | ⟨h1, h2⟩ | ⟨h1, h2⟩ <;> rcases hL with ⟨h3, h4⟩ | ⟨h3, h4⟩ | ⟨h3, h4⟩
    all_goals
      go_enter Tryz.func64, Tryz.ntmps64
      go_wp2_with (go_at_call 89; refine (HK.out _).mono ?_; rintro e w1 ⟨rfl, rfl⟩)
      go_ret
      exact ⟨ret_bool (by simp [h1, h2, h3, h4]), bel_alloc _ _⟩

set_option maxRecDepth 100000 in
set_option maxHeartbeats 1000000 in
theorem rNumbers_any (p : Par) (hs : p.name.size ≤ 140737488351232) (w : World) :
    Calls Tryz.prog 90 #[pv p] w fun e w' => e = .returned (.int .i64 (numP p)) ∧ Below w.heap.size w w' := by
  have KM := rMay_any p hs
  have hm : mayP p = true → 1 ≤ p.len ∧ p.len ≤ 4096 := fun h => by rw [may_eq] at h; simp at h; exact h.2
  have hn : numP p = if mayP p then (if p.kind == 2 then 2 * p.len else p.len) else 0 := rfl
  rw [hn]
  clear hn
  obtain ⟨N, hN⟩ : ∃ N, mayP p = N := ⟨_, rfl⟩
  rw [hN] at KM hm ⊢
  clear hN hs
  obtain ⟨X, K, L⟩ := p
  unfold pv at KM ⊢
  simp only at hm KM ⊢
  have HK : Hid (∀ w, Calls Tryz.prog 64 #[.agg #[.string X, .int .i64 K, .int .i64 L]] w fun e w' => e = .returned (.bool N) ∧ Below w.heap.size w w') := KM
  clear KM
  cases N
  · clear hm
    go_enter Tryz.func90, Tryz.ntmps90
    go_wp2_with (go_at_call 64; refine (HK.out _).mono ?_; rintro e w1 ⟨rfl, hb1⟩)
    go_ret
    exact ⟨rfl, bel (bel_alloc _ _) hb1⟩
  · have hL := hm rfl
    clear hm
    cases h2 : (K == 2)
    · go_enter Tryz.func90, Tryz.ntmps90
      go_wp2_with (go_at_call 64; refine (HK.out _).mono ?_; rintro e w1 ⟨rfl, hb1⟩; have c1 : w1.cell? ⟨w.heap.size, 1, none⟩ = some (.int .i64 K) := (hb1.cell (by simp)).trans (by simp [go_sem]); have c2 : w1.cell? ⟨w.heap.size, 2, none⟩ = some (.int .i64 L) := (hb1.cell (by simp)).trans (by simp [go_sem]))
      go_ret
      exact ⟨rfl, bel (bel_alloc _ _) hb1⟩
    · go_enter Tryz.func90, Tryz.ntmps90
      go_wp2_with (go_at_call 64; refine (HK.out _).mono ?_; rintro e w1 ⟨rfl, hb1⟩; have c1 : w1.cell? ⟨w.heap.size, 1, none⟩ = some (.int .i64 K) := (hb1.cell (by simp)).trans (by simp [go_sem]); have c2 : w1.cell? ⟨w.heap.size, 2, none⟩ = some (.int .i64 L) := (hb1.cell (by simp)).trans (by simp [go_sem]))
      go_ret
      exact ⟨ret_int (by simp), bel (bel_alloc _ _) hb1⟩

theorem eq_of_list {a b : ByteArray} (h : (a.toList == b.toList) = true) : a = b := by
  rw [beq_iff_eq, ByteArray.toList_eq, ByteArray.toList_eq] at h
  exact bs_inj h
theorem list_eq {a b : ByteArray} (h : a = b) : (a.toList == b.toList) = true := by rw [h]; simp
theorem list_ne {a b : ByteArray} (h : a ≠ b) : (a.toList == b.toList) = false := by
  cases e : (a.toList == b.toList)
  · rfl
  · exact absurd (eq_of_list e) h

set_option maxHeartbeats 1000000 in
theorem rFind_any (v : Value) (l : List Par) (hl : l.length ≤ 140737488351232) (s : ByteArray) (w : World) (hr : Rd w v l) :
    Calls Tryz.prog 65 #[v, .string s] w fun e w' => e = .returned (.tuple #[.int .i64 ((findP s l).getD 0 : Nat), .bool (findP s l).isSome]) ∧ w' = w := by
  obtain ⟨p, c, rfl, hr⟩ := hr
  obtain ⟨n, hn⟩ : ∃ n, l.length = n := ⟨_, rfl⟩
  rw [hn] at hl ⊢
  have HN : Hid (l.length = n) := hn
  have HR : Hid (Row w p l) := hr
  clear hn hr
  go_enter Tryz.func65, Tryz.ntmps65
  go_wp2
  go_loopw [6] (fun iv wr => wr = w ∧ ∃ j : Nat, j ≤ n ∧ iv = .int .i64 j ∧ Hid (∀ i (h : i < l.length), i < j → l[i].name ≠ s)) (fun iv _ => n - (intOf iv).toNat)
  case atStart => exact ⟨rfl, 0, Nat.zero_le _, rfl, fun i h hi => absurd hi (Nat.not_lt_zero _)⟩
  case round =>
    obtain ⟨rfl, j, hj, rfl, hp⟩ := hrel
    by_cases hlt : j < n
    · have hll : j < l.length := by rw [HN.out]; exact hlt
      obtain ⟨b, o, rfl, x0, x1, x2⟩ := HR.out.at hll
      have i1 : (0 : Int) ≤ (j : Int) := by omega
      have i2 : (j : Int) < (n : Int) := by omega
      by_cases he : l[j].name = s
      · have HF : Hid (findP s l = some j) := find_some hll he hp.out
        have he' := list_eq he
        clear hp he
        go_wp2
        go_ret2
        exact ⟨by rw [HF.out]; rfl, rfl⟩
      · have HP2 : Hid (∀ i (h : i < l.length), i < j + 1 → l[i].name ≠ s) := fun i h hi => by
          by_cases e : i = j
          · subst e; exact he
          · exact hp.out i h (by omega)
        have he' := list_ne he
        clear hp he
        go_wp2
        go_roundw
        case rel => exact ⟨by trivial, j + 1, by omega, by go_num, HP2.out⟩
        case measure => simp [intOf]; omega
    · have : j = n := by omega
      subst this
      have HF : Hid (findP s l = none) := find_none fun i h => hp.out i h (by rw [← HN.out]; exact h)
      clear hp
      go_wp2
      go_ret2
      exact ⟨by rw [HF.out]; rfl, rfl⟩

set_option maxRecDepth 100000 in
set_option maxHeartbeats 1000000 in
theorem rTotal_any (v : Value) (l : List Par) (hl : l.length ≤ 140737488351232) (hM : ∀ p ∈ l, p.name.size ≤ 140737488351232) (w : World) (hr : Rd w v l) :
    Calls Tryz.prog 66 #[v] w fun e w' => e = .returned (.int .i64 (totP l)) ∧ Below w.heap.size w w' := by
  obtain ⟨p, c, rfl, hr⟩ := hr
  obtain ⟨n, hn⟩ : ∃ n, l.length = n := ⟨_, rfl⟩
  rw [hn] at hl ⊢
  have HN : Hid (l.length = n) := hn
  have HR : Hid (Row w p l) := hr
  have HM : Hid (∀ p ∈ l, p.name.size ≤ 140737488351232) := hM
  clear hn hr hM
  go_enter Tryz.func66, Tryz.ntmps66
  go_wp2
  go_loopw [3, 4] (fun tv iv wr => Below w.heap.size w wr ∧ ∃ j : Nat, j ≤ n ∧ iv = .int .i64 j ∧ tv = .int .i64 (totP (l.take j))) (fun _ iv _ => n - (intOf iv).toNat)
  case atStart => exact ⟨bel0 w, 0, Nat.zero_le _, rfl, rfl⟩
  case round =>
    obtain ⟨hb, j, hj, rfl, rfl⟩ := hrel
    by_cases hlt : j < n
    · have hll : j < l.length := by rw [HN.out]; exact hlt
      obtain ⟨b, o, rfl, hx⟩ := HR.out.at hll
      obtain ⟨x0, x1, x2⟩ := hx.below hb
      have i1 : (0 : Int) ≤ (j : Int) := by omega
      have i2 : (j : Int) < (n : Int) := by omega
      have KN := rNumbers_any l[j] (HM.out _ (List.getElem_mem hll))
      unfold pv at KN
      have HK : Hid (∀ w, Calls Tryz.prog 90 #[.agg #[.string l[j].name, .int .i64 l[j].kind, .int .i64 l[j].len]] w fun e w' => e = .returned (.int .i64 (numP l[j])) ∧ Below w.heap.size w w') := KN
      have ht : totP (l.take (j + 1)) = totP (l.take j) + numP l[j] := by rw [take_succ hll, tot_snoc]
      have hb1 := tot_bounds (l.take j)
      have hb2 := num_bounds l[j]
      rw [List.length_take, HN.out, Nat.min_eq_left hj] at hb1
      obtain ⟨T, hT⟩ : ∃ T, totP (l.take j) = T := ⟨_, rfl⟩
      obtain ⟨U, hU⟩ : ∃ U, numP l[j] = U := ⟨_, rfl⟩
      rw [hT, hU] at ht
      rw [hT] at hb1 ⊢
      rw [hU] at hb2 HK
      have HT : Hid (totP (l.take (j + 1)) = T + U) := ht
      have hw1 : IntKind.i64.wrap (T + U) = T + U := by rw [IntKind.wrap_i64]; omega
      clear KN ht hT hU hx
      go_wp2_with (go_at_call 90; refine (HK.out _).mono ?_; rintro e w1 ⟨rfl, hb3⟩)
      go_roundw
      case rel => exact ⟨bel hb hb3, j + 1, by omega, by go_num, by rw [HT.out]⟩
      case measure => simp [intOf]; omega
    · have : j = n := by omega
      subst this
      have HF : Hid (totP (l.take j) = totP l) := by show _ = _; rw [List.take_of_length_le (by rw [HN.out]; exact Nat.le_refl _)]
      go_wp2
      go_ret
      exact ⟨ret_int HF.out, hb⟩

end Go.Proofs.YtnlgkkbmbijndaaGreat
namespace Go.Proofs.YtnlgkkbmbijndaaGreat
open Go.Shelf Go.RowKit

def sh_lays137_ren : Go.Shelf.Ren := ⟨fun | 137 => 126 | 217 => 128 | 266 => 130 | n => n, fun | 9 => 9 | 5 => 5 | 3 => 3 | n => n, fun | n => n⟩

theorem sh_lays137 : Go.Proofs.Lays.n137 Tryz.prog sh_lays137_ren := {
  mixed := by kernel_rfl
  f137 := Tryz.func126.trans (congrArg some (by kernel_rfl))
  f217 := Tryz.func128.trans (congrArg some (by kernel_rfl))
  f266 := Tryz.func130.trans (congrArg some (by kernel_rfl))
  t3 := Tryz.underlying3
  a3 := Tryz.isAgg3
  z3 := Tryz.sizeOf3
  v3 := Tryz.zeroValue3
  t5 := Tryz.underlying5
  a5 := Tryz.isAgg5
  z5 := Tryz.sizeOf5
  v5 := Tryz.zeroValue5
  t9 := Tryz.underlying9
  a9 := Tryz.isAgg9
  z9 := Tryz.sizeOf9
  v9 := Tryz.zeroValue9 }

theorem sh_strings_IndexByte (s : ByteArray) (c : Int) (w : World) :
    Calls Tryz.prog 126 #[.string s, .int .u8 c] w fun e w' => e = .returned (.int .i64 (Lib.indexByte s.data.toList c.toNat.toUInt8)) ∧ w' = w := Any.strings_IndexByte sh_lays137 s c w

def sh_laysM316_ren : Go.Shelf.Ren := ⟨fun | 316 => 112 | n => n, fun | 9 => 9 | 3 => 3 | 4 => 4 | 37 => 49 | 0 => 0 | 127 => 186 | 5 => 5 | n => n, fun | n => n⟩

theorem sh_laysM316 : Go.Proofs.LaysM.n316 Tryz.prog sh_laysM316_ren := {
  mixed := by kernel_rfl
  f316 := Tryz.func112.trans (congrArg some (by kernel_rfl))
  t0 := Tryz.underlying0
  a0 := Tryz.isAgg0
  z0 := Tryz.sizeOf0
  v0 := Tryz.zeroValue0
  t3 := Tryz.underlying3
  a3 := Tryz.isAgg3
  z3 := Tryz.sizeOf3
  v3 := Tryz.zeroValue3
  t4 := Tryz.underlying4
  a4 := Tryz.isAgg4
  z4 := Tryz.sizeOf4
  v4 := Tryz.zeroValue4
  t9 := Tryz.underlying9
  a9 := Tryz.isAgg9
  z9 := Tryz.sizeOf9
  v9 := Tryz.zeroValue9
  t37 := Tryz.underlying49
  a37 := Tryz.isAgg49
  z37 := Tryz.sizeOf49
  v37 := Tryz.zeroValue49
  t127 := Tryz.underlying186
  a127 := Tryz.isAgg186
  z127 := Tryz.sizeOf186
  v127 := Tryz.zeroValue186
  t5 := Tryz.underlying5
  a5 := Tryz.isAgg5
  z5 := Tryz.sizeOf5
  v5 := Tryz.zeroValue5
  i0 := by kernel_rfl
  i3 := by kernel_rfl
  i4 := by kernel_rfl
  i5 := by kernel_rfl
  i9 := by kernel_rfl
  i37 := by kernel_rfl
  i127 := by kernel_rfl }

theorem sh_stringslite_Clone (s : ByteArray) (w : World) (hlim : s.size ≤ 281474976710656) :
    Calls Tryz.prog 112 #[.string s] w fun e w' => e = .returned (.string s) ∧ Below w.heap.size w w' := Any.stringslite_Clone sh_laysM316 s w hlim

end Go.Proofs.YtnlgkkbmbijndaaGreat
/- Package sign: names, parameters, numbers. -/
namespace Go.Proofs.YtnlgkkbmbijndaaGreat
open Go.RowKit
set_option linter.unusedVariables false
set_option linter.unusedSimpArgs false

set_option maxRecDepth 100000 in
theorem idx4 (c : Int) (h0 : 0 ≤ c) (h1 : c ≤ 255) : (0 ≤ Lib.indexByte (⟨#[95, 46, 47, 45]⟩ : ByteArray).data.toList c.toNat.toUInt8) ↔ (c = 95 ∨ c = 46 ∨ c = 47 ∨ c = 45) := by
  obtain ⟨k, rfl⟩ : ∃ k : Nat, c = k := ⟨c.toNat, by omega⟩
  have hk : k < 256 := by omega
  have key : ∀ k : Fin 256, (0 ≤ Lib.indexByte [95, 46, 47, 45] k.val.toUInt8) ↔ ((k.val : Int) = 95 ∨ (k.val : Int) = 46 ∨ (k.val : Int) = 47 ∨ (k.val : Int) = 45) := by decide +kernel
  exact key ⟨k, hk⟩

set_option maxRecDepth 100000 in
set_option maxHeartbeats 2000000 in
theorem inName_any (c : Int) (h0 : 0 ≤ c) (h1 : c ≤ 255) (w : World) :
    Calls Tryz.prog 124 #[.int .u8 c] w fun e w' => e = .returned (.bool (pIn c)) ∧ w' = w := by
  have hX := idx4 c h0 h1
  have K := fun w => sh_strings_IndexByte ⟨#[95, 46, 47, 45]⟩ c w
  obtain ⟨x, hx⟩ : ∃ x, Lib.indexByte (⟨#[95, 46, 47, 45]⟩ : ByteArray).data.toList c.toNat.toUInt8 = x := ⟨_, rfl⟩
  rw [hx] at hX
  simp only [hx] at K
  have HK : Hid (∀ w, Calls Tryz.prog 126 #[.string ⟨#[95, 46, 47, 45]⟩, .int .u8 c] w fun e w' => e = .returned (.int .i64 x) ∧ w' = w) := K
  clear K hx
  have HP : Hid (∀ b : Bool, (b = true ↔ (97 ≤ c ∧ c ≤ 122 ∨ 65 ≤ c ∧ c ≤ 90 ∨ 48 ≤ c ∧ c ≤ 57 ∨ 0 ≤ x)) → b = pIn c) := fun b hb => by
    rw [Bool.eq_iff_iff, hb]
    unfold pIn
    simp only [Bool.or_eq_true, Bool.and_eq_true, decide_eq_true_eq, beq_iff_eq]
    omega
  have hcl : (c < 48) ∨ (48 ≤ c ∧ c ≤ 57) ∨ (57 < c ∧ c < 65) ∨ (65 ≤ c ∧ c ≤ 90) ∨ (90 < c ∧ c < 97) ∨ (97 ≤ c ∧ c ≤ 122) ∨ (122 < c) := by omega
  rcases hcl with h | h | h | h | h | h | h
  · have a1 : ¬ (65 : Int) ≤ c := by omega
    have a2 : ¬ (97 : Int) ≤ c := by omega
    have a3 : ¬ (48 : Int) ≤ c := by omega
    by_cases hx0 : 0 ≤ x
    all_goals
      go_enter Tryz.func124, Tryz.ntmps124
      go_wp2_with (go_at_call 126; refine (HK.out _).mono ?_; rintro e w1 ⟨rfl, rfl⟩)
      go_ret
      exact ⟨ret_bool (HP.out _ (by simp; omega)), rfl⟩
  · have a1 : ¬ (65 : Int) ≤ c := by omega
    have a2 : ¬ (97 : Int) ≤ c := by omega
    have a3 : (48 : Int) ≤ c := by omega
    have a4 : c ≤ (57 : Int) := by omega
    go_enter Tryz.func124, Tryz.ntmps124
    go_wp2_with (go_at_call 126; refine (HK.out _).mono ?_; rintro e w1 ⟨rfl, rfl⟩)
    go_ret
    exact ⟨ret_bool (HP.out _ (by simp; omega)), rfl⟩
  · have a1 : ¬ (65 : Int) ≤ c := by omega
    have a2 : ¬ (97 : Int) ≤ c := by omega
    have a3 : (48 : Int) ≤ c := by omega
    have a4 : ¬ c ≤ (57 : Int) := by omega
    by_cases hx0 : 0 ≤ x
    all_goals
      go_enter Tryz.func124, Tryz.ntmps124
      go_wp2_with (go_at_call 126; refine (HK.out _).mono ?_; rintro e w1 ⟨rfl, rfl⟩)
      go_ret
      exact ⟨ret_bool (HP.out _ (by simp; omega)), rfl⟩
  · have a1 : (65 : Int) ≤ c := by omega
    have a2 : ¬ (97 : Int) ≤ c := by omega
    have a3 : (48 : Int) ≤ c := by omega
    have a4 : ¬ c ≤ (57 : Int) := by omega
    have a5 : c ≤ (90 : Int) := by omega
    go_enter Tryz.func124, Tryz.ntmps124
    go_wp2_with (go_at_call 126; refine (HK.out _).mono ?_; rintro e w1 ⟨rfl, rfl⟩)
    go_ret
    exact ⟨ret_bool (HP.out _ (by simp; omega)), rfl⟩
  · have a1 : (65 : Int) ≤ c := by omega
    have a2 : ¬ (97 : Int) ≤ c := by omega
    have a3 : (48 : Int) ≤ c := by omega
    have a4 : ¬ c ≤ (57 : Int) := by omega
    have a5 : ¬ c ≤ (90 : Int) := by omega
    by_cases hx0 : 0 ≤ x
    all_goals
      go_enter Tryz.func124, Tryz.ntmps124
      go_wp2_with (go_at_call 126; refine (HK.out _).mono ?_; rintro e w1 ⟨rfl, rfl⟩)
      go_ret
      exact ⟨ret_bool (HP.out _ (by simp; omega)), rfl⟩
  · have a1 : (65 : Int) ≤ c := by omega
    have a2 : (97 : Int) ≤ c := by omega
    have a3 : (48 : Int) ≤ c := by omega
    have a4 : ¬ c ≤ (57 : Int) := by omega
    have a5 : ¬ c ≤ (90 : Int) := by omega
    have a6 : c ≤ (122 : Int) := by omega
    go_enter Tryz.func124, Tryz.ntmps124
    go_wp2_with (go_at_call 126; refine (HK.out _).mono ?_; rintro e w1 ⟨rfl, rfl⟩)
    go_ret
    exact ⟨ret_bool (HP.out _ (by simp; omega)), rfl⟩
  · have a1 : (65 : Int) ≤ c := by omega
    have a2 : (97 : Int) ≤ c := by omega
    have a3 : (48 : Int) ≤ c := by omega
    have a4 : ¬ c ≤ (57 : Int) := by omega
    have a5 : ¬ c ≤ (90 : Int) := by omega
    have a6 : ¬ c ≤ (122 : Int) := by omega
    by_cases hx0 : 0 ≤ x
    all_goals
      go_enter Tryz.func124, Tryz.ntmps124
      go_wp2_with (go_at_call 126; refine (HK.out _).mono ?_; rintro e w1 ⟨rfl, rfl⟩)
      go_ret
      exact ⟨ret_bool (HP.out _ (by simp; omega)), rfl⟩

set_option maxRecDepth 100000 in
set_option maxHeartbeats 2000000 in
theorem isName_any (s : ByteArray) (hs : s.size ≤ 140737488351232) (w : World) :
    Calls Tryz.prog 116 #[.string s] w fun e w' => e = .returned (.bool (namedP s)) ∧ w' = w := by
  by_cases h0 : s.size = 0
  · have he : s.toList.isEmpty = true := by rw [isEmpty_size]; simp [h0]
    have he2 : (s.toList == []) = true := by rw [nonempty]; simp [h0]
    have hf : namedP s = false := by unfold namedP; simp [h0]
    rw [hf]
    go_enter Tryz.func116, Tryz.ntmps116
    go_wp2
    all_goals (go_ret; exact ⟨rfl, rfl⟩)
  · have he : s.toList.isEmpty = false := by rw [isEmpty_size]; simp [h0]
    have he2 : (s.toList == []) = false := by rw [nonempty]; simp [h0]
    by_cases h64 : s.size ≤ 64
    · have h64' : ¬ ((64 : Int) < (s.size : Int)) := by omega
      go_enter Tryz.func116, Tryz.ntmps116
      go_wp2
      go_loopw [13] (fun iv wr => wr = w ∧ ∃ j : Nat, j ≤ s.size ∧ iv = .int .i64 j ∧ Hid (∀ i (h : i < s.size), i < j → pIn (s[i].toNat : Int) = true)) (fun iv _ => s.size - (intOf iv).toNat)
      case atStart => exact ⟨rfl, 0, Nat.zero_le _, rfl, fun i h hi => absurd hi (Nat.not_lt_zero _)⟩
      case round =>
        obtain ⟨rfl, j, hj, rfl, hp⟩ := hrel
        by_cases hlt : j < s.size
        · have i1 : (0 : Int) ≤ (j : Int) := by omega
          have i2 : (j : Int) < (s.size : Int) := by omega
          have hc2 : (s[j].toNat : Int) ≤ 255 := by have := s[j].toNat_lt; omega
          have K := fun w => inName_any (s[j].toNat : Int) (by omega) hc2 w
          have NX : Hid (pIn (s[j].toNat : Int) = true → ∀ i (h : i < s.size), i < j + 1 → pIn (s[i].toNat : Int) = true) := fun hq i h hi => by
            by_cases e : i = j
            · subst e; exact hq
            · exact hp.out i h (by omega)
          have NB : Hid (pIn (s[j].toNat : Int) = false → namedP s = false) := fun h => named_bad hlt h
          obtain ⟨N, hN⟩ : ∃ N, pIn (s[j].toNat : Int) = N := ⟨_, rfl⟩
          rw [hN] at NX NB
          simp only [hN] at K
          have HK : Hid (∀ w, Calls Tryz.prog 124 #[.int .u8 (s[j].toNat : Int)] w fun e w' => e = .returned (.bool N) ∧ w' = w) := K
          clear K hN hp hc2
          cases N
          · go_wp2_with (go_at_call 124; refine (HK.out _).mono ?_; rintro e w1 ⟨rfl, rfl⟩)
            go_ret
            exact ⟨ret_bool (NB.out (by simp)).symm, by first | rfl | trivial⟩
          · go_wp2_with (go_at_call 124; refine (HK.out _).mono ?_; rintro e w1 ⟨rfl, rfl⟩)
            go_roundw
            case rel => exact ⟨by first | rfl | trivial, j + 1, by omega, by go_num, NX.out (by simp)⟩
            case measure => simp [intOf]; omega
        · have : j = s.size := by omega
          subst this
          have HF : Hid (namedP s = true) := named_good h0 h64 fun i h => hp.out i h h
          clear hp
          go_wp2
          go_ret
          exact ⟨ret_bool HF.out.symm, rfl⟩
    · have h64' : (64 : Int) < (s.size : Int) := by omega
      have hf : namedP s = false := by unfold namedP; simp [h64]
      rw [hf]
      go_enter Tryz.func116, Tryz.ntmps116
      go_wp2
      all_goals (go_ret; exact ⟨rfl, rfl⟩)

set_option maxRecDepth 100000 in
set_option maxHeartbeats 2000000 in
theorem mayNot_any (p : Par) (hs : p.name.size ≤ 140737488351232) (w : World) :
    Calls Tryz.prog 96 #[pv p] w fun e w' => e = .returned (.bool (!mayP p)) ∧ Below w.heap.size w w' := by
  rw [may_eq]
  obtain ⟨X, K, L⟩ := p
  unfold pv
  have KN := isName_any X hs
  simp only
  obtain ⟨N, hN⟩ : ∃ N, namedP X = N := ⟨_, rfl⟩
  rw [hN] at KN ⊢
  have HK : Hid (∀ w, Calls Tryz.prog 116 #[.string X] w fun e w' => e = .returned (.bool N) ∧ w' = w) := KN
  clear KN hN
  have hk : ((K == 1) = true ∧ (K == 2) = false) ∨ ((K == 1) = false ∧ (K == 2) = true) ∨ ((K == 1) = false ∧ (K == 2) = false) := by
    by_cases a : K = 1
    · subst a; exact .inl ⟨rfl, rfl⟩
    · by_cases b : K = 2
      · subst b; exact .inr (.inl ⟨rfl, rfl⟩)
      · exact .inr (.inr ⟨by simpa using a, by simpa using b⟩)
  have hL : (1 ≤ L ∧ L ≤ 4096) ∨ (¬ 1 ≤ L ∧ L ≤ 4096) ∨ (1 ≤ L ∧ ¬ L ≤ 4096) := by omega
  cases N <;> rcases hk with ⟨h1, h2⟩ | ⟨h1, h2⟩ | ⟨h1, h2⟩ <;> rcases hL with ⟨h3, h4⟩ | ⟨h3, h4⟩ | ⟨h3, h4⟩
  all_goals
    go_enter Tryz.func96, Tryz.ntmps96
    go_wp2_with (go_at_call 116; refine (HK.out _).mono ?_; rintro e w1 ⟨rfl, rfl⟩)
    go_ret
    exact ⟨ret_bool (by simp [h1, h2, h3, h4]), bel_alloc _ _⟩

set_option maxRecDepth 100000 in
set_option maxHeartbeats 1000000 in
theorem sNumbers_any (p : Par) (hs : p.name.size ≤ 140737488351232) (w : World) :
    Calls Tryz.prog 117 #[pv p] w fun e w' => e = .returned (.int .i64 (numP p)) ∧ Below w.heap.size w w' := by
  have KM := mayNot_any p hs
  have hm : mayP p = true → 1 ≤ p.len ∧ p.len ≤ 4096 := fun h => by rw [may_eq] at h; simp at h; exact h.2
  have hn : numP p = if mayP p then (if p.kind == 2 then 2 * p.len else p.len) else 0 := rfl
  rw [hn]
  clear hn
  obtain ⟨N, hN⟩ : ∃ N, mayP p = N := ⟨_, rfl⟩
  rw [hN] at KM hm ⊢
  clear hN hs
  obtain ⟨X, K, L⟩ := p
  unfold pv at KM ⊢
  simp only at hm KM ⊢
  have HK : Hid (∀ w, Calls Tryz.prog 96 #[.agg #[.string X, .int .i64 K, .int .i64 L]] w fun e w' => e = .returned (.bool (!N)) ∧ Below w.heap.size w w') := KM
  clear KM
  cases N
  · clear hm
    go_enter Tryz.func117, Tryz.ntmps117
    go_wp2_with (go_at_call 96; refine (HK.out _).mono ?_; rintro e w1 ⟨rfl, hb1⟩)
    go_ret
    exact ⟨rfl, bel (bel_alloc _ _) hb1⟩
  · have hL := hm rfl
    clear hm
    cases h2 : (K == 2)
    · go_enter Tryz.func117, Tryz.ntmps117
      go_wp2_with (go_at_call 96; refine (HK.out _).mono ?_; rintro e w1 ⟨rfl, hb1⟩; have c1 : w1.cell? ⟨w.heap.size, 1, none⟩ = some (.int .i64 K) := (hb1.cell (by simp)).trans (by simp [go_sem]); have c2 : w1.cell? ⟨w.heap.size, 2, none⟩ = some (.int .i64 L) := (hb1.cell (by simp)).trans (by simp [go_sem]))
      go_ret
      exact ⟨rfl, bel (bel_alloc _ _) hb1⟩
    · have hw : IntKind.i64.wrap (2 * L) = 2 * L := by rw [IntKind.wrap_i64]; omega
      go_enter Tryz.func117, Tryz.ntmps117
      go_wp2_with (go_at_call 96; refine (HK.out _).mono ?_; rintro e w1 ⟨rfl, hb1⟩; have c1 : w1.cell? ⟨w.heap.size, 1, none⟩ = some (.int .i64 K) := (hb1.cell (by simp)).trans (by simp [go_sem]); have c2 : w1.cell? ⟨w.heap.size, 2, none⟩ = some (.int .i64 L) := (hb1.cell (by simp)).trans (by simp [go_sem]))
      go_ret
      exact ⟨ret_int (by simp), bel (bel_alloc _ _) hb1⟩

set_option maxRecDepth 100000 in
set_option maxHeartbeats 1000000 in
theorem sTotal_any (v : Value) (l : List Par) (hl : l.length ≤ 140737488351232) (hM : ∀ p ∈ l, p.name.size ≤ 140737488351232) (w : World) (hr : Rd w v l) :
    Calls Tryz.prog 98 #[v] w fun e w' => e = .returned (.int .i64 (totP l)) ∧ Below w.heap.size w w' := by
  obtain ⟨p, c, rfl, hr⟩ := hr
  obtain ⟨n, hn⟩ : ∃ n, l.length = n := ⟨_, rfl⟩
  rw [hn] at hl ⊢
  have HN : Hid (l.length = n) := hn
  have HR : Hid (Row w p l) := hr
  have HM : Hid (∀ p ∈ l, p.name.size ≤ 140737488351232) := hM
  clear hn hr hM
  go_enter Tryz.func98, Tryz.ntmps98
  go_wp2
  go_loopw [3, 8] (fun tv iv wr => Below w.heap.size w wr ∧ ∃ j : Nat, j ≤ n ∧ iv = .int .i64 j ∧ tv = .int .i64 (totP (l.take j))) (fun _ iv _ => n - (intOf iv).toNat)
  case atStart => exact ⟨bel0 w, 0, Nat.zero_le _, rfl, rfl⟩
  case round =>
    obtain ⟨hb, j, hj, rfl, rfl⟩ := hrel
    by_cases hlt : j < n
    · have hll : j < l.length := by rw [HN.out]; exact hlt
      obtain ⟨b, o, rfl, hx⟩ := HR.out.at hll
      obtain ⟨x0, x1, x2⟩ := hx.below hb
      have i1 : (0 : Int) ≤ (j : Int) := by omega
      have i2 : (j : Int) < (n : Int) := by omega
      have KN := sNumbers_any l[j] (HM.out _ (List.getElem_mem hll))
      unfold pv at KN
      have HK : Hid (∀ w, Calls Tryz.prog 117 #[.agg #[.string l[j].name, .int .i64 l[j].kind, .int .i64 l[j].len]] w fun e w' => e = .returned (.int .i64 (numP l[j])) ∧ Below w.heap.size w w') := KN
      have ht : totP (l.take (j + 1)) = totP (l.take j) + numP l[j] := by rw [take_succ hll, tot_snoc]
      have hb1 := tot_bounds (l.take j)
      have hb2 := num_bounds l[j]
      rw [List.length_take, HN.out, Nat.min_eq_left hj] at hb1
      obtain ⟨T, hT⟩ : ∃ T, totP (l.take j) = T := ⟨_, rfl⟩
      obtain ⟨U, hU⟩ : ∃ U, numP l[j] = U := ⟨_, rfl⟩
      rw [hT, hU] at ht
      rw [hT] at hb1 ⊢
      rw [hU] at hb2 HK
      have HT : Hid (totP (l.take (j + 1)) = T + U) := ht
      have hw1 : IntKind.i64.wrap (T + U) = T + U := by rw [IntKind.wrap_i64]; omega
      clear KN ht hT hU hx
      go_wp2_with (go_at_call 117; refine (HK.out _).mono ?_; rintro e w1 ⟨rfl, hb3⟩)
      go_roundw
      case rel => exact ⟨bel (bel hb (by go_grown)) hb3, j + 1, by omega, by go_num, by rw [HT.out]⟩
      case measure => simp [intOf]; omega
    · have : j = n := by omega
      subst this
      have HF : Hid (totP (l.take j) = totP l) := by show _ = _; rw [List.take_of_length_le (by rw [HN.out]; exact Nat.le_refl _)]
      go_wp2
      go_ret
      exact ⟨ret_int HF.out, hb⟩

end Go.Proofs.YtnlgkkbmbijndaaGreat
/- The reference: Check, Fits. -/
namespace Go.Proofs.YtnlgkkbmbijndaaGreat
open Go.RowKit
set_option linter.unusedVariables false
set_option linter.unusedSimpArgs false

theorem find_lt {s : ByteArray} : ∀ {l : List Par} {k : Nat}, findP s l = some k → k < l.length ∧ ∀ h : k < l.length, l[k].name = s
  | [], k, h => by cases h
  | p :: r, k, h => by
    simp only [findP] at h
    split at h
    · rename_i e
      cases h
      exact ⟨by simp, fun _ => e⟩
    · cases hf : findP s r with
      | none => rw [hf] at h; cases h
      | some m =>
        rw [hf] at h
        cases h
        obtain ⟨h1, h2⟩ := find_lt hf
        exact ⟨by simp; exact h1, fun _ => by simp only [List.getElem_cons_succ]; exact h2 h1⟩
theorem find_le {s : ByteArray} : ∀ {l : List Par} {i : Nat} (h : i < l.length), l[i].name = s → ∃ k, findP s l = some k ∧ k ≤ i
  | [], i, h, _ => absurd h (Nat.not_lt_zero _)
  | p :: r, i, h, e => by
    simp only [findP]
    split
    · exact ⟨0, rfl, Nat.zero_le _⟩
    · rename_i hp
      cases i with
      | zero => exact absurd e hp
      | succ i =>
        obtain ⟨k, hk, hki⟩ := find_le (l := r) (i := i) (by simpa using h) (by simpa using e)
        exact ⟨k + 1, by rw [hk]; rfl, by omega⟩
/-- Where it stands first is not here: it stands twice. -/
theorem twice_of {l : List Par} {i : Nat} (h : i < l.length) (hk : (findP l[i].name l).getD 0 ≠ i) : twiceP l = true := by
  obtain ⟨k, hk1, hk2⟩ := find_le (l := l) h rfl
  rw [hk1] at hk
  obtain ⟨h1, h2⟩ := find_lt hk1
  have hne : k ≠ i := hk
  exact twice_iff.2 ⟨i, k, h, h1, by omega, h2 h1⟩
theorem once_of {l : List Par} (h : ∀ i (h : i < l.length), (findP l[i].name l).getD 0 = i) : twiceP l = false := by
  cases ht : twiceP l
  · rfl
  · obtain ⟨i, j, hi, hj, hji, e⟩ := twice_iff.1 ht
    obtain ⟨k, hk, hkj⟩ := find_le (s := l[i].name) hj e
    have := h i hi
    rw [hk] at this
    have : k = i := this
    omega

set_option maxRecDepth 100000 in
set_option maxHeartbeats 2000000 in
theorem rCheck_any (v : Value) (l : List Par) (hl : l.length ≤ 140737488351232) (hM : ∀ p ∈ l, p.name.size ≤ 140737488351232) (w : World) (hr : Rd w v l) :
    Calls Tryz.prog 32 #[v] w fun e w' => e = .returned (.int .i64 (checkP l)) ∧ Below w.heap.size w w' := by
  have KT : Hid (∀ w, Rd w v l → Calls Tryz.prog 66 #[v] w fun e w' => e = .returned (.int .i64 (totP l)) ∧ Below w.heap.size w w') := fun w h => rTotal_any v l hl hM w h
  have KF : Hid (∀ w s, Rd w v l → Calls Tryz.prog 65 #[v, .string s] w fun e w' => e = .returned (.tuple #[.int .i64 ((findP s l).getD 0 : Nat), .bool (findP s l).isSome]) ∧ w' = w) := fun w s h => rFind_any v l hl s w h
  have HRD : Hid (Rd w v l) := hr
  obtain ⟨p, c, rfl, hr⟩ := hr
  obtain ⟨n, hn⟩ : ∃ n, l.length = n := ⟨_, rfl⟩
  have HN : Hid (l.length = n) := hn
  have HR : Hid (Row w p l) := hr
  have HM : Hid (∀ p ∈ l, p.name.size ≤ 140737488351232) := hM
  have HC : Hid (checkP l = if n > 64 then 2 else if l.all mayP = false then 100 else if twiceP l then 101 else if totP l > 65536 then 102 else 0) := by
    show _ = _
    unfold checkP
    rw [hn]
  rw [hn] at hl HRD KT KF ⊢
  clear hn hr hM
  by_cases h64 : n ≤ 64
  · have h64' : ¬ (64 : Int) < (n : Int) := by omega
    have hng : ¬ n > 64 := by omega
    have HC2 : Hid (checkP l = if l.all mayP = false then 100 else if twiceP l then 101 else if totP l > 65536 then 102 else 0) := by show _ = _; rw [HC.out, if_neg hng]
    clear HC hng
    go_enter Tryz.func32, Tryz.ntmps32
    go_wp2
    go_loopw [3] (fun iv wr => Below w.heap.size w wr ∧ ∃ j : Nat, j ≤ n ∧ iv = .int .i64 j ∧ Hid (∀ i (h : i < l.length), i < j → mayP l[i] = true)) (fun iv _ => n - (intOf iv).toNat)
    case atStart => exact ⟨bel0 w, 0, Nat.zero_le _, rfl, fun i h hi => absurd hi (Nat.not_lt_zero _)⟩
    case round =>
      obtain ⟨hb, j, hj, rfl, hp⟩ := hrel
      by_cases hlt : j < n
      · have hll : j < l.length := by rw [HN.out]; exact hlt
        obtain ⟨b, o, rfl, hx⟩ := HR.out.at hll
        obtain ⟨x0, x1, x2⟩ := hx.below hb
        have i1 : (0 : Int) ≤ (j : Int) := by omega
        have i2 : (j : Int) < (n : Int) := by omega
        have KM := rMay_any l[j] (HM.out _ (List.getElem_mem hll))
        unfold pv at KM
        have HA : Hid (mayP l[j] = false → l.all mayP = false) := fun h => List.all_eq_false.2 ⟨l[j], List.getElem_mem hll, by rw [h]; decide⟩
        have HB : Hid (mayP l[j] = true → ∀ i (h : i < l.length), i < j + 1 → mayP l[i] = true) := fun hq i h hi => by
          by_cases e : i = j
          · subst e; exact hq
          · exact hp.out i h (by omega)
        obtain ⟨M, hMM⟩ : ∃ M, mayP l[j] = M := ⟨_, rfl⟩
        rw [hMM] at KM HA HB
        have HK : Hid (∀ w, Calls Tryz.prog 64 #[.agg #[.string l[j].name, .int .i64 l[j].kind, .int .i64 l[j].len]] w fun e w' => e = .returned (.bool M) ∧ Below w.heap.size w w') := KM
        clear KM hMM hx hp
        cases M
        · have HA2 : Hid (checkP l = 100) := by show _ = _; rw [HC2.out, if_pos (HA.out rfl)]
          clear HA HB
          go_wp2_with (go_at_call 64; refine (HK.out _).mono ?_; rintro e w1 ⟨rfl, hb1⟩)
          go_ret
          exact ⟨ret_int HA2.out.symm, bel hb hb1⟩
        · have HB2 : Hid (∀ i (h : i < l.length), i < j + 1 → mayP l[i] = true) := HB.out rfl
          clear HA HB
          go_wp2_with (go_at_call 64; refine (HK.out _).mono ?_; rintro e w1 ⟨rfl, hb1⟩)
          go_roundw
          case rel => exact ⟨bel hb hb1, j + 1, by omega, by go_num, HB2.out⟩
          case measure => simp [intOf]; omega
      · have : j = n := by omega
        subst this
        have hall : l.all mayP = true := List.all_eq_true.2 fun q hq => by
          obtain ⟨i, hi, rfl⟩ := List.mem_iff_getElem.1 hq
          exact hp.out i hi (by rw [← HN.out]; exact hi)
        have HC3 : Hid (checkP l = if twiceP l then 101 else if totP l > 65536 then 102 else 0) := by show _ = _; rw [HC2.out, if_neg (by rw [hall]; decide)]
        clear hp hall HC2
        go_wp2
        go_loopw [4] (fun iv wr => Below w.heap.size w wr ∧ ∃ i : Nat, i ≤ j ∧ iv = .int .i64 i ∧ Hid (∀ k (h : k < l.length), k < i → (findP l[k].name l).getD 0 = k)) (fun iv _ => j - (intOf iv).toNat)
        case atStart => exact ⟨hb, 0, Nat.zero_le _, rfl, fun i h hi => absurd hi (Nat.not_lt_zero _)⟩
        case round =>
          obtain ⟨hb', i, hi, rfl, hp⟩ := hrel
          by_cases hlt' : i < j
          · have hll : i < l.length := by rw [HN.out]; exact hlt'
            obtain ⟨b, o, rfl, hx⟩ := HR.out.at hll
            obtain ⟨x0, x1, x2⟩ := hx.below hb'
            have i1 : (0 : Int) ≤ (i : Int) := by omega
            have i2 : (i : Int) < (j : Int) := by omega
            have K1 := KF.out _ l[i].name (HRD.out.below hb')
            have hlo := find_le (l := l) hll rfl
            obtain ⟨k0, hk0, hk1⟩ := hlo
            have T1 := twice_of (l := l) hll
            rw [hk0] at K1 T1
            have HP0 : Hid ((findP l[i].name l).getD 0 = k0) := by show _ = _; rw [hk0]; rfl
            simp only [Option.getD_some, Option.isSome_some] at K1 T1
            have HK : Hid (Calls Tryz.prog 65 #[.slice (some ⟨b, o, none⟩) j c, .string l[i].name] _ fun e w' => e = .returned (.tuple #[.int .i64 (k0 : Int), .bool true]) ∧ w' = _) := K1
            clear K1 hk0 hx
            by_cases hki : k0 = i
            · have HB2 : Hid (∀ k (h : k < l.length), k < i + 1 → (findP l[k].name l).getD 0 = k) := fun k h hk => by
                by_cases e : k = i
                · subst e; rw [HP0.out, hki]
                · exact hp.out k h (by omega)
              subst hki
              clear T1 hp HP0
              go_wp2_with (go_at_call 65; refine HK.out.mono ?_; rintro e w1 ⟨rfl, rfl⟩)
              go_roundw
              case rel => exact ⟨hb', k0 + 1, by omega, by go_num, HB2.out⟩
              case measure => simp [intOf]; omega
            · have HA2 : Hid (checkP l = 101) := by show _ = _; rw [HC3.out, if_pos (T1 hki)]
              have hne : ((k0 : Int) == (i : Int)) = false := by rw [beq_eq_false_iff_ne]; omega
              have hne' : ((k0 : Int) != (i : Int)) = true := by rw [bne, hne]; rfl
              clear T1 hp HP0
              go_wp2_with (go_at_call 65; refine HK.out.mono ?_; rintro e w1 ⟨rfl, rfl⟩)
              go_ret
              exact ⟨ret_int HA2.out.symm, hb'⟩
          · have : i = j := by omega
            subst this
            have hon : twiceP l = false := once_of fun k h => hp.out k h (by rw [← HN.out]; exact h)
            have HC4 : Hid (checkP l = if totP l > 65536 then 102 else 0) := by show _ = _; rw [HC3.out, hon]; rfl
            have K1 := KT.out _ (HRD.out.below hb')
            obtain ⟨T, hT⟩ : ∃ T, totP l = T := ⟨_, rfl⟩
            rw [hT] at HC4 K1
            have HK : Hid (Calls Tryz.prog 66 #[.slice p i c] _ fun e w' => e = .returned (.int .i64 T) ∧ Below _ _ w') := K1
            clear K1 hT hp hon HC3
            by_cases h6 : T > 65536
            · have HC5 : Hid (checkP l = 102) := by show _ = _; rw [HC4.out, if_pos h6]
              have h6' : (65536 : Int) < T := h6
              clear HC4
              go_wp2_with (go_at_call 66; refine HK.out.mono ?_; rintro e w1 ⟨rfl, hb1⟩)
              go_ret
              exact ⟨ret_int HC5.out.symm, bel hb' hb1⟩
            · have HC5 : Hid (checkP l = 0) := by show _ = _; rw [HC4.out, if_neg h6]
              have h6' : ¬ (65536 : Int) < T := h6
              clear HC4
              go_wp2_with (go_at_call 66; refine HK.out.mono ?_; rintro e w1 ⟨rfl, hb1⟩)
              go_ret
              exact ⟨ret_int HC5.out.symm, bel hb' hb1⟩
  · have h64' : (64 : Int) < (n : Int) := by omega
    have HC2 : Hid (checkP l = 2) := by show _ = _; rw [HC.out, if_pos (by omega)]
    clear HC
    go_enter Tryz.func32, Tryz.ntmps32
    go_wp2
    go_ret
    exact ⟨ret_int HC2.out.symm, bel0 _⟩

end Go.Proofs.YtnlgkkbmbijndaaGreat
/- The reference: words, length. -/
namespace Go.Proofs.YtnlgkkbmbijndaaGreat
open Go.RowKit
set_option linter.unusedVariables false
set_option linter.unusedSimpArgs false

theorem info_Param : (Tryz.prog.info? 59).map (fun i => (i.zero, i.size, i.bytes)) = some (some (.agg #[.string ⟨#[]⟩, .int .i64 0, .int .i64 0]), 3, 32) := by kernel_rfl
end Go.Proofs.YtnlgkkbmbijndaaGreat
/- The reference: Line. -/
namespace Go.Proofs.YtnlgkkbmbijndaaGreat
open Go.RowKit
set_option linter.unusedVariables false
set_option linter.unusedSimpArgs false

end Go.Proofs.YtnlgkkbmbijndaaGreat
/- The reference: Parse. -/
namespace Go.Proofs.YtnlgkkbmbijndaaGreat
open Go.RowKit
set_option linter.unusedVariables false
set_option linter.unusedSimpArgs false

end Go.Proofs.YtnlgkkbmbijndaaGreat
/- The reference: digits, Print, Fits. -/
namespace Go.Proofs.YtnlgkkbmbijndaaGreat
open Go.RowKit
set_option linter.unusedVariables false
set_option linter.unusedSimpArgs false

end Go.Proofs.YtnlgkkbmbijndaaGreat
/- Package sign: signatures: which may be, where a name stands, what fits. -/
namespace Go.Proofs.YtnlgkkbmbijndaaGreat
open Go.RowKit Go.Maps
set_option linter.unusedVariables false
set_option linter.unusedSimpArgs false

set_option maxRecDepth 100000 in
set_option maxHeartbeats 1000000 in
theorem indexFunc_any (v : Value) (l : List Par) (hl : l.length ≤ 140737488351232) (hM : ∀ p ∈ l, p.name.size ≤ 140737488351232) (w : World) (hr : Rd w v l) :
    Calls Tryz.prog 115 #[v, .func (.func 96) #[] #[]] w fun e w' => (∃ x : Int, e = .returned (.int .i64 x) ∧ -1 ≤ x ∧ (0 ≤ x ↔ l.all mayP = false)) ∧ Below w.heap.size w w' := by
  obtain ⟨p, c, rfl, hr⟩ := hr
  obtain ⟨n, hn⟩ : ∃ n, l.length = n := ⟨_, rfl⟩
  rw [hn] at hl ⊢
  have HN : Hid (l.length = n) := hn
  have HR : Hid (Row w p l) := hr
  have HM : Hid (∀ p ∈ l, p.name.size ≤ 140737488351232) := hM
  clear hn hr hM
  go_enter Tryz.func115, Tryz.ntmps115
  go_wp2
  go_loopw [8] (fun iv wr => Below w.heap.size w wr ∧ ∃ j : Nat, j ≤ n ∧ iv = .int .i64 j ∧ Hid (∀ i (h : i < l.length), i < j → mayP l[i] = true)) (fun iv _ => n - (intOf iv).toNat)
  case atStart => exact ⟨bel0 w, 0, Nat.zero_le _, rfl, fun i h hi => absurd hi (Nat.not_lt_zero _)⟩
  case round =>
    obtain ⟨hb, j, hj, rfl, hp⟩ := hrel
    by_cases hlt : j < n
    · have hll : j < l.length := by rw [HN.out]; exact hlt
      obtain ⟨b, o, rfl, hx⟩ := HR.out.at hll
      obtain ⟨x0, x1, x2⟩ := hx.below hb
      have i1 : (0 : Int) ≤ (j : Int) := by omega
      have i2 : (j : Int) < (n : Int) := by omega
      have KN := mayNot_any l[j] (HM.out _ (List.getElem_mem hll))
      unfold pv at KN
      have NX : Hid (mayP l[j] = true → ∀ i (h : i < l.length), i < j + 1 → mayP l[i] = true) := fun hq i h hi => by
        by_cases e : i = j
        · subst e; exact hq
        · exact hp.out i h (by omega)
      have NB : Hid (mayP l[j] = false → l.all mayP = false) := fun h => List.all_eq_false.2 ⟨l[j], List.getElem_mem hll, by rw [h]; decide⟩
      obtain ⟨N, hN⟩ : ∃ N, mayP l[j] = N := ⟨_, rfl⟩
      rw [hN] at NX NB
      simp only [hN] at KN
      have HK : Hid (∀ w, Calls Tryz.prog 96 #[.agg #[.string l[j].name, .int .i64 l[j].kind, .int .i64 l[j].len]] w fun e w' => e = .returned (.bool (!N)) ∧ Below w.heap.size w w') := KN
      clear KN hN hp hx
      cases N
      · go_wp2_with (go_at_call 96; refine (HK.out _).mono ?_; rintro e w1 ⟨rfl, hb3⟩)
        go_ret
        exact ⟨⟨_, rfl, by omega, ⟨fun _ => NB.out (by simp), fun _ => by omega⟩⟩, bel hb hb3⟩
      · go_wp2_with (go_at_call 96; refine (HK.out _).mono ?_; rintro e w1 ⟨rfl, hb3⟩)
        go_roundw
        case rel => exact ⟨bel hb hb3, j + 1, by omega, by go_num, NX.out (by simp)⟩
        case measure => simp [intOf]; omega
    · have : j = n := by omega
      subst this
      have HF : Hid (l.all mayP = true) := List.all_eq_true.2 fun q hq => by
        obtain ⟨i, hi, rfl⟩ := List.mem_iff_getElem.1 hq
        exact hp.out i hi (by rw [← HN.out]; exact hi)
      clear hp
      go_wp2
      go_ret
      exact ⟨⟨_, rfl, by omega, ⟨fun h => absurd h (by omega), fun h => absurd h (by rw [HF.out]; decide)⟩⟩, hb⟩

set_option maxRecDepth 100000 in
set_option maxHeartbeats 1000000 in
theorem contains_any (v : Value) (l : List Par) (hl : l.length ≤ 140737488351232) (hM : ∀ p ∈ l, p.name.size ≤ 140737488351232) (w : World) (hr : Rd w v l) :
    Calls Tryz.prog 95 #[v, .func (.func 96) #[] #[]] w fun e w' => e = .returned (.bool (!l.all mayP)) ∧ Below w.heap.size w w' := by
  have HK : Hid (Calls Tryz.prog 115 #[v, .func (.func 96) #[] #[]] w fun e w' => (∃ x : Int, e = .returned (.int .i64 x) ∧ -1 ≤ x ∧ (0 ≤ x ↔ l.all mayP = false)) ∧ Below w.heap.size w w') := indexFunc_any v l hl hM w hr
  obtain ⟨N, hN⟩ : ∃ N, l.all mayP = N := ⟨_, rfl⟩
  rw [hN] at HK ⊢
  clear hN
  go_enter Tryz.func95, Tryz.ntmps95
  go_wp2_with (go_at_call 115; refine HK.out.mono ?_; rintro e w1 ⟨⟨x, rfl, hx1, hx2⟩, hb1⟩; have HX : Hid (0 ≤ x ↔ N = false) := hx2; clear hx2)
  go_ret
  refine ⟨ret_bool ?_, hb1⟩
  have := HX.out
  cases N
  · simp only [Bool.not_false, decide_eq_true_eq]; exact this.2 rfl
  · simp only [Bool.not_true, decide_eq_false_iff_not]; intro h; exact absurd (this.1 h) (by decide)

end Go.Proofs.YtnlgkkbmbijndaaGreat
