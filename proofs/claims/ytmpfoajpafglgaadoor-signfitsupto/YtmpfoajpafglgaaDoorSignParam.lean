import Derived.Test.YtmpfoajpafglgaaDoorSignRefA
import Derived.Test.YtmpfoajpafglgaaDoorLexShelf
/- Package sign: names, parameters, numbers. -/
namespace Go.Proofs.YtmpfoajpafglgaaDoor
open Go.RowKit
set_option linter.unusedVariables false
set_option linter.unusedSimpArgs false

set_option maxRecDepth 100000 in
theorem idx4 (c : Int) (h0 : 0 ≤ c) (h1 : c ≤ 255) : (0 ≤ Lib.indexByte (⟨#[95, 46, 47, 45]⟩ : ByteArray).data.toList c.toNat.toUInt8) ↔ (c = 95 ∨ c = 46 ∨ c = 47 ∨ c = 45) := by
  obtain ⟨k, rfl⟩ : ∃ k : Nat, c = k := ⟨c.toNat, by omega⟩
  have hk : k < 256 := by omega
  have key : ∀ k : Fin 256, (0 ≤ Lib.indexByte [95, 46, 47, 45] k.val.toUInt8) ↔ ((k.val : Int) = 95 ∨ (k.val : Int) = 46 ∨ (k.val : Int) = 47 ∨ (k.val : Int) = 45) := by decide +kernel
  exact key ⟨k, hk⟩

set_option maxRecDepth 100000 in
set_option maxHeartbeats 2000000 in
theorem inName_any (c : Int) (h0 : 0 ≤ c) (h1 : c ≤ 255) (w : World) :
    Calls Tryd.prog 51 #[.int .u8 c] w fun e w' => e = .returned (.bool (pIn c)) ∧ w' = w := by
  have hX := idx4 c h0 h1
  have K := fun w => sh_strings_IndexByte ⟨#[95, 46, 47, 45]⟩ c w
  obtain ⟨x, hx⟩ : ∃ x, Lib.indexByte (⟨#[95, 46, 47, 45]⟩ : ByteArray).data.toList c.toNat.toUInt8 = x := ⟨_, rfl⟩
  rw [hx] at hX
  simp only [hx] at K
  have HK : Hid (∀ w, Calls Tryd.prog 60 #[.string ⟨#[95, 46, 47, 45]⟩, .int .u8 c] w fun e w' => e = .returned (.int .i64 x) ∧ w' = w) := K
  clear K hx
  have HP : Hid (∀ b : Bool, (b = true ↔ (97 ≤ c ∧ c ≤ 122 ∨ 65 ≤ c ∧ c ≤ 90 ∨ 48 ≤ c ∧ c ≤ 57 ∨ 0 ≤ x)) → b = pIn c) := fun b hb => by
    rw [Bool.eq_iff_iff, hb]
    unfold pIn
    simp only [Bool.or_eq_true, Bool.and_eq_true, decide_eq_true_eq, beq_iff_eq]
    omega
  have hcl : (c < 48) ∨ (48 ≤ c ∧ c ≤ 57) ∨ (57 < c ∧ c < 65) ∨ (65 ≤ c ∧ c ≤ 90) ∨ (90 < c ∧ c < 97) ∨ (97 ≤ c ∧ c ≤ 122) ∨ (122 < c) := by omega
  rcases hcl with h | h | h | h | h | h | h
  · have a1 : ¬ (65 : Int) ≤ c := by omega
    have a2 : ¬ (97 : Int) ≤ c := by omega
    have a3 : ¬ (48 : Int) ≤ c := by omega
    by_cases hx0 : 0 ≤ x
    all_goals
      go_enter Tryd.func51, Tryd.ntmps51
      go_wp2_with (go_at_call 60; refine (HK.out _).mono ?_; rintro e w1 ⟨rfl, rfl⟩)
      go_ret
      exact ⟨ret_bool (HP.out _ (by simp; omega)), rfl⟩
  · have a1 : ¬ (65 : Int) ≤ c := by omega
    have a2 : ¬ (97 : Int) ≤ c := by omega
    have a3 : (48 : Int) ≤ c := by omega
    have a4 : c ≤ (57 : Int) := by omega
    go_enter Tryd.func51, Tryd.ntmps51
    go_wp2_with (go_at_call 60; refine (HK.out _).mono ?_; rintro e w1 ⟨rfl, rfl⟩)
    go_ret
    exact ⟨ret_bool (HP.out _ (by simp; omega)), rfl⟩
  · have a1 : ¬ (65 : Int) ≤ c := by omega
    have a2 : ¬ (97 : Int) ≤ c := by omega
    have a3 : (48 : Int) ≤ c := by omega
    have a4 : ¬ c ≤ (57 : Int) := by omega
    by_cases hx0 : 0 ≤ x
    all_goals
      go_enter Tryd.func51, Tryd.ntmps51
      go_wp2_with (go_at_call 60; refine (HK.out _).mono ?_; rintro e w1 ⟨rfl, rfl⟩)
      go_ret
      exact ⟨ret_bool (HP.out _ (by simp; omega)), rfl⟩
  · have a1 : (65 : Int) ≤ c := by omega
    have a2 : ¬ (97 : Int) ≤ c := by omega
    have a3 : (48 : Int) ≤ c := by omega
    have a4 : ¬ c ≤ (57 : Int) := by omega
    have a5 : c ≤ (90 : Int) := by omega
    go_enter Tryd.func51, Tryd.ntmps51
    go_wp2_with (go_at_call 60; refine (HK.out _).mono ?_; rintro e w1 ⟨rfl, rfl⟩)
    go_ret
    exact ⟨ret_bool (HP.out _ (by simp; omega)), rfl⟩
  · have a1 : (65 : Int) ≤ c := by omega
    have a2 : ¬ (97 : Int) ≤ c := by omega
    have a3 : (48 : Int) ≤ c := by omega
    have a4 : ¬ c ≤ (57 : Int) := by omega
    have a5 : ¬ c ≤ (90 : Int) := by omega
    by_cases hx0 : 0 ≤ x
    all_goals
      go_enter Tryd.func51, Tryd.ntmps51
      go_wp2_with (go_at_call 60; refine (HK.out _).mono ?_; rintro e w1 ⟨rfl, rfl⟩)
      go_ret
      exact ⟨ret_bool (HP.out _ (by simp; omega)), rfl⟩
  · have a1 : (65 : Int) ≤ c := by omega
    have a2 : (97 : Int) ≤ c := by omega
    have a3 : (48 : Int) ≤ c := by omega
    have a4 : ¬ c ≤ (57 : Int) := by omega
    have a5 : ¬ c ≤ (90 : Int) := by omega
    have a6 : c ≤ (122 : Int) := by omega
    go_enter Tryd.func51, Tryd.ntmps51
    go_wp2_with (go_at_call 60; refine (HK.out _).mono ?_; rintro e w1 ⟨rfl, rfl⟩)
    go_ret
    exact ⟨ret_bool (HP.out _ (by simp; omega)), rfl⟩
  · have a1 : (65 : Int) ≤ c := by omega
    have a2 : (97 : Int) ≤ c := by omega
    have a3 : (48 : Int) ≤ c := by omega
    have a4 : ¬ c ≤ (57 : Int) := by omega
    have a5 : ¬ c ≤ (90 : Int) := by omega
    have a6 : ¬ c ≤ (122 : Int) := by omega
    by_cases hx0 : 0 ≤ x
    all_goals
      go_enter Tryd.func51, Tryd.ntmps51
      go_wp2_with (go_at_call 60; refine (HK.out _).mono ?_; rintro e w1 ⟨rfl, rfl⟩)
      go_ret
      exact ⟨ret_bool (HP.out _ (by simp; omega)), rfl⟩

set_option maxRecDepth 100000 in
set_option maxHeartbeats 2000000 in
theorem isName_any (s : ByteArray) (hs : s.size ≤ 140737488351232) (w : World) :
    Calls Tryd.prog 40 #[.string s] w fun e w' => e = .returned (.bool (namedP s)) ∧ w' = w := by
  by_cases h0 : s.size = 0
  · have he : s.toList.isEmpty = true := by rw [isEmpty_size]; simp [h0]
    have he2 : (s.toList == []) = true := by rw [nonempty]; simp [h0]
    have hf : namedP s = false := by unfold namedP; simp [h0]
    rw [hf]
    go_enter Tryd.func40, Tryd.ntmps40
    go_wp2
    all_goals (go_ret; exact ⟨rfl, rfl⟩)
  · have he : s.toList.isEmpty = false := by rw [isEmpty_size]; simp [h0]
    have he2 : (s.toList == []) = false := by rw [nonempty]; simp [h0]
    by_cases h64 : s.size ≤ 64
    · have h64' : ¬ ((64 : Int) < (s.size : Int)) := by omega
      go_enter Tryd.func40, Tryd.ntmps40
      go_wp2
      go_loopw [13] (fun iv wr => wr = w ∧ ∃ j : Nat, j ≤ s.size ∧ iv = .int .i64 j ∧ Hid (∀ i (h : i < s.size), i < j → pIn (s[i].toNat : Int) = true)) (fun iv _ => s.size - (intOf iv).toNat)
      case atStart => exact ⟨rfl, 0, Nat.zero_le _, rfl, fun i h hi => absurd hi (Nat.not_lt_zero _)⟩
      case round =>
        obtain ⟨rfl, j, hj, rfl, hp⟩ := hrel
        by_cases hlt : j < s.size
        · have i1 : (0 : Int) ≤ (j : Int) := by omega
          have i2 : (j : Int) < (s.size : Int) := by omega
          have hc2 : (s[j].toNat : Int) ≤ 255 := by have := s[j].toNat_lt; omega
          have K := fun w => inName_any (s[j].toNat : Int) (by omega) hc2 w
          have NX : Hid (pIn (s[j].toNat : Int) = true → ∀ i (h : i < s.size), i < j + 1 → pIn (s[i].toNat : Int) = true) := fun hq i h hi => by
            by_cases e : i = j
            · subst e; exact hq
            · exact hp.out i h (by omega)
          have NB : Hid (pIn (s[j].toNat : Int) = false → namedP s = false) := fun h => named_bad hlt h
          obtain ⟨N, hN⟩ : ∃ N, pIn (s[j].toNat : Int) = N := ⟨_, rfl⟩
          rw [hN] at NX NB
          simp only [hN] at K
          have HK : Hid (∀ w, Calls Tryd.prog 51 #[.int .u8 (s[j].toNat : Int)] w fun e w' => e = .returned (.bool N) ∧ w' = w) := K
          clear K hN hp hc2
          cases N
          · go_wp2_with (go_at_call 51; refine (HK.out _).mono ?_; rintro e w1 ⟨rfl, rfl⟩)
            go_ret
            exact ⟨ret_bool (NB.out (by simp)).symm, by first | rfl | trivial⟩
          · go_wp2_with (go_at_call 51; refine (HK.out _).mono ?_; rintro e w1 ⟨rfl, rfl⟩)
            go_roundw
            case rel => exact ⟨by first | rfl | trivial, j + 1, by omega, by go_num, NX.out (by simp)⟩
            case measure => simp [intOf]; omega
        · have : j = s.size := by omega
          subst this
          have HF : Hid (namedP s = true) := named_good h0 h64 fun i h => hp.out i h h
          clear hp
          go_wp2
          go_ret
          exact ⟨ret_bool HF.out.symm, rfl⟩
    · have h64' : (64 : Int) < (s.size : Int) := by omega
      have hf : namedP s = false := by unfold namedP; simp [h64]
      rw [hf]
      go_enter Tryd.func40, Tryd.ntmps40
      go_wp2
      all_goals (go_ret; exact ⟨rfl, rfl⟩)

set_option maxRecDepth 100000 in
set_option maxHeartbeats 2000000 in
theorem mayNot_any (p : Par) (hs : p.name.size ≤ 140737488351232) (w : World) :
    Calls Tryd.prog 27 #[pv p] w fun e w' => e = .returned (.bool (!mayP p)) ∧ Below w.heap.size w w' := by
  rw [may_eq]
  obtain ⟨X, K, L⟩ := p
  unfold pv
  have KN := isName_any X hs
  simp only
  obtain ⟨N, hN⟩ : ∃ N, namedP X = N := ⟨_, rfl⟩
  rw [hN] at KN ⊢
  have HK : Hid (∀ w, Calls Tryd.prog 40 #[.string X] w fun e w' => e = .returned (.bool N) ∧ w' = w) := KN
  clear KN hN
  have hk : ((K == 1) = true ∧ (K == 2) = false) ∨ ((K == 1) = false ∧ (K == 2) = true) ∨ ((K == 1) = false ∧ (K == 2) = false) := by
    by_cases a : K = 1
    · subst a; exact .inl ⟨rfl, rfl⟩
    · by_cases b : K = 2
      · subst b; exact .inr (.inl ⟨rfl, rfl⟩)
      · exact .inr (.inr ⟨by simpa using a, by simpa using b⟩)
  have hL : (1 ≤ L ∧ L ≤ 4096) ∨ (¬ 1 ≤ L ∧ L ≤ 4096) ∨ (1 ≤ L ∧ ¬ L ≤ 4096) := by omega
  cases N <;> rcases hk with ⟨h1, h2⟩ | ⟨h1, h2⟩ | ⟨h1, h2⟩ <;> rcases hL with ⟨h3, h4⟩ | ⟨h3, h4⟩ | ⟨h3, h4⟩
  all_goals
    go_enter Tryd.func27, Tryd.ntmps27
    go_wp2_with (go_at_call 40; refine (HK.out _).mono ?_; rintro e w1 ⟨rfl, rfl⟩)
    go_ret
    exact ⟨ret_bool (by simp [h1, h2, h3, h4]), bel_alloc _ _⟩

set_option maxRecDepth 100000 in
set_option maxHeartbeats 1000000 in
theorem sNumbers_any (p : Par) (hs : p.name.size ≤ 140737488351232) (w : World) :
    Calls Tryd.prog 15 #[pv p] w fun e w' => e = .returned (.int .i64 (numP p)) ∧ Below w.heap.size w w' := by
  have KM := mayNot_any p hs
  have hm : mayP p = true → 1 ≤ p.len ∧ p.len ≤ 4096 := fun h => by rw [may_eq] at h; simp at h; exact h.2
  have hn : numP p = if mayP p then (if p.kind == 2 then 2 * p.len else p.len) else 0 := rfl
  rw [hn]
  clear hn
  obtain ⟨N, hN⟩ : ∃ N, mayP p = N := ⟨_, rfl⟩
  rw [hN] at KM hm ⊢
  clear hN hs
  obtain ⟨X, K, L⟩ := p
  unfold pv at KM ⊢
  simp only at hm KM ⊢
  have HK : Hid (∀ w, Calls Tryd.prog 27 #[.agg #[.string X, .int .i64 K, .int .i64 L]] w fun e w' => e = .returned (.bool (!N)) ∧ Below w.heap.size w w') := KM
  clear KM
  cases N
  · clear hm
    go_enter Tryd.func15, Tryd.ntmps15
    go_wp2_with (go_at_call 27; refine (HK.out _).mono ?_; rintro e w1 ⟨rfl, hb1⟩)
    go_ret
    exact ⟨rfl, bel (bel_alloc _ _) hb1⟩
  · have hL := hm rfl
    clear hm
    cases h2 : (K == 2)
    · go_enter Tryd.func15, Tryd.ntmps15
      go_wp2_with (go_at_call 27; refine (HK.out _).mono ?_; rintro e w1 ⟨rfl, hb1⟩; have c1 : w1.cell? ⟨w.heap.size, 1, none⟩ = some (.int .i64 K) := (hb1.cell (by simp)).trans (by simp [go_sem]); have c2 : w1.cell? ⟨w.heap.size, 2, none⟩ = some (.int .i64 L) := (hb1.cell (by simp)).trans (by simp [go_sem]))
      go_ret
      exact ⟨rfl, bel (bel_alloc _ _) hb1⟩
    · have hw : IntKind.i64.wrap (2 * L) = 2 * L := by rw [IntKind.wrap_i64]; omega
      go_enter Tryd.func15, Tryd.ntmps15
      go_wp2_with (go_at_call 27; refine (HK.out _).mono ?_; rintro e w1 ⟨rfl, hb1⟩; have c1 : w1.cell? ⟨w.heap.size, 1, none⟩ = some (.int .i64 K) := (hb1.cell (by simp)).trans (by simp [go_sem]); have c2 : w1.cell? ⟨w.heap.size, 2, none⟩ = some (.int .i64 L) := (hb1.cell (by simp)).trans (by simp [go_sem]))
      go_ret
      exact ⟨ret_int (by simp), bel (bel_alloc _ _) hb1⟩

set_option maxRecDepth 100000 in
set_option maxHeartbeats 1000000 in
theorem sTotal_any (v : Value) (l : List Par) (hl : l.length ≤ 140737488351232) (hM : ∀ p ∈ l, p.name.size ≤ 140737488351232) (w : World) (hr : Rd w v l) :
    Calls Tryd.prog 13 #[v] w fun e w' => e = .returned (.int .i64 (totP l)) ∧ Below w.heap.size w w' := by
  obtain ⟨p, c, rfl, hr⟩ := hr
  obtain ⟨n, hn⟩ : ∃ n, l.length = n := ⟨_, rfl⟩
  rw [hn] at hl ⊢
  have HN : Hid (l.length = n) := hn
  have HR : Hid (Row w p l) := hr
  have HM : Hid (∀ p ∈ l, p.name.size ≤ 140737488351232) := hM
  clear hn hr hM
  go_enter Tryd.func13, Tryd.ntmps13
  go_wp2
  go_loopw [3, 8] (fun tv iv wr => Below w.heap.size w wr ∧ ∃ j : Nat, j ≤ n ∧ iv = .int .i64 j ∧ tv = .int .i64 (totP (l.take j))) (fun _ iv _ => n - (intOf iv).toNat)
  case atStart => exact ⟨bel0 w, 0, Nat.zero_le _, rfl, rfl⟩
  case round =>
    obtain ⟨hb, j, hj, rfl, rfl⟩ := hrel
    by_cases hlt : j < n
    · have hll : j < l.length := by rw [HN.out]; exact hlt
      obtain ⟨b, o, rfl, hx⟩ := HR.out.at hll
      obtain ⟨x0, x1, x2⟩ := hx.below hb
      have i1 : (0 : Int) ≤ (j : Int) := by omega
      have i2 : (j : Int) < (n : Int) := by omega
      have KN := sNumbers_any l[j] (HM.out _ (List.getElem_mem hll))
      unfold pv at KN
      have HK : Hid (∀ w, Calls Tryd.prog 15 #[.agg #[.string l[j].name, .int .i64 l[j].kind, .int .i64 l[j].len]] w fun e w' => e = .returned (.int .i64 (numP l[j])) ∧ Below w.heap.size w w') := KN
      have ht : totP (l.take (j + 1)) = totP (l.take j) + numP l[j] := by rw [take_succ hll, tot_snoc]
      have hb1 := tot_bounds (l.take j)
      have hb2 := num_bounds l[j]
      rw [List.length_take, HN.out, Nat.min_eq_left hj] at hb1
      obtain ⟨T, hT⟩ : ∃ T, totP (l.take j) = T := ⟨_, rfl⟩
      obtain ⟨U, hU⟩ : ∃ U, numP l[j] = U := ⟨_, rfl⟩
      rw [hT, hU] at ht
      rw [hT] at hb1 ⊢
      rw [hU] at hb2 HK
      have HT : Hid (totP (l.take (j + 1)) = T + U) := ht
      have hw1 : IntKind.i64.wrap (T + U) = T + U := by rw [IntKind.wrap_i64]; omega
      clear KN ht hT hU hx
      go_wp2_with (go_at_call 15; refine (HK.out _).mono ?_; rintro e w1 ⟨rfl, hb3⟩)
      go_roundw
      case rel => exact ⟨bel (bel hb (by go_grown)) hb3, j + 1, by omega, by go_num, by rw [HT.out]⟩
      case measure => simp [intOf]; omega
    · have : j = n := by omega
      subst this
      have HF : Hid (totP (l.take j) = totP l) := by show _ = _; rw [List.take_of_length_le (by rw [HN.out]; exact Nat.le_refl _)]
      go_wp2
      go_ret
      exact ⟨ret_int HF.out, hb⟩

end Go.Proofs.YtmpfoajpafglgaaDoor
