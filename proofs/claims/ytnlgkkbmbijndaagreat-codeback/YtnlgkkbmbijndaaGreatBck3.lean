import Derived.Test.YtnlgkkbmbijndaaGreatBck2
/- Package ir: what fits a row: a register, N, Bits. -/
namespace Go.Proofs.YtnlgkkbmbijndaaGreat
open Go.RowKit
set_option linter.unusedVariables false
set_option linter.unusedSimpArgs false

theorem regT_at {l : List Ty} {n : Int} {k : Nat} (h : n = (k : Int)) (hk : k < l.length) : regT l n = l[k] := by
  subst h
  unfold regT
  rw [if_pos (isPl_iff.2 ⟨by omega, by omega⟩), Int.toNat_natCast, List.getElem?_eq_getElem hk]
  rfl
theorem pl_nat {n : Int} {k : Nat} (h : isPl n k = true) : ∃ m : Nat, n = (m : Int) ∧ m < k := by
  obtain ⟨h0, h1⟩ := isPl_iff.1 h
  exact ⟨n.toNat, by omega, by omega⟩

set_option maxRecDepth 100000 in
set_option maxHeartbeats 2000000 in
theorem fitsRegister_any (C : Nat) (v0 v1 v2 v3 : Value) (c : Cd) (hk : CdOk c) (l n : Int) (m : Ty) (w : World) (hc : CdAt w C v0 v1 v2 v3 c) :
    Calls Tryz.prog 103 #[.pointer (some ⟨C, 0, none⟩), .int .i64 l, .int .i64 n, tyV m] w fun e w' => e = .returned (.bool (fitsReg c.regs l n m)) ∧ Below w.heap.size w w' := by
  unfold fitsReg
  by_cases h0 : l = 0
  · subst h0
    rw [if_pos rfl]
    unfold tyV
    go_enter Tryz.func103, Tryz.ntmps103
    go_wp2
    go_ret
    exact ⟨rfl, bel_alloc _ _⟩
  rw [if_neg h0]
  have h0' : (l == 0) = false := by simpa using h0
  clear h0
  have HB := hk.regsL
  have K1 := isPlace_any n c.regs.length
  obtain ⟨hcc, hcv⟩ := hc
  have c1 := hcc.at 1 rfl
  rw [Nat.zero_add] at c1
  have hr := hcv.regs
  obtain ⟨p, q, rfl, hrr⟩ := hcv.regs
  have HN : Hid (c.regs.length = c.regs.length) := rfl
  obtain ⟨X, hX⟩ : ∃ X, isPl n c.regs.length = X := ⟨_, rfl⟩
  simp only [hX] at K1
  rw [hX]
  have hC := mcell_lt c1
  simp only at hC
  cases X
  · clear hr hrr hcc hcv
    obtain ⟨N, hN⟩ : ∃ N, c.regs.length = N := ⟨_, rfl⟩
    rw [hN] at K1 c1 HB
    have HK : Hid (∀ w, Calls Tryz.prog 118 #[.int .i64 n, .int .i64 N] w fun e w' => e = .returned (.bool false) ∧ w' = w) := K1
    clear hN K1 hX HN
    obtain ⟨A, B⟩ := m
    unfold tyV
    go_enter Tryz.func103, Tryz.ntmps103
    go_wp2
    have hC' : C ≠ w.heap.size := by omega
    refine wp_region_held_drew (S := (fun v => v.cell? ⟨C, 1, none⟩ = some (.slice p N q))) (by kernel_rfl) ?_ (fun hHeld => ?_)
    · ((try dsimp only); go_keep)
    refine wpAnyH_take (i := 0) (v := ?_) (by simp only [List.getElem?_toArray, List.getElem?_cons_succ, List.getElem?_cons_zero]; rfl) (by kernel_rfl) (by kernel_rfl) (by kernel_rfl) (by exact fun _ _ _ h => h) (Or.inl ⟨by rfl, ?_⟩) (by assumption) ?_
    rotate_left 1
    · (intro wS hSw; (try dsimp only at hSw); go_simp; try (with_reducible rfl))
    try simp only [Act.put, List.setIfInBounds_toArray, List.set_cons_zero, List.set_cons_succ]
    refine wpAnyH_take (i := 1) (v := ?_) (by simp only [List.getElem?_toArray, List.getElem?_cons_succ, List.getElem?_cons_zero]; rfl) (by kernel_rfl) (by kernel_rfl) (by kernel_rfl) (by exact fun _ _ _ h => h) (Or.inl ⟨by rfl, ?_⟩) (by assumption) ?_
    rotate_left 1
    · (intro wS hSw; (try dsimp only at hSw); go_simp; try (with_reducible rfl))
    try simp only [Act.put, List.setIfInBounds_toArray, List.set_cons_zero, List.set_cons_succ]
    refine wpAnyH_take (i := 2) (v := ?_) (by simp only [List.getElem?_toArray, List.getElem?_cons_succ, List.getElem?_cons_zero]; rfl) (by kernel_rfl) (by kernel_rfl) (by kernel_rfl) (by exact fun _ _ _ h => h) (Or.inl ⟨by rfl, ?_⟩) (by assumption) ?_
    rotate_left 1
    · (intro wS hSw; (try dsimp only at hSw); go_simp; try (with_reducible rfl))
    try simp only [Act.put, List.setIfInBounds_toArray, List.set_cons_zero, List.set_cons_succ]
    refine wpAnyH_take (i := 3) (v := ?_) (by simp only [List.getElem?_toArray, List.getElem?_cons_succ, List.getElem?_cons_zero]; rfl) (by kernel_rfl) (by kernel_rfl) (by kernel_rfl) (by exact fun _ _ _ h => h) (Or.inl ⟨by rfl, ?_⟩) (by assumption) ?_
    rotate_left 1
    · (intro wS hSw; (try dsimp only at hSw); go_simp; try (with_reducible rfl))
    try simp only [Act.put, List.setIfInBounds_toArray, List.set_cons_zero, List.set_cons_succ]
    refine wpAnyH_take (i := 4) (v := ?_) (by simp only [List.getElem?_toArray, List.getElem?_cons_succ, List.getElem?_cons_zero]; rfl) (by kernel_rfl) (by kernel_rfl) (by kernel_rfl) (by exact fun _ _ _ h => h) (Or.inl ⟨by rfl, ?_⟩) (by assumption) ?_
    rotate_left 1
    · (intro wS hSw; (try dsimp only at hSw); go_simp; try (with_reducible rfl))
    try simp only [Act.put, List.setIfInBounds_toArray, List.set_cons_zero, List.set_cons_succ]
    refine wpAnyH_take (i := 5) (v := ?_) (by simp only [List.getElem?_toArray, List.getElem?_cons_succ, List.getElem?_cons_zero]; rfl) (by kernel_rfl) (by kernel_rfl) (by kernel_rfl) (by exact fun _ _ _ h => h) (Or.inl ⟨by rfl, ?_⟩) (by assumption) ?_
    rotate_left 1
    · (intro wS hSw; (try dsimp only at hSw); go_simp; try (with_reducible rfl))
    try simp only [Act.put, List.setIfInBounds_toArray, List.set_cons_zero, List.set_cons_succ]
    clear hHeld
    refine wpAnyH_ready (rs := [6]) (by kernel_rfl) (by simp) ?_
    refine AllReadyH.cons (i := 6) (by simp only [List.getElem?_toArray, List.getElem?_cons_succ, List.getElem?_cons_zero]; rfl) (fun K hK => ?_) AllReadyH.nil
    go_simp
    (go_at_call 118; refine (HK.out _).mono ?_; rintro e w1 ⟨rfl, rfl⟩)
    try (go_wp2_with fail)
    refine hK.out _ _ ?_ (fun hHeld => ?_)
    · ((try dsimp only); go_keep)
    clear hK K
    try simp only [Act.put, List.setIfInBounds_toArray, List.set_cons_zero, List.set_cons_succ]
    refine wpAnyH_take (i := 7) (v := ?_) (by simp only [List.getElem?_toArray, List.getElem?_cons_succ, List.getElem?_cons_zero]; rfl) (by kernel_rfl) (by kernel_rfl) (by kernel_rfl) (by exact fun _ _ _ h => h) (Or.inl ⟨by rfl, ?_⟩) (by assumption) ?_
    rotate_left 1
    · (intro wS hSw; (try dsimp only at hSw); go_simp; try (with_reducible rfl))
    try simp only [Act.put, List.setIfInBounds_toArray, List.set_cons_zero, List.set_cons_succ]
    refine wpAnyH_take (i := 8) (v := undef) (by simp only [List.getElem?_toArray, List.getElem?_cons_succ, List.getElem?_cons_zero]; rfl) (by kernel_rfl) (by kernel_rfl) (by kernel_rfl) (by exact fun _ _ _ h => h) (Or.inr ⟨by rfl, rfl⟩) (by assumption) ?_
    try simp only [Act.put, List.setIfInBounds_toArray, List.set_cons_zero, List.set_cons_succ]
    refine wpAnyH_take (i := 9) (v := undef) (by simp only [List.getElem?_toArray, List.getElem?_cons_succ, List.getElem?_cons_zero]; rfl) (by kernel_rfl) (by kernel_rfl) (by kernel_rfl) (by exact fun _ _ _ h => h) (Or.inr ⟨by rfl, rfl⟩) (by assumption) ?_
    try simp only [Act.put, List.setIfInBounds_toArray, List.set_cons_zero, List.set_cons_succ]
    refine wpAnyH_take (i := 10) (v := undef) (by simp only [List.getElem?_toArray, List.getElem?_cons_succ, List.getElem?_cons_zero]; rfl) (by kernel_rfl) (by kernel_rfl) (by kernel_rfl) (by exact fun _ _ _ h => h) (Or.inr ⟨by rfl, rfl⟩) (by assumption) ?_
    try simp only [Act.put, List.setIfInBounds_toArray, List.set_cons_zero, List.set_cons_succ]
    refine wpAnyH_take (i := 11) (v := undef) (by simp only [List.getElem?_toArray, List.getElem?_cons_succ, List.getElem?_cons_zero]; rfl) (by kernel_rfl) (by kernel_rfl) (by kernel_rfl) (by exact fun _ _ _ h => h) (Or.inr ⟨by rfl, rfl⟩) (by assumption) ?_
    try simp only [Act.put, List.setIfInBounds_toArray, List.set_cons_zero, List.set_cons_succ]
    refine wpAnyH_take (i := 12) (v := undef) (by simp only [List.getElem?_toArray, List.getElem?_cons_succ, List.getElem?_cons_zero]; rfl) (by kernel_rfl) (by kernel_rfl) (by kernel_rfl) (by exact fun _ _ _ h => h) (Or.inr ⟨by rfl, rfl⟩) (by assumption) ?_
    try simp only [Act.put, List.setIfInBounds_toArray, List.set_cons_zero, List.set_cons_succ]
    refine wpAnyH_take (i := 13) (v := undef) (by simp only [List.getElem?_toArray, List.getElem?_cons_succ, List.getElem?_cons_zero]; rfl) (by kernel_rfl) (by kernel_rfl) (by kernel_rfl) (by exact fun _ _ _ h => h) (Or.inr ⟨by rfl, rfl⟩) (by assumption) ?_
    try simp only [Act.put, List.setIfInBounds_toArray, List.set_cons_zero, List.set_cons_succ]
    refine wpAnyH_take (i := 14) (v := undef) (by simp only [List.getElem?_toArray, List.getElem?_cons_succ, List.getElem?_cons_zero]; rfl) (by kernel_rfl) (by kernel_rfl) (by kernel_rfl) (by exact fun _ _ _ h => h) (Or.inr ⟨by rfl, rfl⟩) (by assumption) ?_
    try simp only [Act.put, List.setIfInBounds_toArray, List.set_cons_zero, List.set_cons_succ]
    refine wpAnyH_take (i := 15) (v := undef) (by simp only [List.getElem?_toArray, List.getElem?_cons_succ, List.getElem?_cons_zero]; rfl) (by kernel_rfl) (by kernel_rfl) (by kernel_rfl) (by exact fun _ _ _ h => h) (Or.inr ⟨by rfl, rfl⟩) (by assumption) ?_
    try simp only [Act.put, List.setIfInBounds_toArray, List.set_cons_zero, List.set_cons_succ]
    refine wpAnyH_take (i := 16) (v := undef) (by simp only [List.getElem?_toArray, List.getElem?_cons_succ, List.getElem?_cons_zero]; rfl) (by kernel_rfl) (by kernel_rfl) (by kernel_rfl) (by exact fun _ _ _ h => h) (Or.inr ⟨by rfl, rfl⟩) (by assumption) ?_
    try simp only [Act.put, List.setIfInBounds_toArray, List.set_cons_zero, List.set_cons_succ]
    refine wpAnyH_take (i := 17) (v := undef) (by simp only [List.getElem?_toArray, List.getElem?_cons_succ, List.getElem?_cons_zero]; rfl) (by kernel_rfl) (by kernel_rfl) (by kernel_rfl) (by exact fun _ _ _ h => h) (Or.inr ⟨by rfl, rfl⟩) (by assumption) ?_
    try simp only [Act.put, List.setIfInBounds_toArray, List.set_cons_zero, List.set_cons_succ]
    refine wpAnyH_take (i := 18) (v := ?_) (by simp only [List.getElem?_toArray, List.getElem?_cons_succ, List.getElem?_cons_zero]; rfl) (by kernel_rfl) (by kernel_rfl) (by kernel_rfl) (by exact fun _ _ _ h => h) (Or.inl ⟨by rfl, ?_⟩) (by assumption) ?_
    rotate_left 1
    · (intro wS hSw; (try dsimp only at hSw); go_simp; try (with_reducible rfl))
    try simp only [Act.put, List.setIfInBounds_toArray, List.set_cons_zero, List.set_cons_succ]
    refine wpAnyH_take (i := 19) (v := ?_) (by simp only [List.getElem?_toArray, List.getElem?_cons_succ, List.getElem?_cons_zero]; rfl) (by kernel_rfl) (by kernel_rfl) (by kernel_rfl) (by exact fun _ _ _ h => h) (Or.inl ⟨by rfl, ?_⟩) (by assumption) ?_
    rotate_left 1
    · (intro wS hSw; (try dsimp only at hSw); go_simp; try (with_reducible rfl))
    try simp only [Act.put, List.setIfInBounds_toArray, List.set_cons_zero, List.set_cons_succ]
    refine wpAnyH_done (by kernel_rfl) ?_ _
    go_wp2
    go_ret
    exact ⟨rfl, bel (bel_alloc _ _) (bel_d _)⟩
  · obtain ⟨k, hnk, hkl⟩ := pl_nat hX
    rw [regT_at hnk hkl]
    have hti : c.regs[k] = c.regs[k] := rfl
    obtain ⟨b, o, hp, hx⟩ := hr.at hkl
    subst hp
    subst hnk
    have x0 := hx.at 0 rfl
    have x1 := hx.at 1 rfl
    rw [Nat.add_zero] at x0
    have hbl := mcell_lt x0
    simp only at hbl
    have K2 := means_any l c.regs[k] m
    obtain ⟨T, hT⟩ : ∃ T, c.regs[k] = T := ⟨_, rfl⟩
    rw [hT] at x0 x1 K2 ⊢
    obtain ⟨N, hN⟩ : ∃ N, c.regs.length = N := ⟨_, rfl⟩
    rw [hN] at K1 c1 HB hkl
    have HK : Hid (∀ w, Calls Tryz.prog 118 #[.int .i64 (k : Int), .int .i64 N] w fun e w' => e = .returned (.bool true) ∧ w' = w) := K1
    clear hN K1 hX HN hr hrr hcc hcv hx hti hT
    obtain ⟨A, B⟩ := m
    obtain ⟨D, E⟩ := T
    unfold tyV at K2 ⊢
    simp only at x0 x1 K2 ⊢
    obtain ⟨Y, hY⟩ : ∃ Y, meansP l ⟨D, E⟩ ⟨A, B⟩ = Y := ⟨_, rfl⟩
    rw [hY] at K2 ⊢
    have HM : Hid (∀ w, Calls Tryz.prog 121 #[.int .i64 l, .agg #[.int .i64 D, .int .i64 E], .agg #[.int .i64 A, .int .i64 B]] w fun e w' => e = .returned (.bool Y) ∧ Below w.heap.size w w') := K2
    clear K2 hY
    have i1 : (0 : Int) ≤ (k : Int) := by omega
    have i2 : (k : Int) < (N : Int) := by omega
    have hC' : C ≠ w.heap.size := by omega
    have hb' : b ≠ w.heap.size := by omega
    have HC : Hid (∀ v, Below (w.alloc (.cells #[.int .i64 A, .int .i64 B] 62)).heap.size (w.alloc (.cells #[.int .i64 A, .int .i64 B] 62)) v → v.cell? ⟨C, 1, none⟩ = some (.slice (some ⟨b, o, none⟩) N q) ∧ v.cell? ⟨b, o + k * 2, none⟩ = some (.int .i64 D) ∧ v.cell? ⟨b, o + k * 2 + 1, none⟩ = some (.int .i64 E) ∧ v.cell? ⟨w.heap.size, 0, none⟩ = some (.int .i64 A) ∧ v.cell? ⟨w.heap.size, 1, none⟩ = some (.int .i64 B)) :=
      fun v hv => ⟨kc hv (kc (bel_alloc _ _) c1), kc hv (kc (bel_alloc _ _) x0), kc hv (kc (bel_alloc _ _) x1), kc hv (by simp [go_sem]), kc hv (by simp [go_sem])⟩
    go_enter Tryz.func103, Tryz.ntmps103
    go_wp2
    refine wp_region_held_drew (S := (fun v => v.cell? ⟨C, 1, none⟩ = some (.slice (some ⟨b, o, none⟩) N q) ∧ v.cell? ⟨b, o + k * 2, none⟩ = some (.int .i64 D) ∧ v.cell? ⟨b, o + k * 2 + 1, none⟩ = some (.int .i64 E) ∧ v.cell? ⟨w.heap.size, 0, none⟩ = some (.int .i64 A) ∧ v.cell? ⟨w.heap.size, 1, none⟩ = some (.int .i64 B))) (by kernel_rfl) ?_ (fun hHeld => ?_)
    · ((try dsimp only); go_keep)
    refine wpAnyH_take (i := 0) (v := ?_) (by simp only [List.getElem?_toArray, List.getElem?_cons_succ, List.getElem?_cons_zero]; rfl) (by kernel_rfl) (by kernel_rfl) (by kernel_rfl) (by exact fun _ _ _ h => h) (Or.inl ⟨by rfl, ?_⟩) (by assumption) ?_
    rotate_left 1
    · (intro wS hSw; (try dsimp only at hSw); go_simp; try (with_reducible rfl))
    try simp only [Act.put, List.setIfInBounds_toArray, List.set_cons_zero, List.set_cons_succ]
    refine wpAnyH_take (i := 1) (v := ?_) (by simp only [List.getElem?_toArray, List.getElem?_cons_succ, List.getElem?_cons_zero]; rfl) (by kernel_rfl) (by kernel_rfl) (by kernel_rfl) (by exact fun _ _ _ h => h) (Or.inl ⟨by rfl, ?_⟩) (by assumption) ?_
    rotate_left 1
    · (intro wS hSw; (try dsimp only at hSw); go_simp; try (with_reducible rfl))
    try simp only [Act.put, List.setIfInBounds_toArray, List.set_cons_zero, List.set_cons_succ]
    refine wpAnyH_take (i := 2) (v := ?_) (by simp only [List.getElem?_toArray, List.getElem?_cons_succ, List.getElem?_cons_zero]; rfl) (by kernel_rfl) (by kernel_rfl) (by kernel_rfl) (by exact fun _ _ _ h => h) (Or.inl ⟨by rfl, ?_⟩) (by assumption) ?_
    rotate_left 1
    · (intro wS hSw; (try dsimp only at hSw); go_simp; try (with_reducible rfl))
    try simp only [Act.put, List.setIfInBounds_toArray, List.set_cons_zero, List.set_cons_succ]
    refine wpAnyH_take (i := 3) (v := ?_) (by simp only [List.getElem?_toArray, List.getElem?_cons_succ, List.getElem?_cons_zero]; rfl) (by kernel_rfl) (by kernel_rfl) (by kernel_rfl) (by exact fun _ _ _ h => h) (Or.inl ⟨by rfl, ?_⟩) (by assumption) ?_
    rotate_left 1
    · (intro wS hSw; (try dsimp only at hSw); go_simp; try (with_reducible rfl))
    try simp only [Act.put, List.setIfInBounds_toArray, List.set_cons_zero, List.set_cons_succ]
    refine wpAnyH_take (i := 4) (v := ?_) (by simp only [List.getElem?_toArray, List.getElem?_cons_succ, List.getElem?_cons_zero]; rfl) (by kernel_rfl) (by kernel_rfl) (by kernel_rfl) (by exact fun _ _ _ h => h) (Or.inl ⟨by rfl, ?_⟩) (by assumption) ?_
    rotate_left 1
    · (intro wS hSw; (try dsimp only at hSw); go_simp; try (with_reducible rfl))
    try simp only [Act.put, List.setIfInBounds_toArray, List.set_cons_zero, List.set_cons_succ]
    refine wpAnyH_take (i := 5) (v := ?_) (by simp only [List.getElem?_toArray, List.getElem?_cons_succ, List.getElem?_cons_zero]; rfl) (by kernel_rfl) (by kernel_rfl) (by kernel_rfl) (by exact fun _ _ _ h => h) (Or.inl ⟨by rfl, ?_⟩) (by assumption) ?_
    rotate_left 1
    · (intro wS hSw; (try dsimp only at hSw); go_simp; try (with_reducible rfl))
    try simp only [Act.put, List.setIfInBounds_toArray, List.set_cons_zero, List.set_cons_succ]
    clear hHeld
    refine wpAnyH_ready (rs := [6]) (by kernel_rfl) (by simp) ?_
    refine AllReadyH.cons (i := 6) (by simp only [List.getElem?_toArray, List.getElem?_cons_succ, List.getElem?_cons_zero]; rfl) (fun K hK => ?_) AllReadyH.nil
    go_simp
    (go_at_call 118; refine (HK.out _).mono ?_; rintro e w1 ⟨rfl, rfl⟩)
    try (go_wp2_with fail)
    refine hK.out _ _ ?_ (fun hHeld => ?_)
    · ((try dsimp only); go_keep)
    clear hK K
    try simp only [Act.put, List.setIfInBounds_toArray, List.set_cons_zero, List.set_cons_succ]
    refine wpAnyH_take (i := 7) (v := ?_) (by simp only [List.getElem?_toArray, List.getElem?_cons_succ, List.getElem?_cons_zero]; rfl) (by kernel_rfl) (by kernel_rfl) (by kernel_rfl) (by exact fun _ _ _ h => h) (Or.inl ⟨by rfl, ?_⟩) (by assumption) ?_
    rotate_left 1
    · (intro wS hSw; (try dsimp only at hSw); go_simp; try (with_reducible rfl))
    try simp only [Act.put, List.setIfInBounds_toArray, List.set_cons_zero, List.set_cons_succ]
    refine wpAnyH_take (i := 8) (v := ?_) (by simp only [List.getElem?_toArray, List.getElem?_cons_succ, List.getElem?_cons_zero]; rfl) (by kernel_rfl) (by kernel_rfl) (by kernel_rfl) (by exact fun _ _ _ h => h) (Or.inl ⟨by rfl, ?_⟩) (by assumption) ?_
    rotate_left 1
    · (intro wS hSw; (try dsimp only at hSw); go_simp; try (with_reducible rfl))
    try simp only [Act.put, List.setIfInBounds_toArray, List.set_cons_zero, List.set_cons_succ]
    refine wpAnyH_take (i := 9) (v := ?_) (by simp only [List.getElem?_toArray, List.getElem?_cons_succ, List.getElem?_cons_zero]; rfl) (by kernel_rfl) (by kernel_rfl) (by kernel_rfl) (by exact fun _ _ _ h => h) (Or.inl ⟨by rfl, ?_⟩) (by assumption) ?_
    rotate_left 1
    · (intro wS hSw; (try dsimp only at hSw); go_simp; try (with_reducible rfl))
    try simp only [Act.put, List.setIfInBounds_toArray, List.set_cons_zero, List.set_cons_succ]
    refine wpAnyH_take (i := 10) (v := ?_) (by simp only [List.getElem?_toArray, List.getElem?_cons_succ, List.getElem?_cons_zero]; rfl) (by kernel_rfl) (by kernel_rfl) (by kernel_rfl) (by exact fun _ _ _ h => h) (Or.inl ⟨by rfl, ?_⟩) (by assumption) ?_
    rotate_left 1
    · (intro wS hSw; (try dsimp only at hSw); go_simp; try (with_reducible rfl))
    try simp only [Act.put, List.setIfInBounds_toArray, List.set_cons_zero, List.set_cons_succ]
    refine wpAnyH_take (i := 11) (v := ?_) (by simp only [List.getElem?_toArray, List.getElem?_cons_succ, List.getElem?_cons_zero]; rfl) (by kernel_rfl) (by kernel_rfl) (by kernel_rfl) (by exact fun _ _ _ h => h) (Or.inl ⟨by rfl, ?_⟩) (by assumption) ?_
    rotate_left 1
    · (intro wS hSw; (try dsimp only at hSw); go_simp; try (with_reducible rfl))
    try simp only [Act.put, List.setIfInBounds_toArray, List.set_cons_zero, List.set_cons_succ]
    refine wpAnyH_take (i := 12) (v := ?_) (by simp only [List.getElem?_toArray, List.getElem?_cons_succ, List.getElem?_cons_zero]; rfl) (by kernel_rfl) (by kernel_rfl) (by kernel_rfl) (by exact fun _ _ _ h => h) (Or.inl ⟨by rfl, ?_⟩) (by assumption) ?_
    rotate_left 1
    · (intro wS hSw; (try dsimp only at hSw); go_simp; try (with_reducible rfl))
    try simp only [Act.put, List.setIfInBounds_toArray, List.set_cons_zero, List.set_cons_succ]
    refine wpAnyH_take (i := 13) (v := ?_) (by simp only [List.getElem?_toArray, List.getElem?_cons_succ, List.getElem?_cons_zero]; rfl) (by kernel_rfl) (by kernel_rfl) (by kernel_rfl) (by exact fun _ _ _ h => h) (Or.inl ⟨by rfl, ?_⟩) (by assumption) ?_
    rotate_left 1
    · (intro wS hSw; (try dsimp only at hSw); go_simp; try (with_reducible rfl))
    try simp only [Act.put, List.setIfInBounds_toArray, List.set_cons_zero, List.set_cons_succ]
    refine wpAnyH_take (i := 14) (v := ?_) (by simp only [List.getElem?_toArray, List.getElem?_cons_succ, List.getElem?_cons_zero]; rfl) (by kernel_rfl) (by kernel_rfl) (by kernel_rfl) (by exact fun _ _ _ h => h) (Or.inl ⟨by rfl, ?_⟩) (by assumption) ?_
    rotate_left 1
    · (intro wS hSw; (try dsimp only at hSw); go_simp; try (with_reducible rfl))
    try simp only [Act.put, List.setIfInBounds_toArray, List.set_cons_zero, List.set_cons_succ]
    refine wpAnyH_take (i := 15) (v := ?_) (by simp only [List.getElem?_toArray, List.getElem?_cons_succ, List.getElem?_cons_zero]; rfl) (by kernel_rfl) (by kernel_rfl) (by kernel_rfl) (by exact fun _ _ _ h => h) (Or.inl ⟨by rfl, ?_⟩) (by assumption) ?_
    rotate_left 1
    · (intro wS hSw; (try dsimp only at hSw); go_simp; try (with_reducible rfl))
    try simp only [Act.put, List.setIfInBounds_toArray, List.set_cons_zero, List.set_cons_succ]
    refine wpAnyH_take (i := 16) (v := ?_) (by simp only [List.getElem?_toArray, List.getElem?_cons_succ, List.getElem?_cons_zero]; rfl) (by kernel_rfl) (by kernel_rfl) (by kernel_rfl) (by exact fun _ _ _ h => h) (Or.inl ⟨by rfl, ?_⟩) (by assumption) ?_
    rotate_left 1
    · (intro wS hSw; (try dsimp only at hSw); go_simp; try (with_reducible rfl))
    try simp only [Act.put, List.setIfInBounds_toArray, List.set_cons_zero, List.set_cons_succ]
    clear hHeld
    refine wpAnyH_ready (rs := [17]) (by kernel_rfl) (by simp) ?_
    refine AllReadyH.cons (i := 17) (by simp only [List.getElem?_toArray, List.getElem?_cons_succ, List.getElem?_cons_zero]; rfl) (fun K hK => ?_) AllReadyH.nil
    go_simp
    (go_at_call 121; refine (HM.out _).mono ?_; rintro e w1 ⟨rfl, hb1⟩; have HB1 := bel (bel_d _) hb1; obtain ⟨y0, y1, y2, y3, y4⟩ := HC.out w1 HB1)
    try (go_wp2_with fail)
    refine hK.out _ _ ?_ (fun hHeld => ?_)
    · ((try dsimp only); go_keep)
    clear hK K
    try simp only [Act.put, List.setIfInBounds_toArray, List.set_cons_zero, List.set_cons_succ]
    refine wpAnyH_take (i := 18) (v := ?_) (by simp only [List.getElem?_toArray, List.getElem?_cons_succ, List.getElem?_cons_zero]; rfl) (by kernel_rfl) (by kernel_rfl) (by kernel_rfl) (by exact fun _ _ _ h => h) (Or.inl ⟨by rfl, ?_⟩) (by assumption) ?_
    rotate_left 1
    · (intro wS hSw; (try dsimp only at hSw); go_simp; try (with_reducible rfl))
    try simp only [Act.put, List.setIfInBounds_toArray, List.set_cons_zero, List.set_cons_succ]
    refine wpAnyH_take (i := 19) (v := ?_) (by simp only [List.getElem?_toArray, List.getElem?_cons_succ, List.getElem?_cons_zero]; rfl) (by kernel_rfl) (by kernel_rfl) (by kernel_rfl) (by exact fun _ _ _ h => h) (Or.inl ⟨by rfl, ?_⟩) (by assumption) ?_
    rotate_left 1
    · (intro wS hSw; (try dsimp only at hSw); go_simp; try (with_reducible rfl))
    try simp only [Act.put, List.setIfInBounds_toArray, List.set_cons_zero, List.set_cons_succ]
    refine wpAnyH_done (by kernel_rfl) ?_ _
    go_wp2
    go_ret
    exact ⟨by simp, bel (bel_alloc _ _) HB1⟩

end Go.Proofs.YtnlgkkbmbijndaaGreat
/- Package ir: the main type; N and Bits. -/
namespace Go.Proofs.YtnlgkkbmbijndaaGreat
open Go.RowKit
set_option linter.unusedVariables false
set_option linter.unusedSimpArgs false

set_option maxRecDepth 100000 in
set_option maxHeartbeats 2000000 in
theorem mainType_core (C : Nat) (p : Option Addr) (N q : Nat) (l : List Ty) (b o : Nat) (i : Ins) (r : Rw) (w : World) (hN : l.length = N) (c1 : w.cell? ⟨C, 1, none⟩ = some (.slice p N q)) (hr : RowG 2 tyC w (.slice p N q) l) (hB : N ≤ 140737488351232) (hi : CellsAt w b o (inC i)) :
    Calls Tryz.prog 101 #[.pointer (some ⟨C, 0, none⟩), .pointer (some ⟨b, o, none⟩), rwV r] w fun e w' => e = .returned (tyV (mainT l i r)) ∧ Below w.heap.size w w' := by
  unfold mainT mainR
  have e1 := hi.at 1 rfl
  have e2 := hi.at 2 rfl
  have hC := mcell_lt c1
  have hb := mcell_lt e1
  simp only at hC hb
  have n1 : C ≠ w.heap.size := by omega
  have n2 : C ≠ w.heap.size + 1 := by omega
  have n3 : b ≠ w.heap.size := by omega
  have n4 : b ≠ w.heap.size + 1 := by omega
  clear hi hC hb
  obtain ⟨D, A, B, X, Y⟩ := r
  unfold rwV
  simp only
  have HA : Hid (∀ a v, w.cell? a = some v → ((w.alloc (.cells #[.int .i64 D, .int .i64 A, .int .i64 B, .int .i64 X, .int .i64 Y] 144)).alloc (.cells #[.int .i64 0, .int .i64 0] 62)).cell? a = some v) := fun a v h => kc (bel_alloc _ _) (kc (bel_alloc _ _) h)
  obtain ⟨x, hx⟩ : ∃ x, (if D = 0 then i.a else i.d) = x := ⟨_, rfl⟩
  rw [hx]
  have K1 := isPlace_any x N
  have HX : Hid ((D = 0 ∧ x = i.a) ∨ (D ≠ 0 ∧ x = i.d)) := by
    show _ ∨ _
    by_cases h : D = 0
    · rw [if_pos h] at hx; exact .inl ⟨h, hx.symm⟩
    · rw [if_neg h] at hx; exact .inr ⟨h, hx.symm⟩
  clear hx
  obtain ⟨P, hP⟩ : ∃ P, isPl x N = P := ⟨_, rfl⟩
  simp only [hP] at K1
  have HK : Hid (∀ w, Calls Tryz.prog 118 #[.int .i64 x, .int .i64 N] w fun e w' => e = .returned (.bool P) ∧ w' = w) := K1
  clear K1
  cases P
  · have HT : Hid (regT l x = ⟨0, 0⟩) := by show _ = _; unfold regT; rw [hN, hP]; rfl
    clear hP hr
    rcases HX.out with ⟨rfl, rfl⟩ | ⟨hD, rfl⟩
    · clear HX
      have f1 := HA.out _ _ e1
      have f2 := HA.out _ _ e2
      have f3 := HA.out _ _ c1
      go_enter Tryz.func101, Tryz.ntmps101
      go_wp2_with (go_at_call 118; refine (HK.out _).mono ?_; rintro e w1 ⟨rfl, rfl⟩)
      refine bodyPost_ret (by simp [results, Tryz.results101, go_sem, *]; try rfl) rfl ?_
      exact ⟨by rw [HT.out]; rfl, by go_grown⟩
    · clear HX
      have hD' : (D == 0) = false := by simpa using hD
      clear hD
      have f1 := HA.out _ _ e1
      have f2 := HA.out _ _ e2
      have f3 := HA.out _ _ c1
      go_enter Tryz.func101, Tryz.ntmps101
      go_wp2_with (go_at_call 118; refine (HK.out _).mono ?_; rintro e w1 ⟨rfl, rfl⟩)
      refine bodyPost_ret (by simp [results, Tryz.results101, go_sem, *]; try rfl) rfl ?_
      exact ⟨by rw [HT.out]; rfl, by go_grown⟩
  · obtain ⟨k, hxk, hk⟩ := pl_nat hP
    have hkl : k < l.length := by omega
    have HT : Hid (regT l x = l[k]) := regT_at hxk hkl
    obtain ⟨g, u, hp, hx⟩ := hr.at hkl
    subst hp
    have x0 := hx.at 0 rfl
    have x1 := hx.at 1 rfl
    rw [Nat.add_zero] at x0
    obtain ⟨T, hT⟩ : ∃ T, l[k] = T := ⟨_, rfl⟩
    rw [hT] at x0 x1 HT
    obtain ⟨E, G⟩ := T
    simp only at x0 x1
    have hg := mcell_lt x0
    simp only at hg
    have n5 : g ≠ w.heap.size := by omega
    have n6 : g ≠ w.heap.size + 1 := by omega
    have i1 : (0 : Int) ≤ (k : Int) := by omega
    have i2 : (k : Int) < (N : Int) := by omega
    clear hP hr hx hT hg hN hkl
    rcases HX.out with ⟨rfl, hv⟩ | ⟨hD, hv⟩
    · clear HX
      rw [← hv, hxk] at e2
      rw [hxk] at HK HT ⊢
      clear hv hxk
      have f1 := HA.out _ _ e1
      have f2 := HA.out _ _ e2
      have f3 := HA.out _ _ c1
      have f4 := HA.out _ _ x0
      have f5 := HA.out _ _ x1
      go_enter Tryz.func101, Tryz.ntmps101
      go_wp2_with (go_at_call 118; refine (HK.out _).mono ?_; rintro e w1 ⟨rfl, rfl⟩)
      refine bodyPost_ret (by simp [results, Tryz.results101, go_sem, *]; try rfl) rfl ?_
      exact ⟨by rw [HT.out]; rfl, by go_grown⟩
    · clear HX
      have hD' : (D == 0) = false := by simpa using hD
      rw [← hv, hxk] at e1
      rw [hxk] at HK HT ⊢
      clear hD hv hxk
      have f1 := HA.out _ _ e1
      have f2 := HA.out _ _ e2
      have f3 := HA.out _ _ c1
      have f4 := HA.out _ _ x0
      have f5 := HA.out _ _ x1
      go_enter Tryz.func101, Tryz.ntmps101
      go_wp2_with (go_at_call 118; refine (HK.out _).mono ?_; rintro e w1 ⟨rfl, rfl⟩)
      refine bodyPost_ret (by simp [results, Tryz.results101, go_sem, *]; try rfl) rfl ?_
      exact ⟨by rw [HT.out]; rfl, by go_grown⟩

theorem mainType_any (C : Nat) (v0 v1 v2 v3 : Value) (c : Cd) (hk : CdOk c) (b o : Nat) (i : Ins) (r : Rw) (w : World) (hc : CdAt w C v0 v1 v2 v3 c) (hi : CellsAt w b o (inC i)) :
    Calls Tryz.prog 101 #[.pointer (some ⟨C, 0, none⟩), .pointer (some ⟨b, o, none⟩), rwV r] w fun e w' => e = .returned (tyV (mainT c.regs i r)) ∧ Below w.heap.size w w' := by
  obtain ⟨hcc, hcv⟩ := hc
  have c1 := hcc.at 1 rfl
  rw [Nat.zero_add] at c1
  have hr := hcv.regs
  obtain ⟨p, q, rfl, hrr⟩ := hcv.regs
  exact mainType_core C p _ q c.regs b o i r w rfl c1 hr hk.regsL hi

end Go.Proofs.YtnlgkkbmbijndaaGreat
