import Derived.Test.YtnogokikiekcbaaPart17
/- The reference's at, rows 3, 4. -/
namespace Go.Proofs.Ytnogokikiekcbaa
open Go.RowKit
set_option linter.unusedVariables false
set_option linter.unusedSimpArgs false

set_option maxRecDepth 100000 in
set_option maxHeartbeats 8000000 in
theorem rat_3 (t : Sc) (hop : t.op = 3) (n : Int) (hn0 : 0 ≤ n) (hn1 : n ≤ 2147483647) (a c d : Value) (hok : sok t) (hNl : t.nums.length ≤ 2147483648) (n0 n1 i0 i1 : Int) (hns : t.nums = [n0, n1]) (his : t.ints = [i0, i1]) (p0 : Pat n0) (p1 : Pat n1) (hs : 1 ≤ i0 ∧ i0 ≤ 2147483647) (hg : 0 ≤ i1 ∧ i1 ≤ 2147483647) (w : World) (hS : SV w t a c d) :
    Calls Try.prog 31 #[.agg #[.int .i64 t.op, a, c, d], .int .i64 n] w fun e w' => e = .returned (.int .i64 (expoV n0 n1 i0 i1 n)) ∧ Below w.heap.size w w' := by
  have HOP : Hid (t.op = 3) := hop
  have hx := box_heap w (.cells #[.int .i64 t.op, a, c, d] 26)
  have hb0 := bel_alloc w (.cells #[.int .i64 t.op, a, c, d] 26)
  obtain ⟨W, hW⟩ : ∃ W, w.alloc (.cells #[.int .i64 t.op, a, c, d] 26) = W := ⟨_, rfl⟩
  rw [hW] at hx hb0
  have hSW := hS.below hb0
  have HB0 : Hid (Below w.heap.size w W) := hb0
  have HX : Hid (∀ v, Below W.heap.size W v → v.cell? ⟨w.heap.size, 0, none⟩ = some (.int .i64 t.op) ∧ v.cell? ⟨w.heap.size, 1, none⟩ = some a ∧ v.cell? ⟨w.heap.size, 2, none⟩ = some c ∧ v.cell? ⟨w.heap.size, 3, none⟩ = some d) := fun v hv =>
    ⟨bcell (cell_heap hx 0) hv, bcell (cell_heap hx 1) hv, bcell (cell_heap hx 2) hv, bcell (cell_heap hx 3) hv⟩
  obtain ⟨pn, cn, rfl, hrn⟩ := hSW.nums
  have HRN : Hid (t.nums = [] ∨ ∃ b o, pn = some ⟨b, o, none⟩ ∧ ∀ i (h : i < t.nums.length), W.cell? ⟨b, o + i, none⟩ = some (.int .u32 t.nums[i])) := hrn
  have HSI : Hid (Row W .i64 c t.ints) := hSW.ints
  have HSK : Hid (SK W d t.kids) := hSW.kids
  have HPT : Hid (∀ x ∈ t.nums, Pat x) := fun x hx => hok.1.2.1 x hx
  obtain ⟨ti, hi2, hz2a, hz2b, hz2c⟩ := info_parts info_I8
  obtain ⟨N, hN⟩ : ∃ N, t.nums.length = N := ⟨_, rfl⟩
  have HN : Hid (t.nums.length = N) := hN
  rw [hN] at HX hNl hW ⊢
  have w1 : IntKind.i64.wrap (n - i1) = n - i1 := by rw [IntKind.wrap_i64]; omega
  obtain ⟨M, hM⟩ : ∃ M, max (n - i1) 0 = M := ⟨_, rfl⟩
  have hMb : 0 ≤ M ∧ M ≤ 2147483647 := by omega
  have hq1 : Int.tdiv M i0 = M / i0 := Int.tdiv_eq_ediv_of_nonneg hMb.1
  have hq2 : 0 ≤ M / i0 ∧ M / i0 ≤ 2147483647 := ⟨Int.ediv_nonneg hMb.1 (by omega), Int.le_trans (Int.ediv_le_self _ hMb.1) hMb.2⟩
  obtain ⟨Q, hQ⟩ : ∃ Q, M / i0 = Q := ⟨_, rfl⟩
  have HV : Hid (expoV n0 n1 i0 i1 n = fmul n0 (fpow n1 Q)) := by show _ = _; unfold expoV; rw [hM, hQ]
  rw [hQ] at hq1 hq2
  have w2 : IntKind.i64.wrap Q = Q := by rw [IntKind.wrap_i64]; omega
  have z1 : (i0 == 0) = false := by simp; omega
  have z1' : ¬ i0 = 0 := by omega
  rw [HV.out]
  clear HV hQ
  have hpw := pat_pow Q p1
  clear hS hSW hx hb0 hrn hN hop hok
  go_enter Try.func31, Try.ntmps31
  go_wp2
  go_loopw [5, 6] (fun lv iv wr => Below W.heap.size W wr ∧ ∃ (j : Nat) (ov : Value), ov = lv ∧ j ≤ N ∧ iv = .int .i64 j ∧ Hid (wr.ownsRow W.heap.size 3 1 ov j ((t.nums.take j).map (.int .i64)))) (fun _ iv _ => N - (intOf iv).toNat)
  case atStart => exact ⟨bel0 W, 0, _, rfl, Nat.zero_le _, rfl, (by show World.ownsRow _ _ _ _ _ _ _; rw [List.take_zero]; exact World.ownsRow_nil W _ _ 1)⟩
  case round =>
    obtain ⟨hb, j, ov, rfl, hj, rfl, HO⟩ := hrel
    obtain ⟨x0, x1, x2, x3⟩ := HX.out wr hb
    by_cases hlt0 : j < N
    · have hll : j < t.nums.length := by rw [HN.out]; exact hlt0
      obtain ⟨b, o, rfl, c1⟩ : ∃ b o, pn = some ⟨b, o, none⟩ ∧ wr.cell? ⟨b, o + j, none⟩ = some (.int .u32 t.nums[j]) := by
        rcases HRN.out with h | ⟨b, o, e, h⟩
        · rw [h] at hll; exact absurd hll (Nat.not_lt_zero _)
        · exact ⟨b, o, e, bcell (h j hll) hb⟩
      have hpx : Pat t.nums[j] := HPT.out _ (List.getElem_mem hll)
      have HTK : Hid ((t.nums.take (j + 1)).map (Value.int .i64) = (t.nums.take j).map (Value.int .i64) ++ [.int .i64 t.nums[j]]) := by show _ = _; rw [List.take_succ_eq_append_getElem hll, List.map_append]; rfl
      obtain ⟨y, hy⟩ : ∃ y, t.nums[j] = y := ⟨_, rfl⟩
      rw [hy] at c1 hpx HTK
      have ey : IntKind.i64.wrap y = y := by have := hpx.1; have := hpx.2; rw [IntKind.wrap_i64]; omega
      have i1 : (0 : Int) ≤ (j : Int) := by omega
      have i2' : (j : Int) < (N : Int) := by omega
      have hsz := hb.size
      clear hy HRN HSI HSK hpx
      go_wp2_with (at_builtin; refine wpList_append_lies _ rfl _ _ 23 rfl W.heap.size 3 ti _ 1 8 Try.underlying23 hi2 hz2a hz2b hz2c rfl (by decide) ov j ((t.nums.take j).map (Value.int .i64)) rfl (World.ownsRow.alloc HO.out _) ⟨wr.heap.size, 0, none⟩ 1 1 [.int .i64 y] rfl rfl (World.news_of_block (cs := #[.int .i64 y]) (t := 3) (fr := (0, 0)) (box_heap wr _)) (by simp [Value.oneCell']) (by decide) (by unfold maxLen; omega) (by omega) (by simp; omega) (wr.heap.size + 1) (by simp) ?_; intro g cap w4 hown4 hgrow hat hlt4)
      have HB4 : Hid (Below W.heap.size W w4) := Below.grown (bel hb (bel_alloc wr (.cells #[.int .i64 y] 3))) hgrow (by simp; omega) (fun k hk => (HO.out.lt k hk).1)
      have HO4 : Hid (w4.ownsRow W.heap.size 3 1 (.slice (some ⟨g, 0, none⟩) (j + 1) cap) (j + 1) ((t.nums.take (j + 1)).map (Value.int .i64))) := by show World.ownsRow _ _ _ _ _ _ _; rw [HTK.out]; exact hown4
      clear hown4 hgrow hat hlt4
      go_wp2
      go_roundw
      case rel => exact ⟨HB4.out, j + 1, _, rfl, by omega, by go_num, HO4.out⟩
      case measure => simp [intOf]; omega
    · have hjN : j = N := by omega
      have hrow : Row wr .i64 ov t.nums := by
        have h1 := HO.out
        rw [hjN] at h1
        rw [List.take_of_length_le (by rw [HN.out]; exact Nat.le_refl _), ← HN.out] at h1
        exact own_row h1
      have z9 : ¬ (j : Int) < (N : Int) := by omega
      have hop := HOP.out
      rw [hop] at x0 HX
      have HSIr : Hid (Row wr .i64 c t.ints) := HSI.out.below hb
      have HSKr : Hid (SK wr d t.kids) := HSK.out.below hb
      clear HO hlt0 hjN HRN HSI HSK hop HOP HPT hi2 hz2a hz2b hz2c
      obtain ⟨pl, cl, hcbl, hrbl⟩ := hrow
      rw [hns] at hcbl hrbl
      obtain ⟨bl, ol, rfl, hsbl⟩ : ∃ b o, pl = some ⟨b, o, none⟩ ∧ wr.cell? ⟨b, o, none⟩ = some (.int .i64 n0) ∧ wr.cell? ⟨b, o + 1, none⟩ = some (.int .i64 n1) := by
        rcases hrbl with h | ⟨b, o, e, h⟩
        · cases h
        · exact ⟨b, o, e, h 0 (by simp), h 1 (by simp)⟩
      obtain ⟨dn0, dn1⟩ := hsbl
      subst hcbl
      obtain ⟨pi, ci, hcbi, hrbi⟩ := HSIr.out
      rw [his] at hcbi hrbi
      obtain ⟨bi, oi, rfl, hsbi⟩ : ∃ b o, pi = some ⟨b, o, none⟩ ∧ wr.cell? ⟨b, o, none⟩ = some (.int .i64 i0) ∧ wr.cell? ⟨b, o + 1, none⟩ = some (.int .i64 i1) := by
        rcases hrbi with h | ⟨b, o, e, h⟩
        · cases h
        · exact ⟨b, o, e, h 0 (by simp), h 1 (by simp)⟩
      obtain ⟨di0, di1⟩ := hsbi
      subst hcbi
      have HC : Hid (∀ v, Below wr.heap.size wr v → v.cell? ⟨w.heap.size, 2, none⟩ = some (.slice (some ⟨bi, oi, none⟩) 2 ci) ∧ v.cell? ⟨bl, ol, none⟩ = some (.int .i64 n0) ∧ v.cell? ⟨bl, ol + 1, none⟩ = some (.int .i64 n1) ∧ v.cell? ⟨bi, oi, none⟩ = some (.int .i64 i0) ∧ v.cell? ⟨bi, oi + 1, none⟩ = some (.int .i64 i1)) := fun v hv => ⟨bcell x2 hv, bcell dn0 hv, bcell dn1 hv, bcell di0 hv, bcell di1 hv⟩
      clear x2 x3 dn0 dn1 di0 di1
      have HB : Below wr.heap.size wr wr := bel0 wr
      obtain ⟨e2, dn0, dn1, di0, di1⟩ := HC.out wr HB
      go_wp2
      refine wp_region_held_drew (S := (fun w' => w'.cell? ⟨w.heap.size, 2, none⟩ = some (.slice (some ⟨bi, oi, none⟩) 2 ci) ∧ w'.cell? ⟨bl, ol, none⟩ = some (.int .i64 n0) ∧ w'.cell? ⟨bl, ol + 1, none⟩ = some (.int .i64 n1) ∧ w'.cell? ⟨bi, oi, none⟩ = some (.int .i64 i0) ∧ w'.cell? ⟨bi, oi + 1, none⟩ = some (.int .i64 i1))) (by kernel_rfl) ?_ (fun hHeld => ?_)
      · ((try dsimp only); go_keep)
      refine wpAnyH_take (i := 0) (v := ?_) (by simp only [List.getElem?_toArray, List.getElem?_cons_succ, List.getElem?_cons_zero]; rfl) (by kernel_rfl) (by kernel_rfl) (by kernel_rfl) (by exact fun _ _ _ h => h) (Or.inl ⟨by rfl, ?_⟩) (by assumption) ?_
      rotate_left 1
      · (intro wS hSw; (try dsimp only at hSw); go_simp; try (with_reducible rfl))
      try simp only [Act.put, List.setIfInBounds_toArray, List.set_cons_zero, List.set_cons_succ]
      refine wpAnyH_take (i := 1) (v := ?_) (by simp only [List.getElem?_toArray, List.getElem?_cons_succ, List.getElem?_cons_zero]; rfl) (by kernel_rfl) (by kernel_rfl) (by kernel_rfl) (by exact fun _ _ _ h => h) (Or.inl ⟨by rfl, ?_⟩) (by assumption) ?_
      rotate_left 1
      · (intro wS hSw; (try dsimp only at hSw); go_simp; try (with_reducible rfl))
      try simp only [Act.put, List.setIfInBounds_toArray, List.set_cons_zero, List.set_cons_succ]
      refine wpAnyH_take (i := 2) (v := ?_) (by simp only [List.getElem?_toArray, List.getElem?_cons_succ, List.getElem?_cons_zero]; rfl) (by kernel_rfl) (by kernel_rfl) (by kernel_rfl) (by exact fun _ _ _ h => h) (Or.inl ⟨by rfl, ?_⟩) (by assumption) ?_
      rotate_left 1
      · (intro wS hSw; (try dsimp only at hSw); go_simp; try (with_reducible rfl))
      try simp only [Act.put, List.setIfInBounds_toArray, List.set_cons_zero, List.set_cons_succ]
      refine wpAnyH_take (i := 3) (v := ?_) (by simp only [List.getElem?_toArray, List.getElem?_cons_succ, List.getElem?_cons_zero]; rfl) (by kernel_rfl) (by kernel_rfl) (by kernel_rfl) (by exact fun _ _ _ h => h) (Or.inl ⟨by rfl, ?_⟩) (by assumption) ?_
      rotate_left 1
      · (intro wS hSw; (try dsimp only at hSw); go_simp; try (with_reducible rfl))
      try simp only [Act.put, List.setIfInBounds_toArray, List.set_cons_zero, List.set_cons_succ]
      refine wpAnyH_take (i := 4) (v := ?_) (by simp only [List.getElem?_toArray, List.getElem?_cons_succ, List.getElem?_cons_zero]; rfl) (by kernel_rfl) (by kernel_rfl) (by kernel_rfl) (by exact fun _ _ _ h => h) (Or.inl ⟨by rfl, ?_⟩) (by assumption) ?_
      rotate_left 1
      · (intro wS hSw; (try dsimp only at hSw); go_simp; try (with_reducible rfl))
      try simp only [Act.put, List.setIfInBounds_toArray, List.set_cons_zero, List.set_cons_succ]
      refine wpAnyH_take (i := 5) (v := ?_) (by simp only [List.getElem?_toArray, List.getElem?_cons_succ, List.getElem?_cons_zero]; rfl) (by kernel_rfl) (by kernel_rfl) (by kernel_rfl) (by exact fun _ _ _ h => h) (Or.inl ⟨by rfl, ?_⟩) (by assumption) ?_
      rotate_left 1
      · (intro wS hSw; (try dsimp only at hSw); go_simp; try (with_reducible rfl))
      try simp only [Act.put, List.setIfInBounds_toArray, List.set_cons_zero, List.set_cons_succ]
      refine wpAnyH_take (i := 7) (v := ?_) (by simp only [List.getElem?_toArray, List.getElem?_cons_succ, List.getElem?_cons_zero]; rfl) (by kernel_rfl) (by kernel_rfl) (by kernel_rfl) (by exact fun _ _ _ h => h) (Or.inl ⟨by rfl, ?_⟩) (by assumption) ?_
      rotate_left 1
      · (intro wS hSw; (try dsimp only at hSw); go_simp; try (with_reducible rfl))
      try simp only [Act.put, List.setIfInBounds_toArray, List.set_cons_zero, List.set_cons_succ]
      refine wpAnyH_take (i := 8) (v := ?_) (by simp only [List.getElem?_toArray, List.getElem?_cons_succ, List.getElem?_cons_zero]; rfl) (by kernel_rfl) (by kernel_rfl) (by kernel_rfl) (by exact fun _ _ _ h => h) (Or.inl ⟨by rfl, ?_⟩) (by assumption) ?_
      rotate_left 1
      · (intro wS hSw; (try dsimp only at hSw); go_simp; try (with_reducible rfl))
      try simp only [Act.put, List.setIfInBounds_toArray, List.set_cons_zero, List.set_cons_succ]
      refine wpAnyH_take (i := 9) (v := ?_) (by simp only [List.getElem?_toArray, List.getElem?_cons_succ, List.getElem?_cons_zero]; rfl) (by kernel_rfl) (by kernel_rfl) (by kernel_rfl) (by exact fun _ _ _ h => h) (Or.inl ⟨by rfl, ?_⟩) (by assumption) ?_
      rotate_left 1
      · (intro wS hSw; (try dsimp only at hSw); go_simp; try (with_reducible rfl))
      try simp only [Act.put, List.setIfInBounds_toArray, List.set_cons_zero, List.set_cons_succ]
      refine wpAnyH_take (i := 10) (v := ?_) (by simp only [List.getElem?_toArray, List.getElem?_cons_succ, List.getElem?_cons_zero]; rfl) (by kernel_rfl) (by kernel_rfl) (by kernel_rfl) (by exact fun _ _ _ h => h) (Or.inl ⟨by rfl, ?_⟩) (by assumption) ?_
      rotate_left 1
      · (intro wS hSw; (try dsimp only at hSw); go_simp; try (with_reducible rfl))
      try simp only [Act.put, List.setIfInBounds_toArray, List.set_cons_zero, List.set_cons_succ]
      clear hHeld
      refine wpAnyH_ready (rs := [6]) (by kernel_rfl) (by simp) ?_
      refine AllReadyH.cons (i := 6) (by simp only [List.getElem?_toArray, List.getElem?_cons_succ, List.getElem?_cons_zero]; rfl) (fun K hK => ?_) AllReadyH.nil
      go_simp
      refine hK.out _ _ ?_ (fun hHeld => ?_)
      · ((try dsimp only); go_keep)
      clear hK K
      try simp only [Act.put, List.setIfInBounds_toArray, List.set_cons_zero, List.set_cons_succ]
      clear hHeld
      refine wpAnyH_ready (rs := [11]) (by kernel_rfl) (by simp) ?_
      refine AllReadyH.cons (i := 11) (by simp only [List.getElem?_toArray, List.getElem?_cons_succ, List.getElem?_cons_zero]; rfl) (fun K hK => ?_) AllReadyH.nil
      go_simp
      refine hK.out _ _ ?_ (fun hHeld => ?_)
      · ((try dsimp only); go_keep)
      clear hK K
      try simp only [Act.put, List.setIfInBounds_toArray, List.set_cons_zero, List.set_cons_succ]
      refine wpAnyH_take (i := 12) (v := ?_) (by simp only [List.getElem?_toArray, List.getElem?_cons_succ, List.getElem?_cons_zero]; rfl) (by kernel_rfl) (by kernel_rfl) (by kernel_rfl) (by exact fun _ _ _ h => h) (Or.inl ⟨by rfl, ?_⟩) (by assumption) ?_
      rotate_left 1
      · (intro wS hSw; (try dsimp only at hSw); go_simp; try (with_reducible rfl))
      try simp only [Act.put, List.setIfInBounds_toArray, List.set_cons_zero, List.set_cons_succ]
      refine wpAnyH_done (by kernel_rfl) ?_ _
      clear HB
      have HB : Below wr.heap.size wr wr.drew := bel_d wr
      obtain ⟨e2, dn0, dn1, di0, di1⟩ := HC.out wr.drew HB
      go_wp2
      all_goals go_region_held3 (fun w' => w'.cell? ⟨w.heap.size, 2, none⟩ = some (.slice (some ⟨bi, oi, none⟩) 2 ci) ∧ w'.cell? ⟨bl, ol, none⟩ = some (.int .i64 n0) ∧ w'.cell? ⟨bl, ol + 1, none⟩ = some (.int .i64 n1) ∧ w'.cell? ⟨bi, oi, none⟩ = some (.int .i64 i0) ∧ w'.cell? ⟨bi, oi + 1, none⟩ = some (.int .i64 i1)) (go_keep) (first | (go_at_call 62; refine (r_pow (by with_reducible first | assumption | exact pat_add _ _ | exact pat_sub _ _ | exact pat_mul _ _ | exact pat_div _ _ | exact pat_sqrt _ | exact pat_from _ | exact pat_rat _ _ | exact pat_qrt _ | exact pat_qrN _ _ | exact pat_0 | exact pat_1 | exact pat_h) (by constructor <;> omega) _).mono ?_; rintro e wx ⟨rfl, hbx⟩; have HB : Below wr.heap.size wr wx := (by first | exact bel HB hbx | exact bel (bel HB (bel_d _)) hbx | exact bel (bel (bel HB (bel_d _)) (bel_d _)) hbx); obtain ⟨e2, dn0, dn1, di0, di1⟩ := HC.out wx HB) | (go_at_call 26; refine (r_mul (by with_reducible first | assumption | exact pat_add _ _ | exact pat_sub _ _ | exact pat_mul _ _ | exact pat_div _ _ | exact pat_sqrt _ | exact pat_from _ | exact pat_rat _ _ | exact pat_qrt _ | exact pat_qrN _ _ | exact pat_0 | exact pat_1 | exact pat_h) (by with_reducible first | assumption | exact pat_add _ _ | exact pat_sub _ _ | exact pat_mul _ _ | exact pat_div _ _ | exact pat_sqrt _ | exact pat_from _ | exact pat_rat _ _ | exact pat_qrt _ | exact pat_qrN _ _ | exact pat_0 | exact pat_1 | exact pat_h) _).mono ?_; rintro e wx ⟨rfl, hbx⟩; have HB : Below wr.heap.size wr wx := (by first | exact bel HB hbx | exact bel (bel HB (bel_d _)) hbx | exact bel (bel (bel HB (bel_d _)) (bel_d _)) hbx); obtain ⟨e2, dn0, dn1, di0, di1⟩ := HC.out wx HB))
      all_goals go_wp2
      all_goals go_ret
      all_goals exact ⟨rfl, bel HB0.out (bel hb HB)⟩

set_option maxRecDepth 100000 in
set_option maxHeartbeats 8000000 in
theorem rat_4 (t : Sc) (hop : t.op = 4) (n : Int) (hn0 : 0 ≤ n) (hn1 : n ≤ 2147483647) (a c d : Value) (hok : sok t) (hNl : t.nums.length ≤ 2147483648) (n0 n1 i0 : Int) (hns : t.nums = [n0, n1]) (his : t.ints = [i0]) (p0 : Pat n0) (p1 : Pat n1) (hs : 1 ≤ i0 ∧ i0 ≤ 2147483647) (w : World) (hS : SV w t a c d) :
    Calls Try.prog 31 #[.agg #[.int .i64 t.op, a, c, d], .int .i64 n] w fun e w' => e = .returned (.int .i64 (cosV n0 n1 i0 n)) ∧ Below w.heap.size w w' := by
  have HOP : Hid (t.op = 4) := hop
  have hx := box_heap w (.cells #[.int .i64 t.op, a, c, d] 26)
  have hb0 := bel_alloc w (.cells #[.int .i64 t.op, a, c, d] 26)
  obtain ⟨W, hW⟩ : ∃ W, w.alloc (.cells #[.int .i64 t.op, a, c, d] 26) = W := ⟨_, rfl⟩
  rw [hW] at hx hb0
  have hSW := hS.below hb0
  have HB0 : Hid (Below w.heap.size w W) := hb0
  have HX : Hid (∀ v, Below W.heap.size W v → v.cell? ⟨w.heap.size, 0, none⟩ = some (.int .i64 t.op) ∧ v.cell? ⟨w.heap.size, 1, none⟩ = some a ∧ v.cell? ⟨w.heap.size, 2, none⟩ = some c ∧ v.cell? ⟨w.heap.size, 3, none⟩ = some d) := fun v hv =>
    ⟨bcell (cell_heap hx 0) hv, bcell (cell_heap hx 1) hv, bcell (cell_heap hx 2) hv, bcell (cell_heap hx 3) hv⟩
  obtain ⟨pn, cn, rfl, hrn⟩ := hSW.nums
  have HRN : Hid (t.nums = [] ∨ ∃ b o, pn = some ⟨b, o, none⟩ ∧ ∀ i (h : i < t.nums.length), W.cell? ⟨b, o + i, none⟩ = some (.int .u32 t.nums[i])) := hrn
  have HSI : Hid (Row W .i64 c t.ints) := hSW.ints
  have HSK : Hid (SK W d t.kids) := hSW.kids
  have HPT : Hid (∀ x ∈ t.nums, Pat x) := fun x hx => hok.1.2.1 x hx
  obtain ⟨ti, hi2, hz2a, hz2b, hz2c⟩ := info_parts info_I8
  obtain ⟨N, hN⟩ : ∃ N, t.nums.length = N := ⟨_, rfl⟩
  have HN : Hid (t.nums.length = N) := hN
  rw [hN] at HX hNl hW ⊢
  obtain ⟨M, hM⟩ : ∃ M, min n i0 = M := ⟨_, rfl⟩
  have hMb : 0 ≤ M ∧ M ≤ 2147483647 := by omega
  have HV : Hid (cosV n0 n1 i0 n = fmul (fadd (fmul (fsub 1065353216 n1) (fmul 1056964608 (fadd 1065353216 (wave (fdiv (ffrom M) (ffrom i0)))))) n1) n0) := by show _ = _; unfold cosV; rw [hM]; rfl
  rw [HV.out]
  clear HV
  have hpw := pat_wave (pat_div (ffrom M) (ffrom i0))
  clear hS hSW hx hb0 hrn hN hop hok
  go_enter Try.func31, Try.ntmps31
  go_wp2
  go_loopw [5, 6] (fun lv iv wr => Below W.heap.size W wr ∧ ∃ (j : Nat) (ov : Value), ov = lv ∧ j ≤ N ∧ iv = .int .i64 j ∧ Hid (wr.ownsRow W.heap.size 3 1 ov j ((t.nums.take j).map (.int .i64)))) (fun _ iv _ => N - (intOf iv).toNat)
  case atStart => exact ⟨bel0 W, 0, _, rfl, Nat.zero_le _, rfl, (by show World.ownsRow _ _ _ _ _ _ _; rw [List.take_zero]; exact World.ownsRow_nil W _ _ 1)⟩
  case round =>
    obtain ⟨hb, j, ov, rfl, hj, rfl, HO⟩ := hrel
    obtain ⟨x0, x1, x2, x3⟩ := HX.out wr hb
    by_cases hlt0 : j < N
    · have hll : j < t.nums.length := by rw [HN.out]; exact hlt0
      obtain ⟨b, o, rfl, c1⟩ : ∃ b o, pn = some ⟨b, o, none⟩ ∧ wr.cell? ⟨b, o + j, none⟩ = some (.int .u32 t.nums[j]) := by
        rcases HRN.out with h | ⟨b, o, e, h⟩
        · rw [h] at hll; exact absurd hll (Nat.not_lt_zero _)
        · exact ⟨b, o, e, bcell (h j hll) hb⟩
      have hpx : Pat t.nums[j] := HPT.out _ (List.getElem_mem hll)
      have HTK : Hid ((t.nums.take (j + 1)).map (Value.int .i64) = (t.nums.take j).map (Value.int .i64) ++ [.int .i64 t.nums[j]]) := by show _ = _; rw [List.take_succ_eq_append_getElem hll, List.map_append]; rfl
      obtain ⟨y, hy⟩ : ∃ y, t.nums[j] = y := ⟨_, rfl⟩
      rw [hy] at c1 hpx HTK
      have ey : IntKind.i64.wrap y = y := by have := hpx.1; have := hpx.2; rw [IntKind.wrap_i64]; omega
      have i1 : (0 : Int) ≤ (j : Int) := by omega
      have i2' : (j : Int) < (N : Int) := by omega
      have hsz := hb.size
      clear hy HRN HSI HSK hpx
      go_wp2_with (at_builtin; refine wpList_append_lies _ rfl _ _ 23 rfl W.heap.size 3 ti _ 1 8 Try.underlying23 hi2 hz2a hz2b hz2c rfl (by decide) ov j ((t.nums.take j).map (Value.int .i64)) rfl (World.ownsRow.alloc HO.out _) ⟨wr.heap.size, 0, none⟩ 1 1 [.int .i64 y] rfl rfl (World.news_of_block (cs := #[.int .i64 y]) (t := 3) (fr := (0, 0)) (box_heap wr _)) (by simp [Value.oneCell']) (by decide) (by unfold maxLen; omega) (by omega) (by simp; omega) (wr.heap.size + 1) (by simp) ?_; intro g cap w4 hown4 hgrow hat hlt4)
      have HB4 : Hid (Below W.heap.size W w4) := Below.grown (bel hb (bel_alloc wr (.cells #[.int .i64 y] 3))) hgrow (by simp; omega) (fun k hk => (HO.out.lt k hk).1)
      have HO4 : Hid (w4.ownsRow W.heap.size 3 1 (.slice (some ⟨g, 0, none⟩) (j + 1) cap) (j + 1) ((t.nums.take (j + 1)).map (Value.int .i64))) := by show World.ownsRow _ _ _ _ _ _ _; rw [HTK.out]; exact hown4
      clear hown4 hgrow hat hlt4
      go_wp2
      go_roundw
      case rel => exact ⟨HB4.out, j + 1, _, rfl, by omega, by go_num, HO4.out⟩
      case measure => simp [intOf]; omega
    · have hjN : j = N := by omega
      have hrow : Row wr .i64 ov t.nums := by
        have h1 := HO.out
        rw [hjN] at h1
        rw [List.take_of_length_le (by rw [HN.out]; exact Nat.le_refl _), ← HN.out] at h1
        exact own_row h1
      have z9 : ¬ (j : Int) < (N : Int) := by omega
      have hop := HOP.out
      rw [hop] at x0 HX
      have HSIr : Hid (Row wr .i64 c t.ints) := HSI.out.below hb
      have HSKr : Hid (SK wr d t.kids) := HSK.out.below hb
      clear HO hlt0 hjN HRN HSI HSK hop HOP HPT hi2 hz2a hz2b hz2c
      obtain ⟨pl, cl, hcbl, hrbl⟩ := hrow
      rw [hns] at hcbl hrbl
      obtain ⟨bl, ol, rfl, hsbl⟩ : ∃ b o, pl = some ⟨b, o, none⟩ ∧ wr.cell? ⟨b, o, none⟩ = some (.int .i64 n0) ∧ wr.cell? ⟨b, o + 1, none⟩ = some (.int .i64 n1) := by
        rcases hrbl with h | ⟨b, o, e, h⟩
        · cases h
        · exact ⟨b, o, e, h 0 (by simp), h 1 (by simp)⟩
      obtain ⟨dn0, dn1⟩ := hsbl
      subst hcbl
      obtain ⟨pi, ci, hcbi, hrbi⟩ := HSIr.out
      rw [his] at hcbi hrbi
      obtain ⟨bi, oi, rfl, hsbi⟩ : ∃ b o, pi = some ⟨b, o, none⟩ ∧ wr.cell? ⟨b, o, none⟩ = some (.int .i64 i0) := by
        rcases hrbi with h | ⟨b, o, e, h⟩
        · cases h
        · exact ⟨b, o, e, h 0 (by simp)⟩
      have di0 := hsbi
      subst hcbi
      have HC : Hid (∀ v, Below wr.heap.size wr v → v.cell? ⟨w.heap.size, 2, none⟩ = some (.slice (some ⟨bi, oi, none⟩) 1 ci) ∧ v.cell? ⟨bl, ol, none⟩ = some (.int .i64 n0) ∧ v.cell? ⟨bl, ol + 1, none⟩ = some (.int .i64 n1) ∧ v.cell? ⟨bi, oi, none⟩ = some (.int .i64 i0)) := fun v hv => ⟨bcell x2 hv, bcell dn0 hv, bcell dn1 hv, bcell di0 hv⟩
      clear x2 x3 dn0 dn1 di0
      have HB : Below wr.heap.size wr wr := bel0 wr
      obtain ⟨e2, dn0, dn1, di0⟩ := HC.out wr HB
      go_wp2
      all_goals go_region_held3 (fun w' => w'.cell? ⟨w.heap.size, 2, none⟩ = some (.slice (some ⟨bi, oi, none⟩) 1 ci) ∧ w'.cell? ⟨bl, ol, none⟩ = some (.int .i64 n0) ∧ w'.cell? ⟨bl, ol + 1, none⟩ = some (.int .i64 n1) ∧ w'.cell? ⟨bi, oi, none⟩ = some (.int .i64 i0)) (go_keep) (first | (go_at_call 61; refine (r_from (by constructor <;> omega) _).mono ?_; rintro e wx ⟨rfl, hbx⟩; have HB : Below wr.heap.size wr wx := (by first | exact bel HB hbx | exact bel (bel HB (bel_d _)) hbx | exact bel (bel (bel HB (bel_d _)) (bel_d _)) hbx); obtain ⟨e2, dn0, dn1, di0⟩ := HC.out wx HB) | (go_at_call 60; refine (r_div (by with_reducible first | assumption | exact pat_add _ _ | exact pat_sub _ _ | exact pat_mul _ _ | exact pat_div _ _ | exact pat_sqrt _ | exact pat_from _ | exact pat_rat _ _ | exact pat_qrt _ | exact pat_qrN _ _ | exact pat_0 | exact pat_1 | exact pat_h) (by with_reducible first | assumption | exact pat_add _ _ | exact pat_sub _ _ | exact pat_mul _ _ | exact pat_div _ _ | exact pat_sqrt _ | exact pat_from _ | exact pat_rat _ _ | exact pat_qrt _ | exact pat_qrN _ _ | exact pat_0 | exact pat_1 | exact pat_h) _).mono ?_; rintro e wx ⟨rfl, hbx⟩; have HB : Below wr.heap.size wr wx := (by first | exact bel HB hbx | exact bel (bel HB (bel_d _)) hbx | exact bel (bel (bel HB (bel_d _)) (bel_d _)) hbx); obtain ⟨e2, dn0, dn1, di0⟩ := HC.out wx HB))
      all_goals go_wp2_with (first | (go_at_call 18; refine (rwave_any _ (by with_reducible first | assumption | exact pat_add _ _ | exact pat_sub _ _ | exact pat_mul _ _ | exact pat_div _ _ | exact pat_sqrt _ | exact pat_from _ | exact pat_rat _ _ | exact pat_qrt _ | exact pat_qrN _ _ | exact pat_0 | exact pat_1 | exact pat_h) _).mono ?_; rintro e wx ⟨rfl, hbx⟩; have HB : Below wr.heap.size wr wx := (by first | exact bel HB hbx | exact bel (bel HB (bel_d _)) hbx | exact bel (bel (bel HB (bel_d _)) (bel_d _)) hbx); obtain ⟨e2, dn0, dn1, di0⟩ := HC.out wx HB) | (go_at_call 25; refine (r_add (by with_reducible first | assumption | exact pat_add _ _ | exact pat_sub _ _ | exact pat_mul _ _ | exact pat_div _ _ | exact pat_sqrt _ | exact pat_from _ | exact pat_rat _ _ | exact pat_qrt _ | exact pat_qrN _ _ | exact pat_0 | exact pat_1 | exact pat_h) (by with_reducible first | assumption | exact pat_add _ _ | exact pat_sub _ _ | exact pat_mul _ _ | exact pat_div _ _ | exact pat_sqrt _ | exact pat_from _ | exact pat_rat _ _ | exact pat_qrt _ | exact pat_qrN _ _ | exact pat_0 | exact pat_1 | exact pat_h) _).mono ?_; rintro e wx ⟨rfl, hbx⟩; have HB : Below wr.heap.size wr wx := (by first | exact bel HB hbx | exact bel (bel HB (bel_d _)) hbx | exact bel (bel (bel HB (bel_d _)) (bel_d _)) hbx); obtain ⟨e2, dn0, dn1, di0⟩ := HC.out wx HB) | (go_at_call 26; refine (r_mul (by with_reducible first | assumption | exact pat_add _ _ | exact pat_sub _ _ | exact pat_mul _ _ | exact pat_div _ _ | exact pat_sqrt _ | exact pat_from _ | exact pat_rat _ _ | exact pat_qrt _ | exact pat_qrN _ _ | exact pat_0 | exact pat_1 | exact pat_h) (by with_reducible first | assumption | exact pat_add _ _ | exact pat_sub _ _ | exact pat_mul _ _ | exact pat_div _ _ | exact pat_sqrt _ | exact pat_from _ | exact pat_rat _ _ | exact pat_qrt _ | exact pat_qrN _ _ | exact pat_0 | exact pat_1 | exact pat_h) _).mono ?_; rintro e wx ⟨rfl, hbx⟩; have HB : Below wr.heap.size wr wx := (by first | exact bel HB hbx | exact bel (bel HB (bel_d _)) hbx | exact bel (bel (bel HB (bel_d _)) (bel_d _)) hbx); obtain ⟨e2, dn0, dn1, di0⟩ := HC.out wx HB) | (go_at_call 21; refine (r_sub (by with_reducible first | assumption | exact pat_add _ _ | exact pat_sub _ _ | exact pat_mul _ _ | exact pat_div _ _ | exact pat_sqrt _ | exact pat_from _ | exact pat_rat _ _ | exact pat_qrt _ | exact pat_qrN _ _ | exact pat_0 | exact pat_1 | exact pat_h) (by with_reducible first | assumption | exact pat_add _ _ | exact pat_sub _ _ | exact pat_mul _ _ | exact pat_div _ _ | exact pat_sqrt _ | exact pat_from _ | exact pat_rat _ _ | exact pat_qrt _ | exact pat_qrN _ _ | exact pat_0 | exact pat_1 | exact pat_h) _).mono ?_; rintro e wx ⟨rfl, hbx⟩; have HB : Below wr.heap.size wr wx := (by first | exact bel HB hbx | exact bel (bel HB (bel_d _)) hbx | exact bel (bel (bel HB (bel_d _)) (bel_d _)) hbx); obtain ⟨e2, dn0, dn1, di0⟩ := HC.out wx HB))
      all_goals go_region_held3 (fun w' => w'.cell? ⟨w.heap.size, 2, none⟩ = some (.slice (some ⟨bi, oi, none⟩) 1 ci) ∧ w'.cell? ⟨bl, ol, none⟩ = some (.int .i64 n0) ∧ w'.cell? ⟨bl, ol + 1, none⟩ = some (.int .i64 n1) ∧ w'.cell? ⟨bi, oi, none⟩ = some (.int .i64 i0)) (go_keep) (first | (go_at_call 25; refine (r_add (by with_reducible first | assumption | exact pat_add _ _ | exact pat_sub _ _ | exact pat_mul _ _ | exact pat_div _ _ | exact pat_sqrt _ | exact pat_from _ | exact pat_rat _ _ | exact pat_qrt _ | exact pat_qrN _ _ | exact pat_0 | exact pat_1 | exact pat_h) (by with_reducible first | assumption | exact pat_add _ _ | exact pat_sub _ _ | exact pat_mul _ _ | exact pat_div _ _ | exact pat_sqrt _ | exact pat_from _ | exact pat_rat _ _ | exact pat_qrt _ | exact pat_qrN _ _ | exact pat_0 | exact pat_1 | exact pat_h) _).mono ?_; rintro e wx ⟨rfl, hbx⟩; have HB : Below wr.heap.size wr wx := (by first | exact bel HB hbx | exact bel (bel HB (bel_d _)) hbx | exact bel (bel (bel HB (bel_d _)) (bel_d _)) hbx); obtain ⟨e2, dn0, dn1, di0⟩ := HC.out wx HB) | (go_at_call 26; refine (r_mul (by with_reducible first | assumption | exact pat_add _ _ | exact pat_sub _ _ | exact pat_mul _ _ | exact pat_div _ _ | exact pat_sqrt _ | exact pat_from _ | exact pat_rat _ _ | exact pat_qrt _ | exact pat_qrN _ _ | exact pat_0 | exact pat_1 | exact pat_h) (by with_reducible first | assumption | exact pat_add _ _ | exact pat_sub _ _ | exact pat_mul _ _ | exact pat_div _ _ | exact pat_sqrt _ | exact pat_from _ | exact pat_rat _ _ | exact pat_qrt _ | exact pat_qrN _ _ | exact pat_0 | exact pat_1 | exact pat_h) _).mono ?_; rintro e wx ⟨rfl, hbx⟩; have HB : Below wr.heap.size wr wx := (by first | exact bel HB hbx | exact bel (bel HB (bel_d _)) hbx | exact bel (bel (bel HB (bel_d _)) (bel_d _)) hbx); obtain ⟨e2, dn0, dn1, di0⟩ := HC.out wx HB))
      all_goals go_wp2
      all_goals go_ret
      all_goals exact ⟨rfl, bel HB0.out (bel hb HB)⟩

end Go.Proofs.Ytnogokikiekcbaa
/- The reference's at, rows 8, 9. -/
namespace Go.Proofs.Ytnogokikiekcbaa
open Go.RowKit
set_option linter.unusedVariables false
set_option linter.unusedSimpArgs false

set_option maxRecDepth 100000 in
set_option maxHeartbeats 8000000 in
theorem rat_8 (t : Sc) (hop : t.op = 8) (n : Int) (hn0 : 0 ≤ n) (hn1 : n ≤ 2147483647) (a c d : Value) (hok : sok t) (hNl : t.nums.length ≤ 2147483648) (k0 k1 : Sc) (hks : t.kids = [k0, k1]) (hk0 : RAtA k0) (hk1 : RAtA k1) (so0 : sok k0) (so1 : sok k1) (al0 : allT k0) (al1 : allT k1) (w : World) (hS : SV w t a c d) :
    Calls Try.prog 31 #[.agg #[.int .i64 t.op, a, c, d], .int .i64 n] w fun e w' => e = .returned (.int .i64 (fadd (valT k0 n) (valT k1 n))) ∧ Below w.heap.size w w' := by
  have HOP : Hid (t.op = 8) := hop
  have hx := box_heap w (.cells #[.int .i64 t.op, a, c, d] 26)
  have hb0 := bel_alloc w (.cells #[.int .i64 t.op, a, c, d] 26)
  obtain ⟨W, hW⟩ : ∃ W, w.alloc (.cells #[.int .i64 t.op, a, c, d] 26) = W := ⟨_, rfl⟩
  rw [hW] at hx hb0
  have hSW := hS.below hb0
  have HB0 : Hid (Below w.heap.size w W) := hb0
  have HX : Hid (∀ v, Below W.heap.size W v → v.cell? ⟨w.heap.size, 0, none⟩ = some (.int .i64 t.op) ∧ v.cell? ⟨w.heap.size, 1, none⟩ = some a ∧ v.cell? ⟨w.heap.size, 2, none⟩ = some c ∧ v.cell? ⟨w.heap.size, 3, none⟩ = some d) := fun v hv =>
    ⟨bcell (cell_heap hx 0) hv, bcell (cell_heap hx 1) hv, bcell (cell_heap hx 2) hv, bcell (cell_heap hx 3) hv⟩
  obtain ⟨pn, cn, rfl, hrn⟩ := hSW.nums
  have HRN : Hid (t.nums = [] ∨ ∃ b o, pn = some ⟨b, o, none⟩ ∧ ∀ i (h : i < t.nums.length), W.cell? ⟨b, o + i, none⟩ = some (.int .u32 t.nums[i])) := hrn
  have HSI : Hid (Row W .i64 c t.ints) := hSW.ints
  have HSK : Hid (SK W d t.kids) := hSW.kids
  have HPT : Hid (∀ x ∈ t.nums, Pat x) := fun x hx => hok.1.2.1 x hx
  obtain ⟨ti, hi2, hz2a, hz2b, hz2c⟩ := info_parts info_I8
  obtain ⟨N, hN⟩ : ∃ N, t.nums.length = N := ⟨_, rfl⟩
  have HN : Hid (t.nums.length = N) := hN
  rw [hN] at HX hNl hW ⊢
  have p0 := pat_val k0 so0 al0 n
  have p1 := pat_val k1 so1 al1 n
  obtain ⟨V0, hV0⟩ : ∃ V, valT k0 n = V := ⟨_, rfl⟩
  obtain ⟨V1, hV1⟩ : ∃ V, valT k1 n = V := ⟨_, rfl⟩
  rw [hV0] at p0 ⊢
  rw [hV1] at p1 ⊢
  clear hS hSW hx hb0 hrn hN hop hok
  go_enter Try.func31, Try.ntmps31
  go_wp2
  go_loopw [5, 6] (fun lv iv wr => Below W.heap.size W wr ∧ ∃ (j : Nat) (ov : Value), ov = lv ∧ j ≤ N ∧ iv = .int .i64 j ∧ Hid (wr.ownsRow W.heap.size 3 1 ov j ((t.nums.take j).map (.int .i64)))) (fun _ iv _ => N - (intOf iv).toNat)
  case atStart => exact ⟨bel0 W, 0, _, rfl, Nat.zero_le _, rfl, (by show World.ownsRow _ _ _ _ _ _ _; rw [List.take_zero]; exact World.ownsRow_nil W _ _ 1)⟩
  case round =>
    obtain ⟨hb, j, ov, rfl, hj, rfl, HO⟩ := hrel
    obtain ⟨x0, x1, x2, x3⟩ := HX.out wr hb
    by_cases hlt0 : j < N
    · have hll : j < t.nums.length := by rw [HN.out]; exact hlt0
      obtain ⟨b, o, rfl, c1⟩ : ∃ b o, pn = some ⟨b, o, none⟩ ∧ wr.cell? ⟨b, o + j, none⟩ = some (.int .u32 t.nums[j]) := by
        rcases HRN.out with h | ⟨b, o, e, h⟩
        · rw [h] at hll; exact absurd hll (Nat.not_lt_zero _)
        · exact ⟨b, o, e, bcell (h j hll) hb⟩
      have hpx : Pat t.nums[j] := HPT.out _ (List.getElem_mem hll)
      have HTK : Hid ((t.nums.take (j + 1)).map (Value.int .i64) = (t.nums.take j).map (Value.int .i64) ++ [.int .i64 t.nums[j]]) := by show _ = _; rw [List.take_succ_eq_append_getElem hll, List.map_append]; rfl
      obtain ⟨y, hy⟩ : ∃ y, t.nums[j] = y := ⟨_, rfl⟩
      rw [hy] at c1 hpx HTK
      have ey : IntKind.i64.wrap y = y := by have := hpx.1; have := hpx.2; rw [IntKind.wrap_i64]; omega
      have i1 : (0 : Int) ≤ (j : Int) := by omega
      have i2' : (j : Int) < (N : Int) := by omega
      have hsz := hb.size
      clear hy HRN HSI HSK hpx
      go_wp2_with (at_builtin; refine wpList_append_lies _ rfl _ _ 23 rfl W.heap.size 3 ti _ 1 8 Try.underlying23 hi2 hz2a hz2b hz2c rfl (by decide) ov j ((t.nums.take j).map (Value.int .i64)) rfl (World.ownsRow.alloc HO.out _) ⟨wr.heap.size, 0, none⟩ 1 1 [.int .i64 y] rfl rfl (World.news_of_block (cs := #[.int .i64 y]) (t := 3) (fr := (0, 0)) (box_heap wr _)) (by simp [Value.oneCell']) (by decide) (by unfold maxLen; omega) (by omega) (by simp; omega) (wr.heap.size + 1) (by simp) ?_; intro g cap w4 hown4 hgrow hat hlt4)
      have HB4 : Hid (Below W.heap.size W w4) := Below.grown (bel hb (bel_alloc wr (.cells #[.int .i64 y] 3))) hgrow (by simp; omega) (fun k hk => (HO.out.lt k hk).1)
      have HO4 : Hid (w4.ownsRow W.heap.size 3 1 (.slice (some ⟨g, 0, none⟩) (j + 1) cap) (j + 1) ((t.nums.take (j + 1)).map (Value.int .i64))) := by show World.ownsRow _ _ _ _ _ _ _; rw [HTK.out]; exact hown4
      clear hown4 hgrow hat hlt4
      go_wp2
      go_roundw
      case rel => exact ⟨HB4.out, j + 1, _, rfl, by omega, by go_num, HO4.out⟩
      case measure => simp [intOf]; omega
    · have hjN : j = N := by omega
      have hrow : Row wr .i64 ov t.nums := by
        have h1 := HO.out
        rw [hjN] at h1
        rw [List.take_of_length_le (by rw [HN.out]; exact Nat.le_refl _), ← HN.out] at h1
        exact own_row h1
      have z9 : ¬ (j : Int) < (N : Int) := by omega
      have hop := HOP.out
      rw [hop] at x0 HX
      have HSIr : Hid (Row wr .i64 c t.ints) := HSI.out.below hb
      have HSKr : Hid (SK wr d t.kids) := HSK.out.below hb
      clear HO hlt0 hjN HRN HSI HSK hop HOP HPT hi2 hz2a hz2b hz2c
      obtain ⟨pk, ck, hck, hrk⟩ := HSKr.out
      rw [hks] at hck hrk
      obtain ⟨bk, ok, rfl, hsl⟩ : ∃ b o, pk = some ⟨b, o, none⟩ ∧ SL wr b o [k0, k1] := by
        rcases hrk with h | h
        · cases h
        · exact h
      subst hck
      rw [SL_cons] at hsl
      obtain ⟨u01, u02, u03, k00, k01, k02, k03, hv0⟩ := hsl.1.val
      have hsl := hsl.2
      have HR0 : Hid (∀ v, Below wr.heap.size wr v → Calls Try.prog 31 #[.agg #[.int .i64 k0.op, u01, u02, u03], .int .i64 (n)] v fun e w' => e = .returned (.int .i64 (valT k0 (n))) ∧ Below v.heap.size v w') := fun v hv => hk0 (n) u01 u02 u03 v (by omega) (by omega) so0 al0 (hv0.below hv)
      rw [SL_cons] at hsl
      obtain ⟨u11, u12, u13, k10, k11, k12, k13, hv1⟩ := hsl.1.val
      have hsl := hsl.2
      have HR1 : Hid (∀ v, Below wr.heap.size wr v → Calls Try.prog 31 #[.agg #[.int .i64 k1.op, u11, u12, u13], .int .i64 (n)] v fun e w' => e = .returned (.int .i64 (valT k1 (n))) ∧ Below v.heap.size v w') := fun v hv => hk1 (n) u11 u12 u13 v (by omega) (by omega) so1 al1 (hv1.below hv)
      have HC : Hid (∀ v, Below wr.heap.size wr v → True ∧ v.cell? ⟨w.heap.size, 3, none⟩ = some (.slice (some ⟨bk, ok, none⟩) 2 ck) ∧ v.cell? ⟨bk, ok, none⟩ = some (.int .i64 k0.op) ∧ v.cell? ⟨bk, ok + 1, none⟩ = some (u01) ∧ v.cell? ⟨bk, ok + 2, none⟩ = some (u02) ∧ v.cell? ⟨bk, ok + 3, none⟩ = some (u03) ∧ v.cell? ⟨bk, ok + 4, none⟩ = some (.int .i64 k1.op) ∧ v.cell? ⟨bk, ok + 5, none⟩ = some (u11) ∧ v.cell? ⟨bk, ok + 6, none⟩ = some (u12) ∧ v.cell? ⟨bk, ok + 7, none⟩ = some (u13)) := fun v hv => ⟨trivial, bcell x3 hv, bcell k00 hv, bcell k01 hv, bcell k02 hv, bcell k03 hv, bcell k10 hv, bcell k11 hv, bcell k12 hv, bcell k13 hv⟩
      clear x2 x3 hsl k00 k01 k02 k03 k10 k11 k12 k13 hv0 hv1
      have HB : Below wr.heap.size wr wr := bel0 wr
      obtain ⟨-, e3, k00, k01, k02, k03, k10, k11, k12, k13⟩ := HC.out wr HB
      rw [hV0] at HR0
      rw [hV1] at HR1
      go_wp2
      all_goals go_region_held3 (fun w' => True ∧ w'.cell? ⟨w.heap.size, 3, none⟩ = some (.slice (some ⟨bk, ok, none⟩) 2 ck) ∧ w'.cell? ⟨bk, ok, none⟩ = some (.int .i64 k0.op) ∧ w'.cell? ⟨bk, ok + 1, none⟩ = some (u01) ∧ w'.cell? ⟨bk, ok + 2, none⟩ = some (u02) ∧ w'.cell? ⟨bk, ok + 3, none⟩ = some (u03) ∧ w'.cell? ⟨bk, ok + 4, none⟩ = some (.int .i64 k1.op) ∧ w'.cell? ⟨bk, ok + 5, none⟩ = some (u11) ∧ w'.cell? ⟨bk, ok + 6, none⟩ = some (u12) ∧ w'.cell? ⟨bk, ok + 7, none⟩ = some (u13)) (go_keep) (first | (go_at_call 31; (with_reducible refine (HR0.out _ (bel_d _)).mono ?_); rintro e wx ⟨rfl, hbx⟩; have HB : Below wr.heap.size wr wx := bel (bel_d _) hbx; obtain ⟨-, e3, k00, k01, k02, k03, k10, k11, k12, k13⟩ := HC.out wx HB) | (go_at_call 31; (with_reducible refine (HR1.out _ HB).mono ?_); rintro e wx ⟨rfl, hbx⟩; have HB : Below wr.heap.size wr wx := bel HB hbx; obtain ⟨-, e3, k00, k01, k02, k03, k10, k11, k12, k13⟩ := HC.out wx HB) | (go_at_call 25; refine (r_add (by with_reducible first | assumption | exact pat_add _ _ | exact pat_sub _ _ | exact pat_mul _ _ | exact pat_div _ _ | exact pat_sqrt _ | exact pat_from _ | exact pat_rat _ _ | exact pat_qrt _ | exact pat_qrN _ _ | exact pat_0 | exact pat_1 | exact pat_h) (by with_reducible first | assumption | exact pat_add _ _ | exact pat_sub _ _ | exact pat_mul _ _ | exact pat_div _ _ | exact pat_sqrt _ | exact pat_from _ | exact pat_rat _ _ | exact pat_qrt _ | exact pat_qrN _ _ | exact pat_0 | exact pat_1 | exact pat_h) _).mono ?_; rintro e wx ⟨rfl, hbx⟩; have HB : Below wr.heap.size wr wx := (by first | exact bel HB hbx | exact bel (bel HB (bel_d _)) hbx | exact bel (bel (bel HB (bel_d _)) (bel_d _)) hbx); obtain ⟨-, e3, k00, k01, k02, k03, k10, k11, k12, k13⟩ := HC.out wx HB))
      all_goals go_wp2
      all_goals go_ret
      all_goals exact ⟨rfl, bel HB0.out (bel hb HB)⟩

set_option maxRecDepth 100000 in
set_option maxHeartbeats 8000000 in
theorem rat_9 (t : Sc) (hop : t.op = 9) (n : Int) (hn0 : 0 ≤ n) (hn1 : n ≤ 2147483647) (a c d : Value) (hok : sok t) (hNl : t.nums.length ≤ 2147483648) (k0 k1 : Sc) (hks : t.kids = [k0, k1]) (hk0 : RAtA k0) (hk1 : RAtA k1) (so0 : sok k0) (so1 : sok k1) (al0 : allT k0) (al1 : allT k1) (w : World) (hS : SV w t a c d) :
    Calls Try.prog 31 #[.agg #[.int .i64 t.op, a, c, d], .int .i64 n] w fun e w' => e = .returned (.int .i64 (fmul (valT k0 n) (valT k1 n))) ∧ Below w.heap.size w w' := by
  have HOP : Hid (t.op = 9) := hop
  have hx := box_heap w (.cells #[.int .i64 t.op, a, c, d] 26)
  have hb0 := bel_alloc w (.cells #[.int .i64 t.op, a, c, d] 26)
  obtain ⟨W, hW⟩ : ∃ W, w.alloc (.cells #[.int .i64 t.op, a, c, d] 26) = W := ⟨_, rfl⟩
  rw [hW] at hx hb0
  have hSW := hS.below hb0
  have HB0 : Hid (Below w.heap.size w W) := hb0
  have HX : Hid (∀ v, Below W.heap.size W v → v.cell? ⟨w.heap.size, 0, none⟩ = some (.int .i64 t.op) ∧ v.cell? ⟨w.heap.size, 1, none⟩ = some a ∧ v.cell? ⟨w.heap.size, 2, none⟩ = some c ∧ v.cell? ⟨w.heap.size, 3, none⟩ = some d) := fun v hv =>
    ⟨bcell (cell_heap hx 0) hv, bcell (cell_heap hx 1) hv, bcell (cell_heap hx 2) hv, bcell (cell_heap hx 3) hv⟩
  obtain ⟨pn, cn, rfl, hrn⟩ := hSW.nums
  have HRN : Hid (t.nums = [] ∨ ∃ b o, pn = some ⟨b, o, none⟩ ∧ ∀ i (h : i < t.nums.length), W.cell? ⟨b, o + i, none⟩ = some (.int .u32 t.nums[i])) := hrn
  have HSI : Hid (Row W .i64 c t.ints) := hSW.ints
  have HSK : Hid (SK W d t.kids) := hSW.kids
  have HPT : Hid (∀ x ∈ t.nums, Pat x) := fun x hx => hok.1.2.1 x hx
  obtain ⟨ti, hi2, hz2a, hz2b, hz2c⟩ := info_parts info_I8
  obtain ⟨N, hN⟩ : ∃ N, t.nums.length = N := ⟨_, rfl⟩
  have HN : Hid (t.nums.length = N) := hN
  rw [hN] at HX hNl hW ⊢
  have p0 := pat_val k0 so0 al0 n
  have p1 := pat_val k1 so1 al1 n
  obtain ⟨V0, hV0⟩ : ∃ V, valT k0 n = V := ⟨_, rfl⟩
  obtain ⟨V1, hV1⟩ : ∃ V, valT k1 n = V := ⟨_, rfl⟩
  rw [hV0] at p0 ⊢
  rw [hV1] at p1 ⊢
  clear hS hSW hx hb0 hrn hN hop hok
  go_enter Try.func31, Try.ntmps31
  go_wp2
  go_loopw [5, 6] (fun lv iv wr => Below W.heap.size W wr ∧ ∃ (j : Nat) (ov : Value), ov = lv ∧ j ≤ N ∧ iv = .int .i64 j ∧ Hid (wr.ownsRow W.heap.size 3 1 ov j ((t.nums.take j).map (.int .i64)))) (fun _ iv _ => N - (intOf iv).toNat)
  case atStart => exact ⟨bel0 W, 0, _, rfl, Nat.zero_le _, rfl, (by show World.ownsRow _ _ _ _ _ _ _; rw [List.take_zero]; exact World.ownsRow_nil W _ _ 1)⟩
  case round =>
    obtain ⟨hb, j, ov, rfl, hj, rfl, HO⟩ := hrel
    obtain ⟨x0, x1, x2, x3⟩ := HX.out wr hb
    by_cases hlt0 : j < N
    · have hll : j < t.nums.length := by rw [HN.out]; exact hlt0
      obtain ⟨b, o, rfl, c1⟩ : ∃ b o, pn = some ⟨b, o, none⟩ ∧ wr.cell? ⟨b, o + j, none⟩ = some (.int .u32 t.nums[j]) := by
        rcases HRN.out with h | ⟨b, o, e, h⟩
        · rw [h] at hll; exact absurd hll (Nat.not_lt_zero _)
        · exact ⟨b, o, e, bcell (h j hll) hb⟩
      have hpx : Pat t.nums[j] := HPT.out _ (List.getElem_mem hll)
      have HTK : Hid ((t.nums.take (j + 1)).map (Value.int .i64) = (t.nums.take j).map (Value.int .i64) ++ [.int .i64 t.nums[j]]) := by show _ = _; rw [List.take_succ_eq_append_getElem hll, List.map_append]; rfl
      obtain ⟨y, hy⟩ : ∃ y, t.nums[j] = y := ⟨_, rfl⟩
      rw [hy] at c1 hpx HTK
      have ey : IntKind.i64.wrap y = y := by have := hpx.1; have := hpx.2; rw [IntKind.wrap_i64]; omega
      have i1 : (0 : Int) ≤ (j : Int) := by omega
      have i2' : (j : Int) < (N : Int) := by omega
      have hsz := hb.size
      clear hy HRN HSI HSK hpx
      go_wp2_with (at_builtin; refine wpList_append_lies _ rfl _ _ 23 rfl W.heap.size 3 ti _ 1 8 Try.underlying23 hi2 hz2a hz2b hz2c rfl (by decide) ov j ((t.nums.take j).map (Value.int .i64)) rfl (World.ownsRow.alloc HO.out _) ⟨wr.heap.size, 0, none⟩ 1 1 [.int .i64 y] rfl rfl (World.news_of_block (cs := #[.int .i64 y]) (t := 3) (fr := (0, 0)) (box_heap wr _)) (by simp [Value.oneCell']) (by decide) (by unfold maxLen; omega) (by omega) (by simp; omega) (wr.heap.size + 1) (by simp) ?_; intro g cap w4 hown4 hgrow hat hlt4)
      have HB4 : Hid (Below W.heap.size W w4) := Below.grown (bel hb (bel_alloc wr (.cells #[.int .i64 y] 3))) hgrow (by simp; omega) (fun k hk => (HO.out.lt k hk).1)
      have HO4 : Hid (w4.ownsRow W.heap.size 3 1 (.slice (some ⟨g, 0, none⟩) (j + 1) cap) (j + 1) ((t.nums.take (j + 1)).map (Value.int .i64))) := by show World.ownsRow _ _ _ _ _ _ _; rw [HTK.out]; exact hown4
      clear hown4 hgrow hat hlt4
      go_wp2
      go_roundw
      case rel => exact ⟨HB4.out, j + 1, _, rfl, by omega, by go_num, HO4.out⟩
      case measure => simp [intOf]; omega
    · have hjN : j = N := by omega
      have hrow : Row wr .i64 ov t.nums := by
        have h1 := HO.out
        rw [hjN] at h1
        rw [List.take_of_length_le (by rw [HN.out]; exact Nat.le_refl _), ← HN.out] at h1
        exact own_row h1
      have z9 : ¬ (j : Int) < (N : Int) := by omega
      have hop := HOP.out
      rw [hop] at x0 HX
      have HSIr : Hid (Row wr .i64 c t.ints) := HSI.out.below hb
      have HSKr : Hid (SK wr d t.kids) := HSK.out.below hb
      clear HO hlt0 hjN HRN HSI HSK hop HOP HPT hi2 hz2a hz2b hz2c
      obtain ⟨pk, ck, hck, hrk⟩ := HSKr.out
      rw [hks] at hck hrk
      obtain ⟨bk, ok, rfl, hsl⟩ : ∃ b o, pk = some ⟨b, o, none⟩ ∧ SL wr b o [k0, k1] := by
        rcases hrk with h | h
        · cases h
        · exact h
      subst hck
      rw [SL_cons] at hsl
      obtain ⟨u01, u02, u03, k00, k01, k02, k03, hv0⟩ := hsl.1.val
      have hsl := hsl.2
      have HR0 : Hid (∀ v, Below wr.heap.size wr v → Calls Try.prog 31 #[.agg #[.int .i64 k0.op, u01, u02, u03], .int .i64 (n)] v fun e w' => e = .returned (.int .i64 (valT k0 (n))) ∧ Below v.heap.size v w') := fun v hv => hk0 (n) u01 u02 u03 v (by omega) (by omega) so0 al0 (hv0.below hv)
      rw [SL_cons] at hsl
      obtain ⟨u11, u12, u13, k10, k11, k12, k13, hv1⟩ := hsl.1.val
      have hsl := hsl.2
      have HR1 : Hid (∀ v, Below wr.heap.size wr v → Calls Try.prog 31 #[.agg #[.int .i64 k1.op, u11, u12, u13], .int .i64 (n)] v fun e w' => e = .returned (.int .i64 (valT k1 (n))) ∧ Below v.heap.size v w') := fun v hv => hk1 (n) u11 u12 u13 v (by omega) (by omega) so1 al1 (hv1.below hv)
      have HC : Hid (∀ v, Below wr.heap.size wr v → True ∧ v.cell? ⟨w.heap.size, 3, none⟩ = some (.slice (some ⟨bk, ok, none⟩) 2 ck) ∧ v.cell? ⟨bk, ok, none⟩ = some (.int .i64 k0.op) ∧ v.cell? ⟨bk, ok + 1, none⟩ = some (u01) ∧ v.cell? ⟨bk, ok + 2, none⟩ = some (u02) ∧ v.cell? ⟨bk, ok + 3, none⟩ = some (u03) ∧ v.cell? ⟨bk, ok + 4, none⟩ = some (.int .i64 k1.op) ∧ v.cell? ⟨bk, ok + 5, none⟩ = some (u11) ∧ v.cell? ⟨bk, ok + 6, none⟩ = some (u12) ∧ v.cell? ⟨bk, ok + 7, none⟩ = some (u13)) := fun v hv => ⟨trivial, bcell x3 hv, bcell k00 hv, bcell k01 hv, bcell k02 hv, bcell k03 hv, bcell k10 hv, bcell k11 hv, bcell k12 hv, bcell k13 hv⟩
      clear x2 x3 hsl k00 k01 k02 k03 k10 k11 k12 k13 hv0 hv1
      have HB : Below wr.heap.size wr wr := bel0 wr
      obtain ⟨-, e3, k00, k01, k02, k03, k10, k11, k12, k13⟩ := HC.out wr HB
      rw [hV0] at HR0
      rw [hV1] at HR1
      go_wp2
      all_goals go_region_held3 (fun w' => True ∧ w'.cell? ⟨w.heap.size, 3, none⟩ = some (.slice (some ⟨bk, ok, none⟩) 2 ck) ∧ w'.cell? ⟨bk, ok, none⟩ = some (.int .i64 k0.op) ∧ w'.cell? ⟨bk, ok + 1, none⟩ = some (u01) ∧ w'.cell? ⟨bk, ok + 2, none⟩ = some (u02) ∧ w'.cell? ⟨bk, ok + 3, none⟩ = some (u03) ∧ w'.cell? ⟨bk, ok + 4, none⟩ = some (.int .i64 k1.op) ∧ w'.cell? ⟨bk, ok + 5, none⟩ = some (u11) ∧ w'.cell? ⟨bk, ok + 6, none⟩ = some (u12) ∧ w'.cell? ⟨bk, ok + 7, none⟩ = some (u13)) (go_keep) (first | (go_at_call 31; (with_reducible refine (HR0.out _ (bel_d _)).mono ?_); rintro e wx ⟨rfl, hbx⟩; have HB : Below wr.heap.size wr wx := bel (bel_d _) hbx; obtain ⟨-, e3, k00, k01, k02, k03, k10, k11, k12, k13⟩ := HC.out wx HB) | (go_at_call 31; (with_reducible refine (HR1.out _ HB).mono ?_); rintro e wx ⟨rfl, hbx⟩; have HB : Below wr.heap.size wr wx := bel HB hbx; obtain ⟨-, e3, k00, k01, k02, k03, k10, k11, k12, k13⟩ := HC.out wx HB) | (go_at_call 26; refine (r_mul (by with_reducible first | assumption | exact pat_add _ _ | exact pat_sub _ _ | exact pat_mul _ _ | exact pat_div _ _ | exact pat_sqrt _ | exact pat_from _ | exact pat_rat _ _ | exact pat_qrt _ | exact pat_qrN _ _ | exact pat_0 | exact pat_1 | exact pat_h) (by with_reducible first | assumption | exact pat_add _ _ | exact pat_sub _ _ | exact pat_mul _ _ | exact pat_div _ _ | exact pat_sqrt _ | exact pat_from _ | exact pat_rat _ _ | exact pat_qrt _ | exact pat_qrN _ _ | exact pat_0 | exact pat_1 | exact pat_h) _).mono ?_; rintro e wx ⟨rfl, hbx⟩; have HB : Below wr.heap.size wr wx := (by first | exact bel HB hbx | exact bel (bel HB (bel_d _)) hbx | exact bel (bel (bel HB (bel_d _)) (bel_d _)) hbx); obtain ⟨-, e3, k00, k01, k02, k03, k10, k11, k12, k13⟩ := HC.out wx HB))
      all_goals go_wp2
      all_goals go_ret
      all_goals exact ⟨rfl, bel HB0.out (bel hb HB)⟩

end Go.Proofs.Ytnogokikiekcbaa
