import Derived.Test.YtnogokikiekcbaaPart17
/- The reference's at, rows 10, 11. -/
namespace Go.Proofs.Ytnogokikiekcbaa
open Go.RowKit
set_option linter.unusedVariables false
set_option linter.unusedSimpArgs false

set_option maxRecDepth 100000 in
set_option maxHeartbeats 8000000 in
theorem rat_10 (t : Sc) (hop : t.op = 10) (n : Int) (hn0 : 0 ≤ n) (hn1 : n ≤ 2147483647) (a c d : Value) (hok : sok t) (hNl : t.nums.length ≤ 2147483648) (k0 k1 : Sc) (hks : t.kids = [k0, k1]) (hk0 : RAtA k0) (hk1 : RAtA k1) (so0 : sok k0) (so1 : sok k1) (al0 : allT k0) (al1 : allT k1) (w : World) (hS : SV w t a c d) :
    Calls Try.prog 31 #[.agg #[.int .i64 t.op, a, c, d], .int .i64 n] w fun e w' => e = .returned (.int .i64 (fmin (valT k0 n) (valT k1 n))) ∧ Below w.heap.size w w' := by
  have HOP : Hid (t.op = 10) := hop
  have hx := box_heap w (.cells #[.int .i64 t.op, a, c, d] 26)
  have hb0 := bel_alloc w (.cells #[.int .i64 t.op, a, c, d] 26)
  obtain ⟨W, hW⟩ : ∃ W, w.alloc (.cells #[.int .i64 t.op, a, c, d] 26) = W := ⟨_, rfl⟩
  rw [hW] at hx hb0
  have hSW := hS.below hb0
  have HB0 : Hid (Below w.heap.size w W) := hb0
  have HX : Hid (∀ v, Below W.heap.size W v → v.cell? ⟨w.heap.size, 0, none⟩ = some (.int .i64 t.op) ∧ v.cell? ⟨w.heap.size, 1, none⟩ = some a ∧ v.cell? ⟨w.heap.size, 2, none⟩ = some c ∧ v.cell? ⟨w.heap.size, 3, none⟩ = some d) := fun v hv =>
    ⟨bcell (cell_heap hx 0) hv, bcell (cell_heap hx 1) hv, bcell (cell_heap hx 2) hv, bcell (cell_heap hx 3) hv⟩
  obtain ⟨pn, cn, rfl, hrn⟩ := hSW.nums
  have HRN : Hid (t.nums = [] ∨ ∃ b o, pn = some ⟨b, o, none⟩ ∧ ∀ i (h : i < t.nums.length), W.cell? ⟨b, o + i, none⟩ = some (.int .u32 t.nums[i])) := hrn
  have HSI : Hid (Row W .i64 c t.ints) := hSW.ints
  have HSK : Hid (SK W d t.kids) := hSW.kids
  have HPT : Hid (∀ x ∈ t.nums, Pat x) := fun x hx => hok.1.2.1 x hx
  obtain ⟨ti, hi2, hz2a, hz2b, hz2c⟩ := info_parts info_I8
  obtain ⟨N, hN⟩ : ∃ N, t.nums.length = N := ⟨_, rfl⟩
  have HN : Hid (t.nums.length = N) := hN
  rw [hN] at HX hNl hW ⊢
  have p0 := pat_val k0 so0 al0 n
  have p1 := pat_val k1 so1 al1 n
  obtain ⟨V0, hV0⟩ : ∃ V, valT k0 n = V := ⟨_, rfl⟩
  obtain ⟨V1, hV1⟩ : ∃ V, valT k1 n = V := ⟨_, rfl⟩
  rw [hV0] at p0 ⊢
  rw [hV1] at p1 ⊢
  clear hS hSW hx hb0 hrn hN hop hok
  go_enter Try.func31, Try.ntmps31
  go_wp2
  go_loopw [5, 6] (fun lv iv wr => Below W.heap.size W wr ∧ ∃ (j : Nat) (ov : Value), ov = lv ∧ j ≤ N ∧ iv = .int .i64 j ∧ Hid (wr.ownsRow W.heap.size 3 1 ov j ((t.nums.take j).map (.int .i64)))) (fun _ iv _ => N - (intOf iv).toNat)
  case atStart => exact ⟨bel0 W, 0, _, rfl, Nat.zero_le _, rfl, (by show World.ownsRow _ _ _ _ _ _ _; rw [List.take_zero]; exact World.ownsRow_nil W _ _ 1)⟩
  case round =>
    obtain ⟨hb, j, ov, rfl, hj, rfl, HO⟩ := hrel
    obtain ⟨x0, x1, x2, x3⟩ := HX.out wr hb
    by_cases hlt0 : j < N
    · have hll : j < t.nums.length := by rw [HN.out]; exact hlt0
      obtain ⟨b, o, rfl, c1⟩ : ∃ b o, pn = some ⟨b, o, none⟩ ∧ wr.cell? ⟨b, o + j, none⟩ = some (.int .u32 t.nums[j]) := by
        rcases HRN.out with h | ⟨b, o, e, h⟩
        · rw [h] at hll; exact absurd hll (Nat.not_lt_zero _)
        · exact ⟨b, o, e, bcell (h j hll) hb⟩
      have hpx : Pat t.nums[j] := HPT.out _ (List.getElem_mem hll)
      have HTK : Hid ((t.nums.take (j + 1)).map (Value.int .i64) = (t.nums.take j).map (Value.int .i64) ++ [.int .i64 t.nums[j]]) := by show _ = _; rw [List.take_succ_eq_append_getElem hll, List.map_append]; rfl
      obtain ⟨y, hy⟩ : ∃ y, t.nums[j] = y := ⟨_, rfl⟩
      rw [hy] at c1 hpx HTK
      have ey : IntKind.i64.wrap y = y := by have := hpx.1; have := hpx.2; rw [IntKind.wrap_i64]; omega
      have i1 : (0 : Int) ≤ (j : Int) := by omega
      have i2' : (j : Int) < (N : Int) := by omega
      have hsz := hb.size
      clear hy HRN HSI HSK hpx
      go_wp2_with (at_builtin; refine wpList_append_lies _ rfl _ _ 23 rfl W.heap.size 3 ti _ 1 8 Try.underlying23 hi2 hz2a hz2b hz2c rfl (by decide) ov j ((t.nums.take j).map (Value.int .i64)) rfl (World.ownsRow.alloc HO.out _) ⟨wr.heap.size, 0, none⟩ 1 1 [.int .i64 y] rfl rfl (World.news_of_block (cs := #[.int .i64 y]) (t := 3) (fr := (0, 0)) (box_heap wr _)) (by simp [Value.oneCell']) (by decide) (by unfold maxLen; omega) (by omega) (by simp; omega) (wr.heap.size + 1) (by simp) ?_; intro g cap w4 hown4 hgrow hat hlt4)
      have HB4 : Hid (Below W.heap.size W w4) := Below.grown (bel hb (bel_alloc wr (.cells #[.int .i64 y] 3))) hgrow (by simp; omega) (fun k hk => (HO.out.lt k hk).1)
      have HO4 : Hid (w4.ownsRow W.heap.size 3 1 (.slice (some ⟨g, 0, none⟩) (j + 1) cap) (j + 1) ((t.nums.take (j + 1)).map (Value.int .i64))) := by show World.ownsRow _ _ _ _ _ _ _; rw [HTK.out]; exact hown4
      clear hown4 hgrow hat hlt4
      go_wp2
      go_roundw
      case rel => exact ⟨HB4.out, j + 1, _, rfl, by omega, by go_num, HO4.out⟩
      case measure => simp [intOf]; omega
    · have hjN : j = N := by omega
      have hrow : Row wr .i64 ov t.nums := by
        have h1 := HO.out
        rw [hjN] at h1
        rw [List.take_of_length_le (by rw [HN.out]; exact Nat.le_refl _), ← HN.out] at h1
        exact own_row h1
      have z9 : ¬ (j : Int) < (N : Int) := by omega
      have hop := HOP.out
      rw [hop] at x0 HX
      have HSIr : Hid (Row wr .i64 c t.ints) := HSI.out.below hb
      have HSKr : Hid (SK wr d t.kids) := HSK.out.below hb
      clear HO hlt0 hjN HRN HSI HSK hop HOP HPT hi2 hz2a hz2b hz2c
      obtain ⟨pk, ck, hck, hrk⟩ := HSKr.out
      rw [hks] at hck hrk
      obtain ⟨bk, ok, rfl, hsl⟩ : ∃ b o, pk = some ⟨b, o, none⟩ ∧ SL wr b o [k0, k1] := by
        rcases hrk with h | h
        · cases h
        · exact h
      subst hck
      rw [SL_cons] at hsl
      obtain ⟨u01, u02, u03, k00, k01, k02, k03, hv0⟩ := hsl.1.val
      have hsl := hsl.2
      have HR0 : Hid (∀ v, Below wr.heap.size wr v → Calls Try.prog 31 #[.agg #[.int .i64 k0.op, u01, u02, u03], .int .i64 (n)] v fun e w' => e = .returned (.int .i64 (valT k0 (n))) ∧ Below v.heap.size v w') := fun v hv => hk0 (n) u01 u02 u03 v (by omega) (by omega) so0 al0 (hv0.below hv)
      rw [SL_cons] at hsl
      obtain ⟨u11, u12, u13, k10, k11, k12, k13, hv1⟩ := hsl.1.val
      have hsl := hsl.2
      have HR1 : Hid (∀ v, Below wr.heap.size wr v → Calls Try.prog 31 #[.agg #[.int .i64 k1.op, u11, u12, u13], .int .i64 (n)] v fun e w' => e = .returned (.int .i64 (valT k1 (n))) ∧ Below v.heap.size v w') := fun v hv => hk1 (n) u11 u12 u13 v (by omega) (by omega) so1 al1 (hv1.below hv)
      have HC : Hid (∀ v, Below wr.heap.size wr v → True ∧ v.cell? ⟨w.heap.size, 3, none⟩ = some (.slice (some ⟨bk, ok, none⟩) 2 ck) ∧ v.cell? ⟨bk, ok, none⟩ = some (.int .i64 k0.op) ∧ v.cell? ⟨bk, ok + 1, none⟩ = some (u01) ∧ v.cell? ⟨bk, ok + 2, none⟩ = some (u02) ∧ v.cell? ⟨bk, ok + 3, none⟩ = some (u03) ∧ v.cell? ⟨bk, ok + 4, none⟩ = some (.int .i64 k1.op) ∧ v.cell? ⟨bk, ok + 5, none⟩ = some (u11) ∧ v.cell? ⟨bk, ok + 6, none⟩ = some (u12) ∧ v.cell? ⟨bk, ok + 7, none⟩ = some (u13)) := fun v hv => ⟨trivial, bcell x3 hv, bcell k00 hv, bcell k01 hv, bcell k02 hv, bcell k03 hv, bcell k10 hv, bcell k11 hv, bcell k12 hv, bcell k13 hv⟩
      clear x2 x3 hsl k00 k01 k02 k03 k10 k11 k12 k13 hv0 hv1
      have HB : Below wr.heap.size wr wr := bel0 wr
      obtain ⟨-, e3, k00, k01, k02, k03, k10, k11, k12, k13⟩ := HC.out wr HB
      rw [hV0] at HR0
      rw [hV1] at HR1
      go_wp2
      all_goals go_region_held3 (fun w' => True ∧ w'.cell? ⟨w.heap.size, 3, none⟩ = some (.slice (some ⟨bk, ok, none⟩) 2 ck) ∧ w'.cell? ⟨bk, ok, none⟩ = some (.int .i64 k0.op) ∧ w'.cell? ⟨bk, ok + 1, none⟩ = some (u01) ∧ w'.cell? ⟨bk, ok + 2, none⟩ = some (u02) ∧ w'.cell? ⟨bk, ok + 3, none⟩ = some (u03) ∧ w'.cell? ⟨bk, ok + 4, none⟩ = some (.int .i64 k1.op) ∧ w'.cell? ⟨bk, ok + 5, none⟩ = some (u11) ∧ w'.cell? ⟨bk, ok + 6, none⟩ = some (u12) ∧ w'.cell? ⟨bk, ok + 7, none⟩ = some (u13)) (go_keep) (first | (go_at_call 31; (with_reducible refine (HR0.out _ (bel_d _)).mono ?_); rintro e wx ⟨rfl, hbx⟩; have HB : Below wr.heap.size wr wx := bel (bel_d _) hbx; obtain ⟨-, e3, k00, k01, k02, k03, k10, k11, k12, k13⟩ := HC.out wx HB) | (go_at_call 31; (with_reducible refine (HR1.out _ HB).mono ?_); rintro e wx ⟨rfl, hbx⟩; have HB : Below wr.heap.size wr wx := bel HB hbx; obtain ⟨-, e3, k00, k01, k02, k03, k10, k11, k12, k13⟩ := HC.out wx HB) | (go_at_call 40; refine (r_min (by with_reducible first | assumption | exact pat_add _ _ | exact pat_sub _ _ | exact pat_mul _ _ | exact pat_div _ _ | exact pat_sqrt _ | exact pat_from _ | exact pat_rat _ _ | exact pat_qrt _ | exact pat_qrN _ _ | exact pat_0 | exact pat_1 | exact pat_h) (by with_reducible first | assumption | exact pat_add _ _ | exact pat_sub _ _ | exact pat_mul _ _ | exact pat_div _ _ | exact pat_sqrt _ | exact pat_from _ | exact pat_rat _ _ | exact pat_qrt _ | exact pat_qrN _ _ | exact pat_0 | exact pat_1 | exact pat_h) _).mono ?_; rintro e wx ⟨rfl, hbx⟩; have HB : Below wr.heap.size wr wx := (by first | exact bel HB hbx | exact bel (bel HB (bel_d _)) hbx | exact bel (bel (bel HB (bel_d _)) (bel_d _)) hbx); obtain ⟨-, e3, k00, k01, k02, k03, k10, k11, k12, k13⟩ := HC.out wx HB))
      all_goals go_wp2
      all_goals go_ret
      all_goals exact ⟨rfl, bel HB0.out (bel hb HB)⟩

set_option maxRecDepth 100000 in
set_option maxHeartbeats 8000000 in
theorem rat_11 (t : Sc) (hop : t.op = 11) (n : Int) (hn0 : 0 ≤ n) (hn1 : n ≤ 2147483647) (a c d : Value) (hok : sok t) (hNl : t.nums.length ≤ 2147483648) (k0 k1 : Sc) (hks : t.kids = [k0, k1]) (hk0 : RAtA k0) (hk1 : RAtA k1) (so0 : sok k0) (so1 : sok k1) (al0 : allT k0) (al1 : allT k1) (w : World) (hS : SV w t a c d) :
    Calls Try.prog 31 #[.agg #[.int .i64 t.op, a, c, d], .int .i64 n] w fun e w' => e = .returned (.int .i64 (fmax (valT k0 n) (valT k1 n))) ∧ Below w.heap.size w w' := by
  have HOP : Hid (t.op = 11) := hop
  have hx := box_heap w (.cells #[.int .i64 t.op, a, c, d] 26)
  have hb0 := bel_alloc w (.cells #[.int .i64 t.op, a, c, d] 26)
  obtain ⟨W, hW⟩ : ∃ W, w.alloc (.cells #[.int .i64 t.op, a, c, d] 26) = W := ⟨_, rfl⟩
  rw [hW] at hx hb0
  have hSW := hS.below hb0
  have HB0 : Hid (Below w.heap.size w W) := hb0
  have HX : Hid (∀ v, Below W.heap.size W v → v.cell? ⟨w.heap.size, 0, none⟩ = some (.int .i64 t.op) ∧ v.cell? ⟨w.heap.size, 1, none⟩ = some a ∧ v.cell? ⟨w.heap.size, 2, none⟩ = some c ∧ v.cell? ⟨w.heap.size, 3, none⟩ = some d) := fun v hv =>
    ⟨bcell (cell_heap hx 0) hv, bcell (cell_heap hx 1) hv, bcell (cell_heap hx 2) hv, bcell (cell_heap hx 3) hv⟩
  obtain ⟨pn, cn, rfl, hrn⟩ := hSW.nums
  have HRN : Hid (t.nums = [] ∨ ∃ b o, pn = some ⟨b, o, none⟩ ∧ ∀ i (h : i < t.nums.length), W.cell? ⟨b, o + i, none⟩ = some (.int .u32 t.nums[i])) := hrn
  have HSI : Hid (Row W .i64 c t.ints) := hSW.ints
  have HSK : Hid (SK W d t.kids) := hSW.kids
  have HPT : Hid (∀ x ∈ t.nums, Pat x) := fun x hx => hok.1.2.1 x hx
  obtain ⟨ti, hi2, hz2a, hz2b, hz2c⟩ := info_parts info_I8
  obtain ⟨N, hN⟩ : ∃ N, t.nums.length = N := ⟨_, rfl⟩
  have HN : Hid (t.nums.length = N) := hN
  rw [hN] at HX hNl hW ⊢
  have p0 := pat_val k0 so0 al0 n
  have p1 := pat_val k1 so1 al1 n
  obtain ⟨V0, hV0⟩ : ∃ V, valT k0 n = V := ⟨_, rfl⟩
  obtain ⟨V1, hV1⟩ : ∃ V, valT k1 n = V := ⟨_, rfl⟩
  rw [hV0] at p0 ⊢
  rw [hV1] at p1 ⊢
  clear hS hSW hx hb0 hrn hN hop hok
  go_enter Try.func31, Try.ntmps31
  go_wp2
  go_loopw [5, 6] (fun lv iv wr => Below W.heap.size W wr ∧ ∃ (j : Nat) (ov : Value), ov = lv ∧ j ≤ N ∧ iv = .int .i64 j ∧ Hid (wr.ownsRow W.heap.size 3 1 ov j ((t.nums.take j).map (.int .i64)))) (fun _ iv _ => N - (intOf iv).toNat)
  case atStart => exact ⟨bel0 W, 0, _, rfl, Nat.zero_le _, rfl, (by show World.ownsRow _ _ _ _ _ _ _; rw [List.take_zero]; exact World.ownsRow_nil W _ _ 1)⟩
  case round =>
    obtain ⟨hb, j, ov, rfl, hj, rfl, HO⟩ := hrel
    obtain ⟨x0, x1, x2, x3⟩ := HX.out wr hb
    by_cases hlt0 : j < N
    · have hll : j < t.nums.length := by rw [HN.out]; exact hlt0
      obtain ⟨b, o, rfl, c1⟩ : ∃ b o, pn = some ⟨b, o, none⟩ ∧ wr.cell? ⟨b, o + j, none⟩ = some (.int .u32 t.nums[j]) := by
        rcases HRN.out with h | ⟨b, o, e, h⟩
        · rw [h] at hll; exact absurd hll (Nat.not_lt_zero _)
        · exact ⟨b, o, e, bcell (h j hll) hb⟩
      have hpx : Pat t.nums[j] := HPT.out _ (List.getElem_mem hll)
      have HTK : Hid ((t.nums.take (j + 1)).map (Value.int .i64) = (t.nums.take j).map (Value.int .i64) ++ [.int .i64 t.nums[j]]) := by show _ = _; rw [List.take_succ_eq_append_getElem hll, List.map_append]; rfl
      obtain ⟨y, hy⟩ : ∃ y, t.nums[j] = y := ⟨_, rfl⟩
      rw [hy] at c1 hpx HTK
      have ey : IntKind.i64.wrap y = y := by have := hpx.1; have := hpx.2; rw [IntKind.wrap_i64]; omega
      have i1 : (0 : Int) ≤ (j : Int) := by omega
      have i2' : (j : Int) < (N : Int) := by omega
      have hsz := hb.size
      clear hy HRN HSI HSK hpx
      go_wp2_with (at_builtin; refine wpList_append_lies _ rfl _ _ 23 rfl W.heap.size 3 ti _ 1 8 Try.underlying23 hi2 hz2a hz2b hz2c rfl (by decide) ov j ((t.nums.take j).map (Value.int .i64)) rfl (World.ownsRow.alloc HO.out _) ⟨wr.heap.size, 0, none⟩ 1 1 [.int .i64 y] rfl rfl (World.news_of_block (cs := #[.int .i64 y]) (t := 3) (fr := (0, 0)) (box_heap wr _)) (by simp [Value.oneCell']) (by decide) (by unfold maxLen; omega) (by omega) (by simp; omega) (wr.heap.size + 1) (by simp) ?_; intro g cap w4 hown4 hgrow hat hlt4)
      have HB4 : Hid (Below W.heap.size W w4) := Below.grown (bel hb (bel_alloc wr (.cells #[.int .i64 y] 3))) hgrow (by simp; omega) (fun k hk => (HO.out.lt k hk).1)
      have HO4 : Hid (w4.ownsRow W.heap.size 3 1 (.slice (some ⟨g, 0, none⟩) (j + 1) cap) (j + 1) ((t.nums.take (j + 1)).map (Value.int .i64))) := by show World.ownsRow _ _ _ _ _ _ _; rw [HTK.out]; exact hown4
      clear hown4 hgrow hat hlt4
      go_wp2
      go_roundw
      case rel => exact ⟨HB4.out, j + 1, _, rfl, by omega, by go_num, HO4.out⟩
      case measure => simp [intOf]; omega
    · have hjN : j = N := by omega
      have hrow : Row wr .i64 ov t.nums := by
        have h1 := HO.out
        rw [hjN] at h1
        rw [List.take_of_length_le (by rw [HN.out]; exact Nat.le_refl _), ← HN.out] at h1
        exact own_row h1
      have z9 : ¬ (j : Int) < (N : Int) := by omega
      have hop := HOP.out
      rw [hop] at x0 HX
      have HSIr : Hid (Row wr .i64 c t.ints) := HSI.out.below hb
      have HSKr : Hid (SK wr d t.kids) := HSK.out.below hb
      clear HO hlt0 hjN HRN HSI HSK hop HOP HPT hi2 hz2a hz2b hz2c
      obtain ⟨pk, ck, hck, hrk⟩ := HSKr.out
      rw [hks] at hck hrk
      obtain ⟨bk, ok, rfl, hsl⟩ : ∃ b o, pk = some ⟨b, o, none⟩ ∧ SL wr b o [k0, k1] := by
        rcases hrk with h | h
        · cases h
        · exact h
      subst hck
      rw [SL_cons] at hsl
      obtain ⟨u01, u02, u03, k00, k01, k02, k03, hv0⟩ := hsl.1.val
      have hsl := hsl.2
      have HR0 : Hid (∀ v, Below wr.heap.size wr v → Calls Try.prog 31 #[.agg #[.int .i64 k0.op, u01, u02, u03], .int .i64 (n)] v fun e w' => e = .returned (.int .i64 (valT k0 (n))) ∧ Below v.heap.size v w') := fun v hv => hk0 (n) u01 u02 u03 v (by omega) (by omega) so0 al0 (hv0.below hv)
      rw [SL_cons] at hsl
      obtain ⟨u11, u12, u13, k10, k11, k12, k13, hv1⟩ := hsl.1.val
      have hsl := hsl.2
      have HR1 : Hid (∀ v, Below wr.heap.size wr v → Calls Try.prog 31 #[.agg #[.int .i64 k1.op, u11, u12, u13], .int .i64 (n)] v fun e w' => e = .returned (.int .i64 (valT k1 (n))) ∧ Below v.heap.size v w') := fun v hv => hk1 (n) u11 u12 u13 v (by omega) (by omega) so1 al1 (hv1.below hv)
      have HC : Hid (∀ v, Below wr.heap.size wr v → True ∧ v.cell? ⟨w.heap.size, 3, none⟩ = some (.slice (some ⟨bk, ok, none⟩) 2 ck) ∧ v.cell? ⟨bk, ok, none⟩ = some (.int .i64 k0.op) ∧ v.cell? ⟨bk, ok + 1, none⟩ = some (u01) ∧ v.cell? ⟨bk, ok + 2, none⟩ = some (u02) ∧ v.cell? ⟨bk, ok + 3, none⟩ = some (u03) ∧ v.cell? ⟨bk, ok + 4, none⟩ = some (.int .i64 k1.op) ∧ v.cell? ⟨bk, ok + 5, none⟩ = some (u11) ∧ v.cell? ⟨bk, ok + 6, none⟩ = some (u12) ∧ v.cell? ⟨bk, ok + 7, none⟩ = some (u13)) := fun v hv => ⟨trivial, bcell x3 hv, bcell k00 hv, bcell k01 hv, bcell k02 hv, bcell k03 hv, bcell k10 hv, bcell k11 hv, bcell k12 hv, bcell k13 hv⟩
      clear x2 x3 hsl k00 k01 k02 k03 k10 k11 k12 k13 hv0 hv1
      have HB : Below wr.heap.size wr wr := bel0 wr
      obtain ⟨-, e3, k00, k01, k02, k03, k10, k11, k12, k13⟩ := HC.out wr HB
      rw [hV0] at HR0
      rw [hV1] at HR1
      go_wp2
      all_goals go_region_held3 (fun w' => True ∧ w'.cell? ⟨w.heap.size, 3, none⟩ = some (.slice (some ⟨bk, ok, none⟩) 2 ck) ∧ w'.cell? ⟨bk, ok, none⟩ = some (.int .i64 k0.op) ∧ w'.cell? ⟨bk, ok + 1, none⟩ = some (u01) ∧ w'.cell? ⟨bk, ok + 2, none⟩ = some (u02) ∧ w'.cell? ⟨bk, ok + 3, none⟩ = some (u03) ∧ w'.cell? ⟨bk, ok + 4, none⟩ = some (.int .i64 k1.op) ∧ w'.cell? ⟨bk, ok + 5, none⟩ = some (u11) ∧ w'.cell? ⟨bk, ok + 6, none⟩ = some (u12) ∧ w'.cell? ⟨bk, ok + 7, none⟩ = some (u13)) (go_keep) (first | (go_at_call 31; (with_reducible refine (HR0.out _ (bel_d _)).mono ?_); rintro e wx ⟨rfl, hbx⟩; have HB : Below wr.heap.size wr wx := bel (bel_d _) hbx; obtain ⟨-, e3, k00, k01, k02, k03, k10, k11, k12, k13⟩ := HC.out wx HB) | (go_at_call 31; (with_reducible refine (HR1.out _ HB).mono ?_); rintro e wx ⟨rfl, hbx⟩; have HB : Below wr.heap.size wr wx := bel HB hbx; obtain ⟨-, e3, k00, k01, k02, k03, k10, k11, k12, k13⟩ := HC.out wx HB) | (go_at_call 41; refine (r_max (by with_reducible first | assumption | exact pat_add _ _ | exact pat_sub _ _ | exact pat_mul _ _ | exact pat_div _ _ | exact pat_sqrt _ | exact pat_from _ | exact pat_rat _ _ | exact pat_qrt _ | exact pat_qrN _ _ | exact pat_0 | exact pat_1 | exact pat_h) (by with_reducible first | assumption | exact pat_add _ _ | exact pat_sub _ _ | exact pat_mul _ _ | exact pat_div _ _ | exact pat_sqrt _ | exact pat_from _ | exact pat_rat _ _ | exact pat_qrt _ | exact pat_qrN _ _ | exact pat_0 | exact pat_1 | exact pat_h) _).mono ?_; rintro e wx ⟨rfl, hbx⟩; have HB : Below wr.heap.size wr wx := (by first | exact bel HB hbx | exact bel (bel HB (bel_d _)) hbx | exact bel (bel (bel HB (bel_d _)) (bel_d _)) hbx); obtain ⟨-, e3, k00, k01, k02, k03, k10, k11, k12, k13⟩ := HC.out wx HB))
      all_goals go_wp2
      all_goals go_ret
      all_goals exact ⟨rfl, bel HB0.out (bel hb HB)⟩

end Go.Proofs.Ytnogokikiekcbaa
/- The reference's at, rows 12, 13. -/
namespace Go.Proofs.Ytnogokikiekcbaa
open Go.RowKit
set_option linter.unusedVariables false
set_option linter.unusedSimpArgs false

set_option maxRecDepth 100000 in
set_option maxHeartbeats 8000000 in
theorem rat_12 (t : Sc) (hop : t.op = 12) (n : Int) (hn0 : 0 ≤ n) (hn1 : n ≤ 2147483647) (a c d : Value) (hok : sok t) (hNl : t.nums.length ≤ 2147483648) (i0 : Int) (k0 : Sc) (his : t.ints = [i0]) (hks : t.kids = [k0]) (hg : 0 ≤ i0 ∧ i0 ≤ 2147483647) (hk0 : RAtA k0) (so0 : sok k0) (al0 : allT k0) (w : World) (hS : SV w t a c d) :
    Calls Try.prog 31 #[.agg #[.int .i64 t.op, a, c, d], .int .i64 n] w fun e w' => e = .returned (.int .i64 (valT k0 (max (n - i0) 0))) ∧ Below w.heap.size w w' := by
  have HOP : Hid (t.op = 12) := hop
  have hx := box_heap w (.cells #[.int .i64 t.op, a, c, d] 26)
  have hb0 := bel_alloc w (.cells #[.int .i64 t.op, a, c, d] 26)
  obtain ⟨W, hW⟩ : ∃ W, w.alloc (.cells #[.int .i64 t.op, a, c, d] 26) = W := ⟨_, rfl⟩
  rw [hW] at hx hb0
  have hSW := hS.below hb0
  have HB0 : Hid (Below w.heap.size w W) := hb0
  have HX : Hid (∀ v, Below W.heap.size W v → v.cell? ⟨w.heap.size, 0, none⟩ = some (.int .i64 t.op) ∧ v.cell? ⟨w.heap.size, 1, none⟩ = some a ∧ v.cell? ⟨w.heap.size, 2, none⟩ = some c ∧ v.cell? ⟨w.heap.size, 3, none⟩ = some d) := fun v hv =>
    ⟨bcell (cell_heap hx 0) hv, bcell (cell_heap hx 1) hv, bcell (cell_heap hx 2) hv, bcell (cell_heap hx 3) hv⟩
  obtain ⟨pn, cn, rfl, hrn⟩ := hSW.nums
  have HRN : Hid (t.nums = [] ∨ ∃ b o, pn = some ⟨b, o, none⟩ ∧ ∀ i (h : i < t.nums.length), W.cell? ⟨b, o + i, none⟩ = some (.int .u32 t.nums[i])) := hrn
  have HSI : Hid (Row W .i64 c t.ints) := hSW.ints
  have HSK : Hid (SK W d t.kids) := hSW.kids
  have HPT : Hid (∀ x ∈ t.nums, Pat x) := fun x hx => hok.1.2.1 x hx
  obtain ⟨ti, hi2, hz2a, hz2b, hz2c⟩ := info_parts info_I8
  obtain ⟨N, hN⟩ : ∃ N, t.nums.length = N := ⟨_, rfl⟩
  have HN : Hid (t.nums.length = N) := hN
  rw [hN] at HX hNl hW ⊢
  have w1 : IntKind.i64.wrap (n - i0) = n - i0 := by rw [IntKind.wrap_i64]; omega
  obtain ⟨V0, hV0⟩ : ∃ V, valT k0 (max (n - i0) 0) = V := ⟨_, rfl⟩
  rw [hV0]
  clear hS hSW hx hb0 hrn hN hop hok
  go_enter Try.func31, Try.ntmps31
  go_wp2
  go_loopw [5, 6] (fun lv iv wr => Below W.heap.size W wr ∧ ∃ (j : Nat) (ov : Value), ov = lv ∧ j ≤ N ∧ iv = .int .i64 j ∧ Hid (wr.ownsRow W.heap.size 3 1 ov j ((t.nums.take j).map (.int .i64)))) (fun _ iv _ => N - (intOf iv).toNat)
  case atStart => exact ⟨bel0 W, 0, _, rfl, Nat.zero_le _, rfl, (by show World.ownsRow _ _ _ _ _ _ _; rw [List.take_zero]; exact World.ownsRow_nil W _ _ 1)⟩
  case round =>
    obtain ⟨hb, j, ov, rfl, hj, rfl, HO⟩ := hrel
    obtain ⟨x0, x1, x2, x3⟩ := HX.out wr hb
    by_cases hlt0 : j < N
    · have hll : j < t.nums.length := by rw [HN.out]; exact hlt0
      obtain ⟨b, o, rfl, c1⟩ : ∃ b o, pn = some ⟨b, o, none⟩ ∧ wr.cell? ⟨b, o + j, none⟩ = some (.int .u32 t.nums[j]) := by
        rcases HRN.out with h | ⟨b, o, e, h⟩
        · rw [h] at hll; exact absurd hll (Nat.not_lt_zero _)
        · exact ⟨b, o, e, bcell (h j hll) hb⟩
      have hpx : Pat t.nums[j] := HPT.out _ (List.getElem_mem hll)
      have HTK : Hid ((t.nums.take (j + 1)).map (Value.int .i64) = (t.nums.take j).map (Value.int .i64) ++ [.int .i64 t.nums[j]]) := by show _ = _; rw [List.take_succ_eq_append_getElem hll, List.map_append]; rfl
      obtain ⟨y, hy⟩ : ∃ y, t.nums[j] = y := ⟨_, rfl⟩
      rw [hy] at c1 hpx HTK
      have ey : IntKind.i64.wrap y = y := by have := hpx.1; have := hpx.2; rw [IntKind.wrap_i64]; omega
      have i1 : (0 : Int) ≤ (j : Int) := by omega
      have i2' : (j : Int) < (N : Int) := by omega
      have hsz := hb.size
      clear hy HRN HSI HSK hpx
      go_wp2_with (at_builtin; refine wpList_append_lies _ rfl _ _ 23 rfl W.heap.size 3 ti _ 1 8 Try.underlying23 hi2 hz2a hz2b hz2c rfl (by decide) ov j ((t.nums.take j).map (Value.int .i64)) rfl (World.ownsRow.alloc HO.out _) ⟨wr.heap.size, 0, none⟩ 1 1 [.int .i64 y] rfl rfl (World.news_of_block (cs := #[.int .i64 y]) (t := 3) (fr := (0, 0)) (box_heap wr _)) (by simp [Value.oneCell']) (by decide) (by unfold maxLen; omega) (by omega) (by simp; omega) (wr.heap.size + 1) (by simp) ?_; intro g cap w4 hown4 hgrow hat hlt4)
      have HB4 : Hid (Below W.heap.size W w4) := Below.grown (bel hb (bel_alloc wr (.cells #[.int .i64 y] 3))) hgrow (by simp; omega) (fun k hk => (HO.out.lt k hk).1)
      have HO4 : Hid (w4.ownsRow W.heap.size 3 1 (.slice (some ⟨g, 0, none⟩) (j + 1) cap) (j + 1) ((t.nums.take (j + 1)).map (Value.int .i64))) := by show World.ownsRow _ _ _ _ _ _ _; rw [HTK.out]; exact hown4
      clear hown4 hgrow hat hlt4
      go_wp2
      go_roundw
      case rel => exact ⟨HB4.out, j + 1, _, rfl, by omega, by go_num, HO4.out⟩
      case measure => simp [intOf]; omega
    · have hjN : j = N := by omega
      have hrow : Row wr .i64 ov t.nums := by
        have h1 := HO.out
        rw [hjN] at h1
        rw [List.take_of_length_le (by rw [HN.out]; exact Nat.le_refl _), ← HN.out] at h1
        exact own_row h1
      have z9 : ¬ (j : Int) < (N : Int) := by omega
      have hop := HOP.out
      rw [hop] at x0 HX
      have HSIr : Hid (Row wr .i64 c t.ints) := HSI.out.below hb
      have HSKr : Hid (SK wr d t.kids) := HSK.out.below hb
      clear HO hlt0 hjN HRN HSI HSK hop HOP HPT hi2 hz2a hz2b hz2c
      obtain ⟨pi, ci, hcbi, hrbi⟩ := HSIr.out
      rw [his] at hcbi hrbi
      obtain ⟨bi, oi, rfl, di0⟩ : ∃ b o, pi = some ⟨b, o, none⟩ ∧ wr.cell? ⟨b, o, none⟩ = some (.int .i64 i0) := by
        rcases hrbi with h | ⟨b, o, e, h⟩
        · cases h
        · exact ⟨b, o, e, h 0 (by simp)⟩
      subst hcbi
      obtain ⟨pk, ck, hck, hrk⟩ := HSKr.out
      rw [hks] at hck hrk
      obtain ⟨bk, ok, rfl, hsl⟩ : ∃ b o, pk = some ⟨b, o, none⟩ ∧ SL wr b o [k0] := by
        rcases hrk with h | h
        · cases h
        · exact h
      subst hck
      rw [SL_cons] at hsl
      obtain ⟨u01, u02, u03, k00, k01, k02, k03, hv0⟩ := hsl.1.val
      have hsl := hsl.2
      have HR0 : Hid (∀ v, Below wr.heap.size wr v → Calls Try.prog 31 #[.agg #[.int .i64 k0.op, u01, u02, u03], .int .i64 (max (n - i0) 0)] v fun e w' => e = .returned (.int .i64 (valT k0 (max (n - i0) 0))) ∧ Below v.heap.size v w') := fun v hv => hk0 (max (n - i0) 0) u01 u02 u03 v (by omega) (by omega) so0 al0 (hv0.below hv)
      have HC : Hid (∀ v, Below wr.heap.size wr v → v.cell? ⟨w.heap.size, 2, none⟩ = some (.slice (some ⟨bi, oi, none⟩) 1 ci) ∧ v.cell? ⟨w.heap.size, 3, none⟩ = some (.slice (some ⟨bk, ok, none⟩) 1 ck) ∧ v.cell? ⟨bk, ok, none⟩ = some (.int .i64 k0.op) ∧ v.cell? ⟨bk, ok + 1, none⟩ = some (u01) ∧ v.cell? ⟨bk, ok + 2, none⟩ = some (u02) ∧ v.cell? ⟨bk, ok + 3, none⟩ = some (u03) ∧ v.cell? ⟨bi, oi, none⟩ = some (.int .i64 i0)) := fun v hv => ⟨bcell x2 hv, bcell x3 hv, bcell k00 hv, bcell k01 hv, bcell k02 hv, bcell k03 hv, bcell di0 hv⟩
      clear x2 x3 hsl k00 k01 k02 k03 di0 hv0
      have HB : Below wr.heap.size wr wr := bel0 wr
      obtain ⟨e2, e3, k00, k01, k02, k03, di0⟩ := HC.out wr HB
      rw [hV0] at HR0
      go_wp2
      all_goals go_region_held3 (fun w' => w'.cell? ⟨w.heap.size, 2, none⟩ = some (.slice (some ⟨bi, oi, none⟩) 1 ci) ∧ w'.cell? ⟨w.heap.size, 3, none⟩ = some (.slice (some ⟨bk, ok, none⟩) 1 ck) ∧ w'.cell? ⟨bk, ok, none⟩ = some (.int .i64 k0.op) ∧ w'.cell? ⟨bk, ok + 1, none⟩ = some (u01) ∧ w'.cell? ⟨bk, ok + 2, none⟩ = some (u02) ∧ w'.cell? ⟨bk, ok + 3, none⟩ = some (u03) ∧ w'.cell? ⟨bi, oi, none⟩ = some (.int .i64 i0)) (go_keep) (first | (go_at_call 31; (with_reducible refine (HR0.out _ (bel_d _)).mono ?_); rintro e wx ⟨rfl, hbx⟩; have HB : Below wr.heap.size wr wx := bel (bel_d _) hbx; obtain ⟨e2, e3, k00, k01, k02, k03, di0⟩ := HC.out wx HB))
      all_goals go_wp2
      all_goals go_ret
      all_goals exact ⟨rfl, bel HB0.out (bel hb HB)⟩

set_option maxRecDepth 100000 in
set_option maxHeartbeats 8000000 in
theorem rat_13 (t : Sc) (hop : t.op = 13) (n : Int) (hn0 : 0 ≤ n) (hn1 : n ≤ 2147483647) (a c d : Value) (hok : sok t) (hNl : t.nums.length ≤ 2147483648) (i0 : Int) (k0 : Sc) (his : t.ints = [i0]) (hks : t.kids = [k0]) (hg : 0 ≤ i0 ∧ i0 ≤ 2147483647) (hk0 : RAtA k0) (so0 : sok k0) (al0 : allT k0) (w : World) (hS : SV w t a c d) :
    Calls Try.prog 31 #[.agg #[.int .i64 t.op, a, c, d], .int .i64 n] w fun e w' => e = .returned (.int .i64 (valT k0 (min n i0))) ∧ Below w.heap.size w w' := by
  have HOP : Hid (t.op = 13) := hop
  have hx := box_heap w (.cells #[.int .i64 t.op, a, c, d] 26)
  have hb0 := bel_alloc w (.cells #[.int .i64 t.op, a, c, d] 26)
  obtain ⟨W, hW⟩ : ∃ W, w.alloc (.cells #[.int .i64 t.op, a, c, d] 26) = W := ⟨_, rfl⟩
  rw [hW] at hx hb0
  have hSW := hS.below hb0
  have HB0 : Hid (Below w.heap.size w W) := hb0
  have HX : Hid (∀ v, Below W.heap.size W v → v.cell? ⟨w.heap.size, 0, none⟩ = some (.int .i64 t.op) ∧ v.cell? ⟨w.heap.size, 1, none⟩ = some a ∧ v.cell? ⟨w.heap.size, 2, none⟩ = some c ∧ v.cell? ⟨w.heap.size, 3, none⟩ = some d) := fun v hv =>
    ⟨bcell (cell_heap hx 0) hv, bcell (cell_heap hx 1) hv, bcell (cell_heap hx 2) hv, bcell (cell_heap hx 3) hv⟩
  obtain ⟨pn, cn, rfl, hrn⟩ := hSW.nums
  have HRN : Hid (t.nums = [] ∨ ∃ b o, pn = some ⟨b, o, none⟩ ∧ ∀ i (h : i < t.nums.length), W.cell? ⟨b, o + i, none⟩ = some (.int .u32 t.nums[i])) := hrn
  have HSI : Hid (Row W .i64 c t.ints) := hSW.ints
  have HSK : Hid (SK W d t.kids) := hSW.kids
  have HPT : Hid (∀ x ∈ t.nums, Pat x) := fun x hx => hok.1.2.1 x hx
  obtain ⟨ti, hi2, hz2a, hz2b, hz2c⟩ := info_parts info_I8
  obtain ⟨N, hN⟩ : ∃ N, t.nums.length = N := ⟨_, rfl⟩
  have HN : Hid (t.nums.length = N) := hN
  rw [hN] at HX hNl hW ⊢
  obtain ⟨V0, hV0⟩ : ∃ V, valT k0 (min n i0) = V := ⟨_, rfl⟩
  rw [hV0]
  clear hS hSW hx hb0 hrn hN hop hok
  go_enter Try.func31, Try.ntmps31
  go_wp2
  go_loopw [5, 6] (fun lv iv wr => Below W.heap.size W wr ∧ ∃ (j : Nat) (ov : Value), ov = lv ∧ j ≤ N ∧ iv = .int .i64 j ∧ Hid (wr.ownsRow W.heap.size 3 1 ov j ((t.nums.take j).map (.int .i64)))) (fun _ iv _ => N - (intOf iv).toNat)
  case atStart => exact ⟨bel0 W, 0, _, rfl, Nat.zero_le _, rfl, (by show World.ownsRow _ _ _ _ _ _ _; rw [List.take_zero]; exact World.ownsRow_nil W _ _ 1)⟩
  case round =>
    obtain ⟨hb, j, ov, rfl, hj, rfl, HO⟩ := hrel
    obtain ⟨x0, x1, x2, x3⟩ := HX.out wr hb
    by_cases hlt0 : j < N
    · have hll : j < t.nums.length := by rw [HN.out]; exact hlt0
      obtain ⟨b, o, rfl, c1⟩ : ∃ b o, pn = some ⟨b, o, none⟩ ∧ wr.cell? ⟨b, o + j, none⟩ = some (.int .u32 t.nums[j]) := by
        rcases HRN.out with h | ⟨b, o, e, h⟩
        · rw [h] at hll; exact absurd hll (Nat.not_lt_zero _)
        · exact ⟨b, o, e, bcell (h j hll) hb⟩
      have hpx : Pat t.nums[j] := HPT.out _ (List.getElem_mem hll)
      have HTK : Hid ((t.nums.take (j + 1)).map (Value.int .i64) = (t.nums.take j).map (Value.int .i64) ++ [.int .i64 t.nums[j]]) := by show _ = _; rw [List.take_succ_eq_append_getElem hll, List.map_append]; rfl
      obtain ⟨y, hy⟩ : ∃ y, t.nums[j] = y := ⟨_, rfl⟩
      rw [hy] at c1 hpx HTK
      have ey : IntKind.i64.wrap y = y := by have := hpx.1; have := hpx.2; rw [IntKind.wrap_i64]; omega
      have i1 : (0 : Int) ≤ (j : Int) := by omega
      have i2' : (j : Int) < (N : Int) := by omega
      have hsz := hb.size
      clear hy HRN HSI HSK hpx
      go_wp2_with (at_builtin; refine wpList_append_lies _ rfl _ _ 23 rfl W.heap.size 3 ti _ 1 8 Try.underlying23 hi2 hz2a hz2b hz2c rfl (by decide) ov j ((t.nums.take j).map (Value.int .i64)) rfl (World.ownsRow.alloc HO.out _) ⟨wr.heap.size, 0, none⟩ 1 1 [.int .i64 y] rfl rfl (World.news_of_block (cs := #[.int .i64 y]) (t := 3) (fr := (0, 0)) (box_heap wr _)) (by simp [Value.oneCell']) (by decide) (by unfold maxLen; omega) (by omega) (by simp; omega) (wr.heap.size + 1) (by simp) ?_; intro g cap w4 hown4 hgrow hat hlt4)
      have HB4 : Hid (Below W.heap.size W w4) := Below.grown (bel hb (bel_alloc wr (.cells #[.int .i64 y] 3))) hgrow (by simp; omega) (fun k hk => (HO.out.lt k hk).1)
      have HO4 : Hid (w4.ownsRow W.heap.size 3 1 (.slice (some ⟨g, 0, none⟩) (j + 1) cap) (j + 1) ((t.nums.take (j + 1)).map (Value.int .i64))) := by show World.ownsRow _ _ _ _ _ _ _; rw [HTK.out]; exact hown4
      clear hown4 hgrow hat hlt4
      go_wp2
      go_roundw
      case rel => exact ⟨HB4.out, j + 1, _, rfl, by omega, by go_num, HO4.out⟩
      case measure => simp [intOf]; omega
    · have hjN : j = N := by omega
      have hrow : Row wr .i64 ov t.nums := by
        have h1 := HO.out
        rw [hjN] at h1
        rw [List.take_of_length_le (by rw [HN.out]; exact Nat.le_refl _), ← HN.out] at h1
        exact own_row h1
      have z9 : ¬ (j : Int) < (N : Int) := by omega
      have hop := HOP.out
      rw [hop] at x0 HX
      have HSIr : Hid (Row wr .i64 c t.ints) := HSI.out.below hb
      have HSKr : Hid (SK wr d t.kids) := HSK.out.below hb
      clear HO hlt0 hjN HRN HSI HSK hop HOP HPT hi2 hz2a hz2b hz2c
      obtain ⟨pi, ci, hcbi, hrbi⟩ := HSIr.out
      rw [his] at hcbi hrbi
      obtain ⟨bi, oi, rfl, di0⟩ : ∃ b o, pi = some ⟨b, o, none⟩ ∧ wr.cell? ⟨b, o, none⟩ = some (.int .i64 i0) := by
        rcases hrbi with h | ⟨b, o, e, h⟩
        · cases h
        · exact ⟨b, o, e, h 0 (by simp)⟩
      subst hcbi
      obtain ⟨pk, ck, hck, hrk⟩ := HSKr.out
      rw [hks] at hck hrk
      obtain ⟨bk, ok, rfl, hsl⟩ : ∃ b o, pk = some ⟨b, o, none⟩ ∧ SL wr b o [k0] := by
        rcases hrk with h | h
        · cases h
        · exact h
      subst hck
      rw [SL_cons] at hsl
      obtain ⟨u01, u02, u03, k00, k01, k02, k03, hv0⟩ := hsl.1.val
      have hsl := hsl.2
      have HR0 : Hid (∀ v, Below wr.heap.size wr v → Calls Try.prog 31 #[.agg #[.int .i64 k0.op, u01, u02, u03], .int .i64 (min n i0)] v fun e w' => e = .returned (.int .i64 (valT k0 (min n i0))) ∧ Below v.heap.size v w') := fun v hv => hk0 (min n i0) u01 u02 u03 v (by omega) (by omega) so0 al0 (hv0.below hv)
      have HC : Hid (∀ v, Below wr.heap.size wr v → v.cell? ⟨w.heap.size, 2, none⟩ = some (.slice (some ⟨bi, oi, none⟩) 1 ci) ∧ v.cell? ⟨w.heap.size, 3, none⟩ = some (.slice (some ⟨bk, ok, none⟩) 1 ck) ∧ v.cell? ⟨bk, ok, none⟩ = some (.int .i64 k0.op) ∧ v.cell? ⟨bk, ok + 1, none⟩ = some (u01) ∧ v.cell? ⟨bk, ok + 2, none⟩ = some (u02) ∧ v.cell? ⟨bk, ok + 3, none⟩ = some (u03) ∧ v.cell? ⟨bi, oi, none⟩ = some (.int .i64 i0)) := fun v hv => ⟨bcell x2 hv, bcell x3 hv, bcell k00 hv, bcell k01 hv, bcell k02 hv, bcell k03 hv, bcell di0 hv⟩
      clear x2 x3 hsl k00 k01 k02 k03 di0 hv0
      have HB : Below wr.heap.size wr wr := bel0 wr
      obtain ⟨e2, e3, k00, k01, k02, k03, di0⟩ := HC.out wr HB
      rw [hV0] at HR0
      go_wp2
      all_goals go_region_held3 (fun w' => w'.cell? ⟨w.heap.size, 2, none⟩ = some (.slice (some ⟨bi, oi, none⟩) 1 ci) ∧ w'.cell? ⟨w.heap.size, 3, none⟩ = some (.slice (some ⟨bk, ok, none⟩) 1 ck) ∧ w'.cell? ⟨bk, ok, none⟩ = some (.int .i64 k0.op) ∧ w'.cell? ⟨bk, ok + 1, none⟩ = some (u01) ∧ w'.cell? ⟨bk, ok + 2, none⟩ = some (u02) ∧ w'.cell? ⟨bk, ok + 3, none⟩ = some (u03) ∧ w'.cell? ⟨bi, oi, none⟩ = some (.int .i64 i0)) (go_keep) (first | (go_at_call 31; (with_reducible refine (HR0.out _ (bel_d _)).mono ?_); rintro e wx ⟨rfl, hbx⟩; have HB : Below wr.heap.size wr wx := bel (bel_d _) hbx; obtain ⟨e2, e3, k00, k01, k02, k03, di0⟩ := HC.out wx HB))
      all_goals go_wp2
      all_goals go_ret
      all_goals exact ⟨rfl, bel HB0.out (bel hb HB)⟩

end Go.Proofs.Ytnogokikiekcbaa
/- The reference's at, piecewise. -/
namespace Go.Proofs.Ytnogokikiekcbaa
open Go.RowKit
set_option linter.unusedVariables false
set_option linter.unusedSimpArgs false

theorem rises_iffR (n : Int) : ∀ (l : List Int) (a : Int), risesA a l = true → ∀ j (hj : j < l.length), (l[j] ≤ n ↔ j < kidOf n l)
  | [], a, _, j, hj => absurd hj (Nat.not_lt_zero _)
  | b :: bs, a, h, j, hj => by
    simp only [risesA, Bool.and_eq_true, decide_eq_true_eq] at h
    simp only [kidOf]
    by_cases hb : b ≤ n
    · rw [if_pos hb]
      cases j with
      | zero => simp [hb]
      | succ j =>
        have := rises_iffR n bs b h.2 j (by simpa using hj)
        simp only [List.getElem_cons_succ]
        omega
    · rw [if_neg hb]
      cases j with
      | zero => simp [hb]
      | succ j =>
        have := (risesA_get bs b h.2 j (by simpa using hj)).1
        simp only [List.getElem_cons_succ]
        omega

set_option maxRecDepth 100000 in
set_option maxHeartbeats 8000000 in
theorem rat_5 (t : Sc) (hop : t.op = 5) (n : Int) (hn0 : 0 ≤ n) (hn1 : n ≤ 2147483647) (a c d : Value) (hok : sok t) (hNl : t.nums.length ≤ 2147483648) (n0 : Int) (ss : List Int) (hns : t.nums = n0 :: ss) (hl : t.ints.length = ss.length) (hr : risesA 0 t.ints = true) (p0 : Pat n0) (hps : ∀ x ∈ ss, 0 ≤ x ∧ x < 4294967296) (w : World) (hS : SV w t a c d) :
    Calls Try.prog 31 #[.agg #[.int .i64 t.op, a, c, d], .int .i64 n] w fun e w' => e = .returned (.int .i64 (pmul n0 ss (kidOf n t.ints))) ∧ Below w.heap.size w w' := by
  have HOP : Hid (t.op = 5) := hop
  have hx := box_heap w (.cells #[.int .i64 t.op, a, c, d] 26)
  have hb0 := bel_alloc w (.cells #[.int .i64 t.op, a, c, d] 26)
  obtain ⟨W, hW⟩ : ∃ W, w.alloc (.cells #[.int .i64 t.op, a, c, d] 26) = W := ⟨_, rfl⟩
  rw [hW] at hx hb0
  have hSW := hS.below hb0
  have HB0 : Hid (Below w.heap.size w W) := hb0
  have HX : Hid (∀ v, Below W.heap.size W v → v.cell? ⟨w.heap.size, 0, none⟩ = some (.int .i64 t.op) ∧ v.cell? ⟨w.heap.size, 1, none⟩ = some a ∧ v.cell? ⟨w.heap.size, 2, none⟩ = some c ∧ v.cell? ⟨w.heap.size, 3, none⟩ = some d) := fun v hv =>
    ⟨bcell (cell_heap hx 0) hv, bcell (cell_heap hx 1) hv, bcell (cell_heap hx 2) hv, bcell (cell_heap hx 3) hv⟩
  obtain ⟨pn, cn, rfl, hrn⟩ := hSW.nums
  have HRN : Hid (t.nums = [] ∨ ∃ b o, pn = some ⟨b, o, none⟩ ∧ ∀ i (h : i < t.nums.length), W.cell? ⟨b, o + i, none⟩ = some (.int .u32 t.nums[i])) := hrn
  have HSI : Hid (Row W .i64 c t.ints) := hSW.ints
  have HSK : Hid (SK W d t.kids) := hSW.kids
  have HPT : Hid (∀ x ∈ t.nums, Pat x) := fun x hx => hok.1.2.1 x hx
  obtain ⟨ti, hi2, hz2a, hz2b, hz2c⟩ := info_parts info_I8
  obtain ⟨N, hN⟩ : ∃ N, t.nums.length = N := ⟨_, rfl⟩
  have HN : Hid (t.nums.length = N) := hN
  rw [hN] at HX hNl hW ⊢
  have HIF : Hid (∀ j (hj : j < t.ints.length), t.ints[j] ≤ n ↔ j < kidOf n t.ints) := fun j hj => rises_iffR n t.ints 0 hr j hj
  obtain ⟨K, hK⟩ : ∃ K, kidOf n t.ints = K := ⟨_, rfl⟩
  have hKL : K ≤ t.ints.length := by rw [← hK]; exact kid_le n t.ints
  rw [hK] at HIF ⊢
  have HNS : Hid (t.nums = n0 :: ss) := hns
  have HPS : Hid (∀ x ∈ ss, 0 ≤ x ∧ x < 4294967296) := hps
  obtain ⟨IL, hIL⟩ : ∃ IL, t.ints.length = IL := ⟨_, rfl⟩
  have HIL : Hid (t.ints.length = IL) := hIL
  have HSL : Hid (ss.length = IL) := hl ▸ hIL
  have hNI : N = IL + 1 := by rw [← hN, hns, List.length_cons, ← hl, hIL]
  have HNI : Hid (N = IL + 1) := hNI
  have hILb : IL ≤ 2147483647 := by omega
  rw [hIL] at hKL
  clear hNI hIL hl hns hps hK hr
  clear hS hSW hx hb0 hrn hN hop hok
  go_enter Try.func31, Try.ntmps31
  go_wp2
  go_loopw [5, 6] (fun lv iv wr => Below W.heap.size W wr ∧ ∃ (j : Nat) (ov : Value), ov = lv ∧ j ≤ N ∧ iv = .int .i64 j ∧ Hid (wr.ownsRow W.heap.size 3 1 ov j ((t.nums.take j).map (.int .i64)))) (fun _ iv _ => N - (intOf iv).toNat)
  case atStart => exact ⟨bel0 W, 0, _, rfl, Nat.zero_le _, rfl, (by show World.ownsRow _ _ _ _ _ _ _; rw [List.take_zero]; exact World.ownsRow_nil W _ _ 1)⟩
  case round =>
    obtain ⟨hb, j, ov, rfl, hj, rfl, HO⟩ := hrel
    obtain ⟨x0, x1, x2, x3⟩ := HX.out wr hb
    by_cases hlt0 : j < N
    · have hll : j < t.nums.length := by rw [HN.out]; exact hlt0
      obtain ⟨b, o, rfl, c1⟩ : ∃ b o, pn = some ⟨b, o, none⟩ ∧ wr.cell? ⟨b, o + j, none⟩ = some (.int .u32 t.nums[j]) := by
        rcases HRN.out with h | ⟨b, o, e, h⟩
        · rw [h] at hll; exact absurd hll (Nat.not_lt_zero _)
        · exact ⟨b, o, e, bcell (h j hll) hb⟩
      have hpx : Pat t.nums[j] := HPT.out _ (List.getElem_mem hll)
      have HTK : Hid ((t.nums.take (j + 1)).map (Value.int .i64) = (t.nums.take j).map (Value.int .i64) ++ [.int .i64 t.nums[j]]) := by show _ = _; rw [List.take_succ_eq_append_getElem hll, List.map_append]; rfl
      obtain ⟨y, hy⟩ : ∃ y, t.nums[j] = y := ⟨_, rfl⟩
      rw [hy] at c1 hpx HTK
      have ey : IntKind.i64.wrap y = y := by have := hpx.1; have := hpx.2; rw [IntKind.wrap_i64]; omega
      have i1 : (0 : Int) ≤ (j : Int) := by omega
      have i2' : (j : Int) < (N : Int) := by omega
      have hsz := hb.size
      clear hy HRN HSI HSK hpx
      go_wp2_with (at_builtin; refine wpList_append_lies _ rfl _ _ 23 rfl W.heap.size 3 ti _ 1 8 Try.underlying23 hi2 hz2a hz2b hz2c rfl (by decide) ov j ((t.nums.take j).map (Value.int .i64)) rfl (World.ownsRow.alloc HO.out _) ⟨wr.heap.size, 0, none⟩ 1 1 [.int .i64 y] rfl rfl (World.news_of_block (cs := #[.int .i64 y]) (t := 3) (fr := (0, 0)) (box_heap wr _)) (by simp [Value.oneCell']) (by decide) (by unfold maxLen; omega) (by omega) (by simp; omega) (wr.heap.size + 1) (by simp) ?_; intro g cap w4 hown4 hgrow hat hlt4)
      have HB4 : Hid (Below W.heap.size W w4) := Below.grown (bel hb (bel_alloc wr (.cells #[.int .i64 y] 3))) hgrow (by simp; omega) (fun k hk => (HO.out.lt k hk).1)
      have HO4 : Hid (w4.ownsRow W.heap.size 3 1 (.slice (some ⟨g, 0, none⟩) (j + 1) cap) (j + 1) ((t.nums.take (j + 1)).map (Value.int .i64))) := by show World.ownsRow _ _ _ _ _ _ _; rw [HTK.out]; exact hown4
      clear hown4 hgrow hat hlt4
      go_wp2
      go_roundw
      case rel => exact ⟨HB4.out, j + 1, _, rfl, by omega, by go_num, HO4.out⟩
      case measure => simp [intOf]; omega
    · have hjN : j = N := by omega
      have hrow : Row wr .i64 ov t.nums := by
        have h1 := HO.out
        rw [hjN] at h1
        rw [List.take_of_length_le (by rw [HN.out]; exact Nat.le_refl _), ← HN.out] at h1
        exact own_row h1
      have z9 : ¬ (j : Int) < (N : Int) := by omega
      have hop := HOP.out
      rw [hop] at x0 HX
      have HSIr : Hid (Row wr .i64 c t.ints) := HSI.out.below hb
      have HSKr : Hid (SK wr d t.kids) := HSK.out.below hb
      clear HO hlt0 hjN HRN HSI HSK hop HOP HPT hi2 hz2a hz2b hz2c
      obtain ⟨pl, cl, rfl, hrl⟩ := hrow
      obtain ⟨bl, ol, rfl, hrl2⟩ : ∃ b o, pl = some ⟨b, o, none⟩ ∧ ∀ i (h : i < t.nums.length), wr.cell? ⟨b, o + i, none⟩ = some (.int .i64 t.nums[i]) := by
        rcases hrl with h | h
        · rw [HNS.out] at h; cases h
        · exact h
      obtain ⟨pi, ci, rfl, hri⟩ := HSIr.out
      rw [HIL.out] at x2 HX HSIr
      rw [HN.out]
      have HRI : Hid (t.ints = [] ∨ ∃ b o, pi = some ⟨b, o, none⟩ ∧ ∀ i (h : i < t.ints.length), wr.cell? ⟨b, o + i, none⟩ = some (.int .i64 t.ints[i])) := hri
      have HRL : Hid (∀ i (h : i < t.nums.length), wr.cell? ⟨bl, ol + i, none⟩ = some (.int .i64 t.nums[i])) := hrl2
      have dl0 : wr.cell? ⟨bl, ol, none⟩ = some (.int .i64 n0) := by have := hrl2 0 (by rw [HNS.out]; simp); simpa [HNS.out] using this
      have hNpos : (0 : Int) < (N : Int) := by have := HNI.out; omega
      have HXr : Hid (∀ v, Below wr.heap.size wr v → v.cell? ⟨w.heap.size, 2, none⟩ = some (.slice pi IL ci)) := fun v hv => bcell x2 hv
      have HBr : Hid (Below W.heap.size W wr) := hb
      clear hri hrl hrl2 x3 HSIr HSKr hb
      go_wp2
      rename World => Z9
      go_loopw [14, 15] (fun sv iv wq => Below Z9.heap.size Z9 wq ∧ ∃ j : Nat, j ≤ IL ∧ iv = .int .i64 j ∧ sv = .int .i64 (pmul n0 ss (min j K))) (fun _ iv _ => IL - (intOf iv).toNat)
      case atStart => exact ⟨bel0 _, 0, Nat.zero_le _, rfl, by rw [Nat.zero_min]; rfl⟩
      case round =>
        obtain ⟨hbq, j, hjI, rfl, rfl⟩ := hrel
        have e2 := HXr.out wr hbq
        by_cases hlt0 : j < IL
        · have hli : j < t.ints.length := by rw [HIL.out]; exact hlt0
          have hls : j < ss.length := by rw [HSL.out]; exact hlt0
          obtain ⟨b2, o2, rfl, g1⟩ : ∃ b o, pi = some ⟨b, o, none⟩ ∧ wr.cell? ⟨b, o + j, none⟩ = some (.int .i64 t.ints[j]) := by
            rcases HRI.out with h | ⟨b, o, e, h⟩
            · rw [h] at hli; exact absurd hli (Nat.not_lt_zero _)
            · exact ⟨b, o, e, bcell (h j hli) hbq⟩
          have hif := HIF.out j hli
          obtain ⟨x, hx⟩ : ∃ x, t.ints[j] = x := ⟨_, rfl⟩
          rw [hx] at g1 hif
          have i1 : (0 : Int) ≤ (j : Int) := by omega
          have i2 : (j : Int) < (IL : Int) := by omega
          have w1 : IntKind.i64.wrap ((j : Int) + 1) = (j : Int) + 1 := by rw [IntKind.wrap_i64]; omega
          by_cases hle : x ≤ n
          · have hjk := hif.1 hle
            have hjn : j + 1 < t.nums.length := by rw [HNS.out]; simpa using hls
            have d1 : wr.cell? ⟨bl, ol + (j + 1), none⟩ = some (.int .i64 ss[j]) := by
              have := bcell (HRL.out (j + 1) hjn) hbq
              simpa [HNS.out] using this
            have hsuc := pmul_succ n0 ss j hls
            have hp1 : Pat (pmul n0 ss j) := pat_pmul p0 ss j (by omega)
            have hp2 : Pat ss[j] := HPS.out _ (List.getElem_mem hls)
            obtain ⟨y, hy⟩ : ∃ y, ss[j] = y := ⟨_, rfl⟩
            rw [hy] at d1 hp2 hsuc
            rw [show min j K = j by omega]
            obtain ⟨Q, hQ⟩ : ∃ Q, pmul n0 ss j = Q := ⟨_, rfl⟩
            rw [hQ] at hp1 hsuc ⊢
            have HSU : Hid (pmul n0 ss (min (j + 1) K) = fmul Q y) := by show _ = _; rw [show min (j + 1) K = j + 1 by omega]; exact hsuc
            have i3 : (0 : Int) ≤ (j : Int) + 1 := by omega
            have i4 : (j : Int) + 1 < (N : Int) := by have := HNI.out; omega
            have t1 : ((j : Int) + 1).toNat = j + 1 := by omega
            clear hsuc hif hx hy hQ HIF HRI HRL HSL HIL HNS HNI
            go_wp2_with (go_at_call 26; refine (r_mul hp1 hp2 _).mono ?_; rintro e wx ⟨rfl, hbx⟩)
            go_roundw
            case rel => exact ⟨bel hbq hbx, j + 1, by omega, by go_num, by rw [HSU.out]⟩
            case measure => simp [intOf]; omega
          · have hjk : ¬ j < K := fun h => hle (hif.2 h)
            obtain ⟨Q, hQ⟩ : ∃ Q, pmul n0 ss (min j K) = Q := ⟨_, rfl⟩
            rw [hQ]
            have HSU : Hid (pmul n0 ss (min (j + 1) K) = Q) := by show _ = _; rw [show min (j + 1) K = min j K by omega]; exact hQ
            clear hif hx HIF HRI HRL HSL HIL HNS HNI hQ
            go_wp2
            go_roundw
            case rel => exact ⟨hbq, j + 1, by omega, by go_num, by rw [HSU.out]⟩
            case measure => simp [intOf]; omega
        · have hji : ¬ (j : Int) < (IL : Int) := by omega
          rw [show min j K = K by omega]
          clear HIF HRI HRL HSL HIL HNS HNI
          go_wp2
          go_ret
          exact ⟨rfl, bel HB0.out (bel HBr.out hbq)⟩

set_option maxRecDepth 100000 in
set_option maxHeartbeats 8000000 in
theorem rat_6 (t : Sc) (hop : t.op = 6) (n : Int) (hn0 : 0 ≤ n) (hn1 : n ≤ 2147483647) (a c d : Value) (hok : sok t) (hNl : t.nums.length ≤ 2147483648) (hr : risesA 0 t.ints = true) (hkl : t.kids.length = t.ints.length + 1) (hall : allF t.kids) (ih : ∀ k ∈ t.kids, RAtA k) (w : World) (hS : SV w t a c d) :
    Calls Try.prog 31 #[.agg #[.int .i64 t.op, a, c, d], .int .i64 n] w fun e w' => e = .returned (.int .i64 ((valsL t.kids).getD (kidOf n t.ints) id (n - fromOf t.ints (kidOf n t.ints)))) ∧ Below w.heap.size w w' := by
  have HOP : Hid (t.op = 6) := hop
  have hx := box_heap w (.cells #[.int .i64 t.op, a, c, d] 26)
  have hb0 := bel_alloc w (.cells #[.int .i64 t.op, a, c, d] 26)
  obtain ⟨W, hW⟩ : ∃ W, w.alloc (.cells #[.int .i64 t.op, a, c, d] 26) = W := ⟨_, rfl⟩
  rw [hW] at hx hb0
  have hSW := hS.below hb0
  have HB0 : Hid (Below w.heap.size w W) := hb0
  have HX : Hid (∀ v, Below W.heap.size W v → v.cell? ⟨w.heap.size, 0, none⟩ = some (.int .i64 t.op) ∧ v.cell? ⟨w.heap.size, 1, none⟩ = some a ∧ v.cell? ⟨w.heap.size, 2, none⟩ = some c ∧ v.cell? ⟨w.heap.size, 3, none⟩ = some d) := fun v hv =>
    ⟨bcell (cell_heap hx 0) hv, bcell (cell_heap hx 1) hv, bcell (cell_heap hx 2) hv, bcell (cell_heap hx 3) hv⟩
  obtain ⟨pn, cn, rfl, hrn⟩ := hSW.nums
  have HRN : Hid (t.nums = [] ∨ ∃ b o, pn = some ⟨b, o, none⟩ ∧ ∀ i (h : i < t.nums.length), W.cell? ⟨b, o + i, none⟩ = some (.int .u32 t.nums[i])) := hrn
  have HSI : Hid (Row W .i64 c t.ints) := hSW.ints
  have HSK : Hid (SK W d t.kids) := hSW.kids
  have HPT : Hid (∀ x ∈ t.nums, Pat x) := fun x hx => hok.1.2.1 x hx
  obtain ⟨ti, hi2, hz2a, hz2b, hz2c⟩ := info_parts info_I8
  obtain ⟨N, hN⟩ : ∃ N, t.nums.length = N := ⟨_, rfl⟩
  have HN : Hid (t.nums.length = N) := hN
  rw [hN] at HX hNl hW ⊢
  have HIF : Hid (∀ j (hj : j < t.ints.length), t.ints[j] ≤ n ↔ j < kidOf n t.ints) := fun j hj => rises_iffR n t.ints 0 hr j hj
  obtain ⟨K, hK⟩ : ∃ K, kidOf n t.ints = K := ⟨_, rfl⟩
  have hKL : K ≤ t.ints.length := by rw [← hK]; exact kid_le n t.ints
  have hfl := from_le hr hn0 K (by rw [hK]; exact Nat.le_refl _)
  have hfr : 0 ≤ fromOf t.ints K ∧ fromOf t.ints K ≤ n := by omega
  rw [hK] at HIF ⊢
  have hKk : K < t.kids.length := by omega
  rw [vals_at t hKk]
  have hmem := List.getElem_mem hKk
  have hia := ih _ hmem
  have hsk : sok t.kids[K] := (sokL_iff _).1 hok.2 _ hmem
  have hak : allT t.kids[K] := (allF_iff _).1 hall _ hmem
  obtain ⟨Y, hY⟩ : ∃ Y, t.kids[K] = Y := ⟨_, rfl⟩
  have HYE : Hid (∀ h : K < t.kids.length, t.kids[K] = Y) := fun h => hY
  rw [hY] at hia hsk hak ⊢
  obtain ⟨V, hV⟩ : ∃ V, valT Y (n - fromOf t.ints K) = V := ⟨_, rfl⟩
  rw [hV]
  have HKID : Hid (∀ (u1 u2 u3 : Value) (v : World), SV v Y u1 u2 u3 → Calls Try.prog 31 #[.agg #[.int .i64 Y.op, u1, u2, u3], .int .i64 (n - fromOf t.ints K)] v fun e w' => e = .returned (.int .i64 V) ∧ Below v.heap.size v w') := fun u1 u2 u3 v hv => by
    have := hia (n - fromOf t.ints K) u1 u2 u3 v (by omega) (by omega) hsk hak hv
    rw [hV] at this
    exact this
  obtain ⟨IL, hIL⟩ : ∃ IL, t.ints.length = IL := ⟨_, rfl⟩
  have HIL : Hid (t.ints.length = IL) := hIL
  have hILb : IL ≤ 2147483647 := by have := risesA_len t.ints 0 hr (by decide); omega
  have HKK : Hid (t.kids.length = IL + 1) := by show _ = _; omega
  have HKLT : Hid (K < t.kids.length) := hKk
  have hwf : IntKind.i64.wrap (n - fromOf t.ints K) = n - fromOf t.ints K := by rw [IntKind.wrap_i64]; omega
  have HFA : Hid (∀ j (h : j < t.ints.length), fromOf t.ints (j + 1) = t.ints[j]) := from_at t.ints
  rw [hIL] at hKL
  clear hIL hkl hK hr hV hia hsk hak hmem hY hKk ih hall hfl
  clear hS hSW hx hb0 hrn hN hop hok
  go_enter Try.func31, Try.ntmps31
  go_wp2
  go_loopw [5, 6] (fun lv iv wr => Below W.heap.size W wr ∧ ∃ (j : Nat) (ov : Value), ov = lv ∧ j ≤ N ∧ iv = .int .i64 j ∧ Hid (wr.ownsRow W.heap.size 3 1 ov j ((t.nums.take j).map (.int .i64)))) (fun _ iv _ => N - (intOf iv).toNat)
  case atStart => exact ⟨bel0 W, 0, _, rfl, Nat.zero_le _, rfl, (by show World.ownsRow _ _ _ _ _ _ _; rw [List.take_zero]; exact World.ownsRow_nil W _ _ 1)⟩
  case round =>
    obtain ⟨hb, j, ov, rfl, hj, rfl, HO⟩ := hrel
    obtain ⟨x0, x1, x2, x3⟩ := HX.out wr hb
    by_cases hlt0 : j < N
    · have hll : j < t.nums.length := by rw [HN.out]; exact hlt0
      obtain ⟨b, o, rfl, c1⟩ : ∃ b o, pn = some ⟨b, o, none⟩ ∧ wr.cell? ⟨b, o + j, none⟩ = some (.int .u32 t.nums[j]) := by
        rcases HRN.out with h | ⟨b, o, e, h⟩
        · rw [h] at hll; exact absurd hll (Nat.not_lt_zero _)
        · exact ⟨b, o, e, bcell (h j hll) hb⟩
      have hpx : Pat t.nums[j] := HPT.out _ (List.getElem_mem hll)
      have HTK : Hid ((t.nums.take (j + 1)).map (Value.int .i64) = (t.nums.take j).map (Value.int .i64) ++ [.int .i64 t.nums[j]]) := by show _ = _; rw [List.take_succ_eq_append_getElem hll, List.map_append]; rfl
      obtain ⟨y, hy⟩ : ∃ y, t.nums[j] = y := ⟨_, rfl⟩
      rw [hy] at c1 hpx HTK
      have ey : IntKind.i64.wrap y = y := by have := hpx.1; have := hpx.2; rw [IntKind.wrap_i64]; omega
      have i1 : (0 : Int) ≤ (j : Int) := by omega
      have i2' : (j : Int) < (N : Int) := by omega
      have hsz := hb.size
      clear hy HRN HSI HSK hpx
      go_wp2_with (at_builtin; refine wpList_append_lies _ rfl _ _ 23 rfl W.heap.size 3 ti _ 1 8 Try.underlying23 hi2 hz2a hz2b hz2c rfl (by decide) ov j ((t.nums.take j).map (Value.int .i64)) rfl (World.ownsRow.alloc HO.out _) ⟨wr.heap.size, 0, none⟩ 1 1 [.int .i64 y] rfl rfl (World.news_of_block (cs := #[.int .i64 y]) (t := 3) (fr := (0, 0)) (box_heap wr _)) (by simp [Value.oneCell']) (by decide) (by unfold maxLen; omega) (by omega) (by simp; omega) (wr.heap.size + 1) (by simp) ?_; intro g cap w4 hown4 hgrow hat hlt4)
      have HB4 : Hid (Below W.heap.size W w4) := Below.grown (bel hb (bel_alloc wr (.cells #[.int .i64 y] 3))) hgrow (by simp; omega) (fun k hk => (HO.out.lt k hk).1)
      have HO4 : Hid (w4.ownsRow W.heap.size 3 1 (.slice (some ⟨g, 0, none⟩) (j + 1) cap) (j + 1) ((t.nums.take (j + 1)).map (Value.int .i64))) := by show World.ownsRow _ _ _ _ _ _ _; rw [HTK.out]; exact hown4
      clear hown4 hgrow hat hlt4
      go_wp2
      go_roundw
      case rel => exact ⟨HB4.out, j + 1, _, rfl, by omega, by go_num, HO4.out⟩
      case measure => simp [intOf]; omega
    · have hjN : j = N := by omega
      have hrow : Row wr .i64 ov t.nums := by
        have h1 := HO.out
        rw [hjN] at h1
        rw [List.take_of_length_le (by rw [HN.out]; exact Nat.le_refl _), ← HN.out] at h1
        exact own_row h1
      have z9 : ¬ (j : Int) < (N : Int) := by omega
      have hop := HOP.out
      rw [hop] at x0 HX
      have HSIr : Hid (Row wr .i64 c t.ints) := HSI.out.below hb
      have HSKr : Hid (SK wr d t.kids) := HSK.out.below hb
      clear HO hlt0 hjN HRN HSI HSK hop HOP HPT hi2 hz2a hz2b hz2c
      obtain ⟨pi, ci, rfl, hri⟩ := HSIr.out
      obtain ⟨pk, ck, rfl, hrk⟩ := HSKr.out
      rw [HIL.out] at x2 HX HSIr
      rw [HKK.out] at x3 HSKr
      have HRI : Hid (t.ints = [] ∨ ∃ b o, pi = some ⟨b, o, none⟩ ∧ ∀ i (h : i < t.ints.length), wr.cell? ⟨b, o + i, none⟩ = some (.int .i64 t.ints[i])) := hri
      obtain ⟨bk, ok, rfl, hsl⟩ : ∃ b o, pk = some ⟨b, o, none⟩ ∧ SL wr b o t.kids := by
        rcases hrk with h | h
        · have h2 := HKLT.out; rw [h] at h2; exact absurd h2 (Nat.not_lt_zero _)
        · exact h
      have hsa := SL_get hsl HKLT.out
      rw [HYE.out HKLT.out] at hsa
      obtain ⟨u1, u2, u3, k0, k1, k2, k3, hkv⟩ := hsa.val
      have HXr : Hid (∀ v, Below wr.heap.size wr v → v.cell? ⟨w.heap.size, 2, none⟩ = some (.slice pi IL ci) ∧ v.cell? ⟨w.heap.size, 3, none⟩ = some (.slice (some ⟨bk, ok, none⟩) (IL + 1) ck) ∧ v.cell? ⟨bk, ok + K * 4, none⟩ = some (.int .i64 Y.op) ∧ v.cell? ⟨bk, ok + K * 4 + 1, none⟩ = some u1 ∧ v.cell? ⟨bk, ok + K * 4 + 2, none⟩ = some u2 ∧ v.cell? ⟨bk, ok + K * 4 + 3, none⟩ = some u3) := fun v hv => ⟨bcell x2 hv, bcell x3 hv, bcell k0 hv, bcell k1 hv, bcell k2 hv, bcell k3 hv⟩
      have HCL : Hid (∀ v, Below wr.heap.size wr v → Calls Try.prog 31 #[.agg #[.int .i64 Y.op, u1, u2, u3], .int .i64 (n - fromOf t.ints K)] v fun e w' => e = .returned (.int .i64 V) ∧ Below v.heap.size v w') := fun v hv => HKID.out u1 u2 u3 v (hkv.below hv)
      obtain ⟨KO, hKO⟩ : ∃ x, Y.op = x := ⟨_, rfl⟩
      rw [hKO] at HXr HCL
      have HBr : Hid (Below W.heap.size W wr) := hb
      have hkN : (K : Int) < (IL : Int) + 1 := by omega
      have hk0' : (0 : Int) ≤ (K : Int) := by omega
      clear hri hrk hsl hsa hkv k0 k1 k2 k3 HSIr HSKr hb hrow HKID hKO
      go_wp2
      rename World => Z9
      go_loopw [16, 17, 18] (fun kv fv iv wq => wq = Z9 ∧ ∃ j : Nat, j ≤ IL ∧ iv = .int .i64 j ∧ kv = .int .i64 (min j K : Nat) ∧ fv = .int .i64 (fromOf t.ints (min j K))) (fun _ _ iv _ => IL - (intOf iv).toNat)
      case atStart => exact ⟨rfl, 0, Nat.zero_le _, rfl, by rw [Nat.zero_min]; rfl, by rw [Nat.zero_min]; rfl⟩
      case round =>
        obtain ⟨rfl, j, hjI, rfl, rfl, rfl⟩ := hrel
        obtain ⟨e2, e3, q0, q1, q2, q3⟩ := HXr.out wr (bel0 wr)
        by_cases hlt0 : j < IL
        · have hli : j < t.ints.length := by rw [HIL.out]; exact hlt0
          obtain ⟨b2, o2, rfl, g1⟩ : ∃ b o, pi = some ⟨b, o, none⟩ ∧ wr.cell? ⟨b, o + j, none⟩ = some (.int .i64 t.ints[j]) := by
            rcases HRI.out with h | ⟨b, o, e, h⟩
            · rw [h] at hli; exact absurd hli (Nat.not_lt_zero _)
            · exact ⟨b, o, e, h j hli⟩
          have hif := HIF.out j hli
          have hfa := HFA.out j hli
          obtain ⟨x, hx⟩ : ∃ x, t.ints[j] = x := ⟨_, rfl⟩
          rw [hx] at g1 hif hfa
          have i1 : (0 : Int) ≤ (j : Int) := by omega
          have i2 : (j : Int) < (IL : Int) := by omega
          have w1 : IntKind.i64.wrap ((j : Int) + 1) = (j : Int) + 1 := by rw [IntKind.wrap_i64]; omega
          obtain ⟨M, hM⟩ : ∃ M, min j K = M := ⟨_, rfl⟩
          obtain ⟨FM, hFM⟩ : ∃ FM, fromOf t.ints (min j K) = FM := ⟨_, rfl⟩
          rw [hFM, hM]
          by_cases hle : x ≤ n
          · have hjk := hif.1 hle
            have HM1 : Hid (min (j + 1) K = j + 1) := by show _ = _; omega
            have HFF : Hid (fromOf t.ints (min (j + 1) K) = x) := by show _ = _; rw [HM1.out]; exact hfa
            clear hif hx HIF HRI HIL hfa HFA hFM hM HKLT HKK HCL
            go_wp2
            go_roundw
            case rel => exact ⟨trivial, j + 1, by omega, by go_num, by rw [HM1.out]; go_num, by rw [HFF.out]⟩
            case measure => simp [intOf]; omega
          · have hjk : ¬ j < K := fun h => hle (hif.2 h)
            have HM1 : Hid (min (j + 1) K = M) := by show _ = _; omega
            have HFF : Hid (fromOf t.ints (min (j + 1) K) = FM) := by show _ = _; rw [show min (j + 1) K = min j K by omega]; exact hFM
            clear hif hx HIF HRI HIL hfa HFA hFM hM HKLT HKK HCL
            go_wp2
            go_roundw
            case rel => exact ⟨trivial, j + 1, by omega, by go_num, by rw [HM1.out], by rw [HFF.out]⟩
            case measure => simp [intOf]; omega
        · have hji : ¬ (j : Int) < (IL : Int) := by omega
          rw [show min j K = K by omega]
          clear HIF HRI HIL HFA HKLT HKK
          go_wp2_with (go_at_call 31; (with_reducible refine (HCL.out _ (bel0 _)).mono ?_); rintro e wx ⟨rfl, hbx⟩)
          go_ret
          exact ⟨rfl, bel HB0.out (bel HBr.out hbx)⟩

end Go.Proofs.Ytnogokikiekcbaa
