import Derived.Test.YtnogokikiekcbaaPart14
/- The reference's row, rows 1, 2. -/
namespace Go.Proofs.Ytnogokikiekcbaa
open Go.RowKit
set_option linter.unusedVariables false
set_option linter.unusedSimpArgs false

set_option maxRecDepth 100000 in
set_option maxHeartbeats 4000000 in
theorem rrow_1 (t : Sc) (hop : t.op = 1) (a c d : Value) (hok : sok t) (w : World) (hS : SV w t a c d) :
    Calls Try.prog 65 #[.agg #[.int .i64 t.op, a, c, d]] w fun e w' => e = .returned (.bool (fitsP t)) ∧ Below w.heap.size w w' := by
  have HOP : Hid (t.op = 1) := hop
  clear hop
  have hx := box_heap w (.cells #[.int .i64 t.op, a, c, d] 26)
  have hb0 := bel_alloc w (.cells #[.int .i64 t.op, a, c, d] 26)
  obtain ⟨W, hW⟩ : ∃ W, w.alloc (.cells #[.int .i64 t.op, a, c, d] 26) = W := ⟨_, rfl⟩
  rw [hW] at hx hb0
  have hSW := hS.below hb0
  have HB0 : Hid (Below w.heap.size w W) := hb0
  have HX : Hid (∀ v, Below W.heap.size W v → v.cell? ⟨w.heap.size, 0, none⟩ = some (.int .i64 t.op) ∧ v.cell? ⟨w.heap.size, 1, none⟩ = some a ∧ v.cell? ⟨w.heap.size, 2, none⟩ = some c ∧ v.cell? ⟨w.heap.size, 3, none⟩ = some d) := fun v hv =>
    ⟨bcell (cell_heap hx 0) hv, bcell (cell_heap hx 1) hv, bcell (cell_heap hx 2) hv, bcell (cell_heap hx 3) hv⟩
  have HSHA : Hid (∀ (x y z : Nat) v, Below W.heap.size W v → Calls Try.prog 80 #[.agg #[.int .i64 t.op, a, c, d], .int .i64 (x : Int), .int .i64 (y : Int), .int .i64 (z : Int)] v fun e w' => e = .returned (.bool (shapeP t x y z)) ∧ Below v.heap.size v w') := fun x y z v hv => shape_any t a c d x y z v (hSW.below hv)
  have HRS : Hid (∀ v, Below W.heap.size W v → Calls Try.prog 81 #[c] v fun e w' => e = .returned (.bool (bnds t.ints)) ∧ Below v.heap.size v w') := fun v hv => rising_any t.ints c hok.1.2.2.2.2.1 v (hSW.ints.below hv)
  obtain ⟨pn, cn, rfl, hrn⟩ := hSW.nums
  obtain ⟨pi, ci, rfl, hri⟩ := hSW.ints
  have HRN : Hid (t.nums = [] ∨ ∃ b o, pn = some ⟨b, o, none⟩ ∧ ∀ i (h : i < t.nums.length), W.cell? ⟨b, o + i, none⟩ = some (.int .u32 t.nums[i])) := hrn
  have HRI : Hid (t.ints = [] ∨ ∃ b o, pi = some ⟨b, o, none⟩ ∧ ∀ i (h : i < t.ints.length), W.cell? ⟨b, o + i, none⟩ = some (.int .i64 t.ints[i])) := hri
  have HPT : Hid (∀ x ∈ t.nums, Pat x) := fun x hx => hok.1.2.1 x hx
  obtain ⟨N, hN⟩ : ∃ N, t.nums.length = N := ⟨_, rfl⟩
  have HN : Hid (t.nums.length = N) := hN
  have hNl : N ≤ 35184372087808 := by rw [← hN]; exact hok.1.2.2.2.1
  obtain ⟨IL, hIL⟩ : ∃ N, t.ints.length = N := ⟨_, rfl⟩
  have HIL : Hid (t.ints.length = IL) := hIL
  have hILl : IL ≤ 17592186043904 := by rw [← hIL]; exact hok.1.2.2.2.2.1
  rw [hN, hIL] at HX HSHA
  rw [hIL] at HRS
  rw [hN, hIL] at hW ⊢
  obtain ⟨R, hR⟩ : ∃ R, fitsP t = R := ⟨_, rfl⟩
  have HRR : Hid (fitsP t = R) := hR
  rw [hR]
  clear hS hSW hx hb0 hrn hri hok hN hIL hR
  go_enter Try.func65, Try.ntmps65
  go_wp2
  go_loopw [3] (fun iv wr => Below W.heap.size W wr ∧ ∃ j : Nat, j ≤ N ∧ iv = .int .i64 j ∧ Hid (notFin (t.nums.take j) = false)) (fun iv _ => N - (intOf iv).toNat)
  case atStart => exact ⟨bel0 W, 0, Nat.zero_le _, rfl, (by show _ = _; simp [notFin])⟩
  case round =>
    obtain ⟨hbe, j, hj, rfl, HT⟩ := hrel
    obtain ⟨x0, x1, x2, x3⟩ := HX.out wr hbe
    by_cases hlt0 : j < N
    · have hll : j < t.nums.length := by rw [HN.out]; exact hlt0
      obtain ⟨b, o, rfl, c1⟩ : ∃ b o, pn = some ⟨b, o, none⟩ ∧ wr.cell? ⟨b, o + j, none⟩ = some (.int .u32 t.nums[j]) := by
        rcases HRN.out with h | ⟨b, o, e, h⟩
        · rw [h] at hll; exact absurd hll (Nat.not_lt_zero _)
        · exact ⟨b, o, e, bcell (h j hll) hbe⟩
      have hpx : Pat t.nums[j] := HPT.out _ (List.getElem_mem hll)
      have htk : notFin (t.nums.take (j + 1)) = (notFin (t.nums.take j) || !ffin t.nums[j]) := by unfold notFin; rw [List.take_succ_eq_append_getElem hll, List.any_append]; simp
      have hno : ffin t.nums[j] = false → fitsP t = false := fun h => fitsP_fin (by
        cases e : t.nums.all ffin
        · rfl
        · rw [List.all_eq_true] at e; have := e _ (List.getElem_mem hll); rw [h] at this; cases this)
      rw [HT.out, Bool.false_or] at htk
      obtain ⟨y, hy⟩ : ∃ y, t.nums[j] = y := ⟨_, rfl⟩
      rw [hy] at c1 hpx htk hno
      have ey : IntKind.i64.wrap y = y := by have := hpx.1; have := hpx.2; rw [IntKind.wrap_i64]; omega
      have i1 : (0 : Int) ≤ (j : Int) := by omega
      have i2 : (j : Int) < (N : Int) := by omega
      cases hfy : ffin y
      · have HL : Hid (false = R) := by show _ = R; rw [← HRR.out, hno hfy]
        clear htk hno hy HRN HRI HSHA HRS HRR HT
        go_wp2_with (go_at_call 23; refine (r_fin hpx _).mono ?_; rintro e wx ⟨rfl, hbx⟩; rw [hfy])
        go_ret
        exact ⟨ret_bool HL.out, bel HB0.out (bel hbe hbx)⟩
      · have HNX : Hid (notFin (t.nums.take (j + 1)) = false) := by show _ = _; rw [htk, hfy]; rfl
        clear htk hno hy HRN HRI HSHA HRS HRR HT
        go_wp2_with (go_at_call 23; refine (r_fin hpx _).mono ?_; rintro e wx ⟨rfl, hbx⟩; rw [hfy])
        go_roundw
        case rel => exact ⟨bel hbe hbx, j + 1, by omega, by go_num, HNX.out⟩
        case measure => simp [intOf]; omega
    · have hjN : j = N := by omega
      have HFIN : Hid (t.nums.all ffin = true) := by
        show _ = _
        have h1 := HT.out
        rw [hjN, ← HN.out, List.take_length, notFin_all] at h1
        simpa using h1
      have z9 : ¬ (j : Int) < (N : Int) := by omega
      clear HT hlt0 hjN
      have hop := HOP.out
      have HSH : Hid (∀ v, Below W.heap.size W v → Calls Try.prog 80 #[.agg #[.int .i64 t.op, .slice pn N cn, .slice pi IL ci, d], .int .i64 1, .int .i64 0, .int .i64 0] v fun e w' => e = .returned (.bool (shapeP t 1 0 0)) ∧ Below v.heap.size v w') := fun v hv => HSHA.out 1 0 0 v hv
      have hfe := fitsP_1 hop HFIN.out
      cases hs : shapeP t 1 0 0
      · have HL : Hid (false = R) := by show _ = R; rw [← HRR.out, hfe, hs] <;> simp
        rw [hop] at x0 HX HSH
        clear hfe HRR HFIN HSHA
        go_wp2_with (first
          | (go_at_call 80; (with_reducible refine (HSH.out _ hbe).mono ?_); rintro e wx ⟨rfl, hbx⟩; have hbe := bel hbe hbx; rw [hs]; obtain ⟨x0, x1, x2, x3⟩ := HX.out wx hbe))
        go_ret
        exact ⟨ret_bool HL.out, bel HB0.out hbe⟩
      · have HL : Hid (true = R) := by show _ = R; rw [← HRR.out, hfe, hs]
        rw [hop] at x0 HX HSH
        clear hfe HRR HFIN HSHA
        go_wp2_with (first
          | (go_at_call 80; (with_reducible refine (HSH.out _ hbe).mono ?_); rintro e wx ⟨rfl, hbx⟩; have hbe := bel hbe hbx; rw [hs]; obtain ⟨x0, x1, x2, x3⟩ := HX.out wx hbe))
        go_ret
        exact ⟨ret_bool HL.out, bel HB0.out hbe⟩

set_option maxRecDepth 100000 in
set_option maxHeartbeats 4000000 in
theorem rrow_2 (t : Sc) (hop : t.op = 2) (a c d : Value) (hok : sok t) (w : World) (hS : SV w t a c d) :
    Calls Try.prog 65 #[.agg #[.int .i64 t.op, a, c, d]] w fun e w' => e = .returned (.bool (fitsP t)) ∧ Below w.heap.size w w' := by
  have HOP : Hid (t.op = 2) := hop
  clear hop
  have hx := box_heap w (.cells #[.int .i64 t.op, a, c, d] 26)
  have hb0 := bel_alloc w (.cells #[.int .i64 t.op, a, c, d] 26)
  obtain ⟨W, hW⟩ : ∃ W, w.alloc (.cells #[.int .i64 t.op, a, c, d] 26) = W := ⟨_, rfl⟩
  rw [hW] at hx hb0
  have hSW := hS.below hb0
  have HB0 : Hid (Below w.heap.size w W) := hb0
  have HX : Hid (∀ v, Below W.heap.size W v → v.cell? ⟨w.heap.size, 0, none⟩ = some (.int .i64 t.op) ∧ v.cell? ⟨w.heap.size, 1, none⟩ = some a ∧ v.cell? ⟨w.heap.size, 2, none⟩ = some c ∧ v.cell? ⟨w.heap.size, 3, none⟩ = some d) := fun v hv =>
    ⟨bcell (cell_heap hx 0) hv, bcell (cell_heap hx 1) hv, bcell (cell_heap hx 2) hv, bcell (cell_heap hx 3) hv⟩
  have HSHA : Hid (∀ (x y z : Nat) v, Below W.heap.size W v → Calls Try.prog 80 #[.agg #[.int .i64 t.op, a, c, d], .int .i64 (x : Int), .int .i64 (y : Int), .int .i64 (z : Int)] v fun e w' => e = .returned (.bool (shapeP t x y z)) ∧ Below v.heap.size v w') := fun x y z v hv => shape_any t a c d x y z v (hSW.below hv)
  have HRS : Hid (∀ v, Below W.heap.size W v → Calls Try.prog 81 #[c] v fun e w' => e = .returned (.bool (bnds t.ints)) ∧ Below v.heap.size v w') := fun v hv => rising_any t.ints c hok.1.2.2.2.2.1 v (hSW.ints.below hv)
  obtain ⟨pn, cn, rfl, hrn⟩ := hSW.nums
  obtain ⟨pi, ci, rfl, hri⟩ := hSW.ints
  have HRN : Hid (t.nums = [] ∨ ∃ b o, pn = some ⟨b, o, none⟩ ∧ ∀ i (h : i < t.nums.length), W.cell? ⟨b, o + i, none⟩ = some (.int .u32 t.nums[i])) := hrn
  have HRI : Hid (t.ints = [] ∨ ∃ b o, pi = some ⟨b, o, none⟩ ∧ ∀ i (h : i < t.ints.length), W.cell? ⟨b, o + i, none⟩ = some (.int .i64 t.ints[i])) := hri
  have HPT : Hid (∀ x ∈ t.nums, Pat x) := fun x hx => hok.1.2.1 x hx
  obtain ⟨N, hN⟩ : ∃ N, t.nums.length = N := ⟨_, rfl⟩
  have HN : Hid (t.nums.length = N) := hN
  have hNl : N ≤ 35184372087808 := by rw [← hN]; exact hok.1.2.2.2.1
  obtain ⟨IL, hIL⟩ : ∃ N, t.ints.length = N := ⟨_, rfl⟩
  have HIL : Hid (t.ints.length = IL) := hIL
  have hILl : IL ≤ 17592186043904 := by rw [← hIL]; exact hok.1.2.2.2.2.1
  rw [hN, hIL] at HX HSHA
  rw [hIL] at HRS
  rw [hN, hIL] at hW ⊢
  obtain ⟨R, hR⟩ : ∃ R, fitsP t = R := ⟨_, rfl⟩
  have HRR : Hid (fitsP t = R) := hR
  rw [hR]
  clear hS hSW hx hb0 hrn hri hok hN hIL hR
  go_enter Try.func65, Try.ntmps65
  go_wp2
  go_loopw [3] (fun iv wr => Below W.heap.size W wr ∧ ∃ j : Nat, j ≤ N ∧ iv = .int .i64 j ∧ Hid (notFin (t.nums.take j) = false)) (fun iv _ => N - (intOf iv).toNat)
  case atStart => exact ⟨bel0 W, 0, Nat.zero_le _, rfl, (by show _ = _; simp [notFin])⟩
  case round =>
    obtain ⟨hbe, j, hj, rfl, HT⟩ := hrel
    obtain ⟨x0, x1, x2, x3⟩ := HX.out wr hbe
    by_cases hlt0 : j < N
    · have hll : j < t.nums.length := by rw [HN.out]; exact hlt0
      obtain ⟨b, o, rfl, c1⟩ : ∃ b o, pn = some ⟨b, o, none⟩ ∧ wr.cell? ⟨b, o + j, none⟩ = some (.int .u32 t.nums[j]) := by
        rcases HRN.out with h | ⟨b, o, e, h⟩
        · rw [h] at hll; exact absurd hll (Nat.not_lt_zero _)
        · exact ⟨b, o, e, bcell (h j hll) hbe⟩
      have hpx : Pat t.nums[j] := HPT.out _ (List.getElem_mem hll)
      have htk : notFin (t.nums.take (j + 1)) = (notFin (t.nums.take j) || !ffin t.nums[j]) := by unfold notFin; rw [List.take_succ_eq_append_getElem hll, List.any_append]; simp
      have hno : ffin t.nums[j] = false → fitsP t = false := fun h => fitsP_fin (by
        cases e : t.nums.all ffin
        · rfl
        · rw [List.all_eq_true] at e; have := e _ (List.getElem_mem hll); rw [h] at this; cases this)
      rw [HT.out, Bool.false_or] at htk
      obtain ⟨y, hy⟩ : ∃ y, t.nums[j] = y := ⟨_, rfl⟩
      rw [hy] at c1 hpx htk hno
      have ey : IntKind.i64.wrap y = y := by have := hpx.1; have := hpx.2; rw [IntKind.wrap_i64]; omega
      have i1 : (0 : Int) ≤ (j : Int) := by omega
      have i2 : (j : Int) < (N : Int) := by omega
      cases hfy : ffin y
      · have HL : Hid (false = R) := by show _ = R; rw [← HRR.out, hno hfy]
        clear htk hno hy HRN HRI HSHA HRS HRR HT
        go_wp2_with (go_at_call 23; refine (r_fin hpx _).mono ?_; rintro e wx ⟨rfl, hbx⟩; rw [hfy])
        go_ret
        exact ⟨ret_bool HL.out, bel HB0.out (bel hbe hbx)⟩
      · have HNX : Hid (notFin (t.nums.take (j + 1)) = false) := by show _ = _; rw [htk, hfy]; rfl
        clear htk hno hy HRN HRI HSHA HRS HRR HT
        go_wp2_with (go_at_call 23; refine (r_fin hpx _).mono ?_; rintro e wx ⟨rfl, hbx⟩; rw [hfy])
        go_roundw
        case rel => exact ⟨bel hbe hbx, j + 1, by omega, by go_num, HNX.out⟩
        case measure => simp [intOf]; omega
    · have hjN : j = N := by omega
      have HFIN : Hid (t.nums.all ffin = true) := by
        show _ = _
        have h1 := HT.out
        rw [hjN, ← HN.out, List.take_length, notFin_all] at h1
        simpa using h1
      have z9 : ¬ (j : Int) < (N : Int) := by omega
      clear HT hlt0 hjN
      have hop := HOP.out
      have HSH : Hid (∀ v, Below W.heap.size W v → Calls Try.prog 80 #[.agg #[.int .i64 t.op, .slice pn N cn, .slice pi IL ci, d], .int .i64 2, .int .i64 3, .int .i64 0] v fun e w' => e = .returned (.bool (shapeP t 2 3 0)) ∧ Below v.heap.size v w') := fun v hv => HSHA.out 2 3 0 v hv
      have hfe := fitsP_2 hop HFIN.out
      cases hs : shapeP t 2 3 0
      · have HL : Hid (false = R) := by show _ = R; rw [← HRR.out, hfe, hs] <;> simp
        rw [hop] at x0 HX HSH
        clear hfe HRR HFIN HSHA
        go_wp2_with (first
          | (go_at_call 80; (with_reducible refine (HSH.out _ hbe).mono ?_); rintro e wx ⟨rfl, hbx⟩; have hbe := bel hbe hbx; rw [hs]; obtain ⟨x0, x1, x2, x3⟩ := HX.out wx hbe))
        go_ret
        exact ⟨ret_bool HL.out, bel HB0.out hbe⟩
      · obtain ⟨l1, l2, l3⟩ := shapeP_len hs
        rw [HN.out] at l1
        rw [HIL.out] at l2
        obtain ⟨i0, i1, i2, hil⟩ := list3 (show t.ints.length = 3 by rw [HIL.out]; exact l2)
        obtain ⟨bi, oi, rfl, hic⟩ : ∃ b o, pi = some ⟨b, o, none⟩ ∧ W.cell? ⟨b, o, none⟩ = some (.int .i64 i0) ∧ W.cell? ⟨b, o + 1, none⟩ = some (.int .i64 i1) ∧ W.cell? ⟨b, o + 2, none⟩ = some (.int .i64 i2) := by
          rcases HRI.out with h | ⟨b, o, e, h⟩
          · rw [hil] at h; cases h
          · refine ⟨b, o, e, ?_, ?_, ?_⟩
            · have h0 := h 0 (by rw [hil]; simp)
              simp only [hil, List.getElem_cons_zero, Nat.add_zero] at h0
              exact h0
            · have h0 := h 1 (by rw [hil]; simp)
              simp only [hil, List.getElem_cons_zero, List.getElem_cons_succ] at h0
              exact h0
            · have h0 := h 2 (by rw [hil]; simp)
              simp only [hil, List.getElem_cons_zero, List.getElem_cons_succ] at h0
              exact h0
        obtain ⟨di0, di1, di2⟩ := hic
        rw [hil] at hfe
        simp only [List.getD_cons_zero, List.getD_cons_succ, hs, Bool.true_and] at hfe
        subst l1 l2
        have HD : Hid (∀ v, Below W.heap.size W v → v.cell? ⟨bi, oi, none⟩ = some (.int .i64 i0) ∧ v.cell? ⟨bi, oi + 1, none⟩ = some (.int .i64 i1) ∧ v.cell? ⟨bi, oi + 2, none⟩ = some (.int .i64 i2)) := fun v hv => ⟨bcell di0 hv, bcell di1 hv, bcell di2 hv⟩
        clear di0 di1 di2
        clear HRN HRI
        cases q3 : inR i0 1 1024
        · have HL : Hid (false = R) := by show _ = R; rw [← HRR.out, hfe, q3] <;> simp
          rw [hop] at x0 HX HSH
          clear hfe HRR HFIN HSHA
          go_wp2_with (first
            | (go_at_call 80; (with_reducible refine (HSH.out _ hbe).mono ?_); rintro e wx ⟨rfl, hbx⟩; have hbe := bel hbe hbx; rw [hs]; obtain ⟨x0, x1, x2, x3⟩ := HX.out wx hbe; obtain ⟨di0, di1, di2⟩ := HD.out wx hbe)
            | (go_at_call 30; (with_reducible refine (in_any _ _ _ _).mono ?_); rintro e wx ⟨rfl, hbx⟩; have hbe := bel hbe hbx; (try (first | rw [q3])); obtain ⟨x0, x1, x2, x3⟩ := HX.out wx hbe; obtain ⟨di0, di1, di2⟩ := HD.out wx hbe))
          go_ret
          exact ⟨ret_bool HL.out, bel HB0.out hbe⟩
        · cases q2 : inR i1 1 2147483647
          · have HL : Hid (false = R) := by show _ = R; rw [← HRR.out, hfe, q3, q2] <;> simp
            rw [hop] at x0 HX HSH
            clear hfe HRR HFIN HSHA
            go_wp2_with (first
              | (go_at_call 80; (with_reducible refine (HSH.out _ hbe).mono ?_); rintro e wx ⟨rfl, hbx⟩; have hbe := bel hbe hbx; rw [hs]; obtain ⟨x0, x1, x2, x3⟩ := HX.out wx hbe; obtain ⟨di0, di1, di2⟩ := HD.out wx hbe)
              | (go_at_call 30; (with_reducible refine (in_any _ _ _ _).mono ?_); rintro e wx ⟨rfl, hbx⟩; have hbe := bel hbe hbx; (try (first | rw [q3] | rw [q2])); obtain ⟨x0, x1, x2, x3⟩ := HX.out wx hbe; obtain ⟨di0, di1, di2⟩ := HD.out wx hbe))
            go_ret
            exact ⟨ret_bool HL.out, bel HB0.out hbe⟩
          · have HL : Hid ((inR i2 0 2147483647) = R) := by show _ = R; rw [← HRR.out, hfe, q3, q2] <;> simp
            rw [hop] at x0 HX HSH
            clear hfe HRR HFIN HSHA
            go_wp2_with (first
              | (go_at_call 80; (with_reducible refine (HSH.out _ hbe).mono ?_); rintro e wx ⟨rfl, hbx⟩; have hbe := bel hbe hbx; rw [hs]; obtain ⟨x0, x1, x2, x3⟩ := HX.out wx hbe; obtain ⟨di0, di1, di2⟩ := HD.out wx hbe)
              | (go_at_call 30; (with_reducible refine (in_any _ _ _ _).mono ?_); rintro e wx ⟨rfl, hbx⟩; have hbe := bel hbe hbx; (try (first | rw [q3] | rw [q2])); obtain ⟨x0, x1, x2, x3⟩ := HX.out wx hbe; obtain ⟨di0, di1, di2⟩ := HD.out wx hbe))
            go_ret
            exact ⟨ret_bool HL.out, bel HB0.out hbe⟩

end Go.Proofs.Ytnogokikiekcbaa
/- The reference's row, rows 3, 4. -/
namespace Go.Proofs.Ytnogokikiekcbaa
open Go.RowKit
set_option linter.unusedVariables false
set_option linter.unusedSimpArgs false

set_option maxRecDepth 100000 in
set_option maxHeartbeats 4000000 in
theorem rrow_3 (t : Sc) (hop : t.op = 3) (a c d : Value) (hok : sok t) (w : World) (hS : SV w t a c d) :
    Calls Try.prog 65 #[.agg #[.int .i64 t.op, a, c, d]] w fun e w' => e = .returned (.bool (fitsP t)) ∧ Below w.heap.size w w' := by
  have HOP : Hid (t.op = 3) := hop
  clear hop
  have hx := box_heap w (.cells #[.int .i64 t.op, a, c, d] 26)
  have hb0 := bel_alloc w (.cells #[.int .i64 t.op, a, c, d] 26)
  obtain ⟨W, hW⟩ : ∃ W, w.alloc (.cells #[.int .i64 t.op, a, c, d] 26) = W := ⟨_, rfl⟩
  rw [hW] at hx hb0
  have hSW := hS.below hb0
  have HB0 : Hid (Below w.heap.size w W) := hb0
  have HX : Hid (∀ v, Below W.heap.size W v → v.cell? ⟨w.heap.size, 0, none⟩ = some (.int .i64 t.op) ∧ v.cell? ⟨w.heap.size, 1, none⟩ = some a ∧ v.cell? ⟨w.heap.size, 2, none⟩ = some c ∧ v.cell? ⟨w.heap.size, 3, none⟩ = some d) := fun v hv =>
    ⟨bcell (cell_heap hx 0) hv, bcell (cell_heap hx 1) hv, bcell (cell_heap hx 2) hv, bcell (cell_heap hx 3) hv⟩
  have HSHA : Hid (∀ (x y z : Nat) v, Below W.heap.size W v → Calls Try.prog 80 #[.agg #[.int .i64 t.op, a, c, d], .int .i64 (x : Int), .int .i64 (y : Int), .int .i64 (z : Int)] v fun e w' => e = .returned (.bool (shapeP t x y z)) ∧ Below v.heap.size v w') := fun x y z v hv => shape_any t a c d x y z v (hSW.below hv)
  have HRS : Hid (∀ v, Below W.heap.size W v → Calls Try.prog 81 #[c] v fun e w' => e = .returned (.bool (bnds t.ints)) ∧ Below v.heap.size v w') := fun v hv => rising_any t.ints c hok.1.2.2.2.2.1 v (hSW.ints.below hv)
  obtain ⟨pn, cn, rfl, hrn⟩ := hSW.nums
  obtain ⟨pi, ci, rfl, hri⟩ := hSW.ints
  have HRN : Hid (t.nums = [] ∨ ∃ b o, pn = some ⟨b, o, none⟩ ∧ ∀ i (h : i < t.nums.length), W.cell? ⟨b, o + i, none⟩ = some (.int .u32 t.nums[i])) := hrn
  have HRI : Hid (t.ints = [] ∨ ∃ b o, pi = some ⟨b, o, none⟩ ∧ ∀ i (h : i < t.ints.length), W.cell? ⟨b, o + i, none⟩ = some (.int .i64 t.ints[i])) := hri
  have HPT : Hid (∀ x ∈ t.nums, Pat x) := fun x hx => hok.1.2.1 x hx
  obtain ⟨N, hN⟩ : ∃ N, t.nums.length = N := ⟨_, rfl⟩
  have HN : Hid (t.nums.length = N) := hN
  have hNl : N ≤ 35184372087808 := by rw [← hN]; exact hok.1.2.2.2.1
  obtain ⟨IL, hIL⟩ : ∃ N, t.ints.length = N := ⟨_, rfl⟩
  have HIL : Hid (t.ints.length = IL) := hIL
  have hILl : IL ≤ 17592186043904 := by rw [← hIL]; exact hok.1.2.2.2.2.1
  rw [hN, hIL] at HX HSHA
  rw [hIL] at HRS
  rw [hN, hIL] at hW ⊢
  obtain ⟨R, hR⟩ : ∃ R, fitsP t = R := ⟨_, rfl⟩
  have HRR : Hid (fitsP t = R) := hR
  rw [hR]
  clear hS hSW hx hb0 hrn hri hok hN hIL hR
  go_enter Try.func65, Try.ntmps65
  go_wp2
  go_loopw [3] (fun iv wr => Below W.heap.size W wr ∧ ∃ j : Nat, j ≤ N ∧ iv = .int .i64 j ∧ Hid (notFin (t.nums.take j) = false)) (fun iv _ => N - (intOf iv).toNat)
  case atStart => exact ⟨bel0 W, 0, Nat.zero_le _, rfl, (by show _ = _; simp [notFin])⟩
  case round =>
    obtain ⟨hbe, j, hj, rfl, HT⟩ := hrel
    obtain ⟨x0, x1, x2, x3⟩ := HX.out wr hbe
    by_cases hlt0 : j < N
    · have hll : j < t.nums.length := by rw [HN.out]; exact hlt0
      obtain ⟨b, o, rfl, c1⟩ : ∃ b o, pn = some ⟨b, o, none⟩ ∧ wr.cell? ⟨b, o + j, none⟩ = some (.int .u32 t.nums[j]) := by
        rcases HRN.out with h | ⟨b, o, e, h⟩
        · rw [h] at hll; exact absurd hll (Nat.not_lt_zero _)
        · exact ⟨b, o, e, bcell (h j hll) hbe⟩
      have hpx : Pat t.nums[j] := HPT.out _ (List.getElem_mem hll)
      have htk : notFin (t.nums.take (j + 1)) = (notFin (t.nums.take j) || !ffin t.nums[j]) := by unfold notFin; rw [List.take_succ_eq_append_getElem hll, List.any_append]; simp
      have hno : ffin t.nums[j] = false → fitsP t = false := fun h => fitsP_fin (by
        cases e : t.nums.all ffin
        · rfl
        · rw [List.all_eq_true] at e; have := e _ (List.getElem_mem hll); rw [h] at this; cases this)
      rw [HT.out, Bool.false_or] at htk
      obtain ⟨y, hy⟩ : ∃ y, t.nums[j] = y := ⟨_, rfl⟩
      rw [hy] at c1 hpx htk hno
      have ey : IntKind.i64.wrap y = y := by have := hpx.1; have := hpx.2; rw [IntKind.wrap_i64]; omega
      have i1 : (0 : Int) ≤ (j : Int) := by omega
      have i2 : (j : Int) < (N : Int) := by omega
      cases hfy : ffin y
      · have HL : Hid (false = R) := by show _ = R; rw [← HRR.out, hno hfy]
        clear htk hno hy HRN HRI HSHA HRS HRR HT
        go_wp2_with (go_at_call 23; refine (r_fin hpx _).mono ?_; rintro e wx ⟨rfl, hbx⟩; rw [hfy])
        go_ret
        exact ⟨ret_bool HL.out, bel HB0.out (bel hbe hbx)⟩
      · have HNX : Hid (notFin (t.nums.take (j + 1)) = false) := by show _ = _; rw [htk, hfy]; rfl
        clear htk hno hy HRN HRI HSHA HRS HRR HT
        go_wp2_with (go_at_call 23; refine (r_fin hpx _).mono ?_; rintro e wx ⟨rfl, hbx⟩; rw [hfy])
        go_roundw
        case rel => exact ⟨bel hbe hbx, j + 1, by omega, by go_num, HNX.out⟩
        case measure => simp [intOf]; omega
    · have hjN : j = N := by omega
      have HFIN : Hid (t.nums.all ffin = true) := by
        show _ = _
        have h1 := HT.out
        rw [hjN, ← HN.out, List.take_length, notFin_all] at h1
        simpa using h1
      have z9 : ¬ (j : Int) < (N : Int) := by omega
      clear HT hlt0 hjN
      have hop := HOP.out
      have HSH : Hid (∀ v, Below W.heap.size W v → Calls Try.prog 80 #[.agg #[.int .i64 t.op, .slice pn N cn, .slice pi IL ci, d], .int .i64 2, .int .i64 2, .int .i64 0] v fun e w' => e = .returned (.bool (shapeP t 2 2 0)) ∧ Below v.heap.size v w') := fun v hv => HSHA.out 2 2 0 v hv
      have hfe := fitsP_3 hop HFIN.out
      cases hs : shapeP t 2 2 0
      · have HL : Hid (false = R) := by show _ = R; rw [← HRR.out, hfe, hs] <;> simp
        rw [hop] at x0 HX HSH
        clear hfe HRR HFIN HSHA
        go_wp2_with (first
          | (go_at_call 80; (with_reducible refine (HSH.out _ hbe).mono ?_); rintro e wx ⟨rfl, hbx⟩; have hbe := bel hbe hbx; rw [hs]; obtain ⟨x0, x1, x2, x3⟩ := HX.out wx hbe))
        go_ret
        exact ⟨ret_bool HL.out, bel HB0.out hbe⟩
      · obtain ⟨l1, l2, l3⟩ := shapeP_len hs
        rw [HN.out] at l1
        rw [HIL.out] at l2
        obtain ⟨n0, n1, hnl⟩ := list2 (show t.nums.length = 2 by rw [HN.out]; exact l1)
        obtain ⟨bn, on, rfl, hnc⟩ : ∃ b o, pn = some ⟨b, o, none⟩ ∧ W.cell? ⟨b, o, none⟩ = some (.int .u32 n0) ∧ W.cell? ⟨b, o + 1, none⟩ = some (.int .u32 n1) := by
          rcases HRN.out with h | ⟨b, o, e, h⟩
          · rw [hnl] at h; cases h
          · refine ⟨b, o, e, ?_, ?_⟩
            · have h0 := h 0 (by rw [hnl]; simp)
              simp only [hnl, List.getElem_cons_zero, Nat.add_zero] at h0
              exact h0
            · have h0 := h 1 (by rw [hnl]; simp)
              simp only [hnl, List.getElem_cons_zero, List.getElem_cons_succ] at h0
              exact h0
        obtain ⟨dn0, dn1⟩ := hnc
        rw [hnl] at hfe
        obtain ⟨i0, i1, hil⟩ := list2 (show t.ints.length = 2 by rw [HIL.out]; exact l2)
        obtain ⟨bi, oi, rfl, hic⟩ : ∃ b o, pi = some ⟨b, o, none⟩ ∧ W.cell? ⟨b, o, none⟩ = some (.int .i64 i0) ∧ W.cell? ⟨b, o + 1, none⟩ = some (.int .i64 i1) := by
          rcases HRI.out with h | ⟨b, o, e, h⟩
          · rw [hil] at h; cases h
          · refine ⟨b, o, e, ?_, ?_⟩
            · have h0 := h 0 (by rw [hil]; simp)
              simp only [hil, List.getElem_cons_zero, Nat.add_zero] at h0
              exact h0
            · have h0 := h 1 (by rw [hil]; simp)
              simp only [hil, List.getElem_cons_zero, List.getElem_cons_succ] at h0
              exact h0
        obtain ⟨di0, di1⟩ := hic
        rw [hil] at hfe
        simp only [List.getD_cons_zero, List.getD_cons_succ, hs, Bool.true_and] at hfe
        have pn1 : Pat n1 := HPT.out n1 (by rw [hnl]; simp)
        have en1 : IntKind.i64.wrap n1 = n1 := by have := pn1.1; have := pn1.2; rw [IntKind.wrap_i64]; omega
        subst l1 l2
        have HD : Hid (∀ v, Below W.heap.size W v → v.cell? ⟨bn, on, none⟩ = some (.int .u32 n0) ∧ v.cell? ⟨bn, on + 1, none⟩ = some (.int .u32 n1) ∧ v.cell? ⟨bi, oi, none⟩ = some (.int .i64 i0) ∧ v.cell? ⟨bi, oi + 1, none⟩ = some (.int .i64 i1)) := fun v hv => ⟨bcell dn0 hv, bcell dn1 hv, bcell di0 hv, bcell di1 hv⟩
        clear dn0 dn1 di0 di1
        clear HRN HRI
        cases q3 : fless 0 n1
        · have HL : Hid (false = R) := by show _ = R; rw [← HRR.out, hfe, q3] <;> simp
          rw [hop] at x0 HX HSH
          clear hfe HRR HFIN HSHA
          go_wp2_with (first
            | (go_at_call 80; (with_reducible refine (HSH.out _ hbe).mono ?_); rintro e wx ⟨rfl, hbx⟩; have hbe := bel hbe hbx; rw [hs]; obtain ⟨x0, x1, x2, x3⟩ := HX.out wx hbe; obtain ⟨dn0, dn1, di0, di1⟩ := HD.out wx hbe)
            | (go_at_call 30; (with_reducible refine (in_any _ _ _ _).mono ?_); rintro e wx ⟨rfl, hbx⟩; have hbe := bel hbe hbx; (try (first | rw [q3])); obtain ⟨x0, x1, x2, x3⟩ := HX.out wx hbe; obtain ⟨dn0, dn1, di0, di1⟩ := HD.out wx hbe)
            | (go_at_call 19; (refine (r_less pat_0 (by with_reducible assumption) _).mono ?_); rintro e wx ⟨rfl, hbx⟩; have hbe := bel hbe hbx; (try (first | rw [q3])); obtain ⟨x0, x1, x2, x3⟩ := HX.out wx hbe; obtain ⟨dn0, dn1, di0, di1⟩ := HD.out wx hbe))
          go_ret
          exact ⟨ret_bool HL.out, bel HB0.out hbe⟩
        · cases q2 : inR i0 1 2147483647
          · have HL : Hid (false = R) := by show _ = R; rw [← HRR.out, hfe, q3, q2] <;> simp
            rw [hop] at x0 HX HSH
            clear hfe HRR HFIN HSHA
            go_wp2_with (first
              | (go_at_call 80; (with_reducible refine (HSH.out _ hbe).mono ?_); rintro e wx ⟨rfl, hbx⟩; have hbe := bel hbe hbx; rw [hs]; obtain ⟨x0, x1, x2, x3⟩ := HX.out wx hbe; obtain ⟨dn0, dn1, di0, di1⟩ := HD.out wx hbe)
              | (go_at_call 30; (with_reducible refine (in_any _ _ _ _).mono ?_); rintro e wx ⟨rfl, hbx⟩; have hbe := bel hbe hbx; (try (first | rw [q3] | rw [q2])); obtain ⟨x0, x1, x2, x3⟩ := HX.out wx hbe; obtain ⟨dn0, dn1, di0, di1⟩ := HD.out wx hbe)
              | (go_at_call 19; (refine (r_less pat_0 (by with_reducible assumption) _).mono ?_); rintro e wx ⟨rfl, hbx⟩; have hbe := bel hbe hbx; (try (first | rw [q3] | rw [q2])); obtain ⟨x0, x1, x2, x3⟩ := HX.out wx hbe; obtain ⟨dn0, dn1, di0, di1⟩ := HD.out wx hbe))
            go_ret
            exact ⟨ret_bool HL.out, bel HB0.out hbe⟩
          · have HL : Hid ((inR i1 0 2147483647) = R) := by show _ = R; rw [← HRR.out, hfe, q3, q2] <;> simp
            rw [hop] at x0 HX HSH
            clear hfe HRR HFIN HSHA
            go_wp2_with (first
              | (go_at_call 80; (with_reducible refine (HSH.out _ hbe).mono ?_); rintro e wx ⟨rfl, hbx⟩; have hbe := bel hbe hbx; rw [hs]; obtain ⟨x0, x1, x2, x3⟩ := HX.out wx hbe; obtain ⟨dn0, dn1, di0, di1⟩ := HD.out wx hbe)
              | (go_at_call 30; (with_reducible refine (in_any _ _ _ _).mono ?_); rintro e wx ⟨rfl, hbx⟩; have hbe := bel hbe hbx; (try (first | rw [q3] | rw [q2])); obtain ⟨x0, x1, x2, x3⟩ := HX.out wx hbe; obtain ⟨dn0, dn1, di0, di1⟩ := HD.out wx hbe)
              | (go_at_call 19; (refine (r_less pat_0 (by with_reducible assumption) _).mono ?_); rintro e wx ⟨rfl, hbx⟩; have hbe := bel hbe hbx; (try (first | rw [q3] | rw [q2])); obtain ⟨x0, x1, x2, x3⟩ := HX.out wx hbe; obtain ⟨dn0, dn1, di0, di1⟩ := HD.out wx hbe))
            go_ret
            exact ⟨ret_bool HL.out, bel HB0.out hbe⟩

set_option maxRecDepth 100000 in
set_option maxHeartbeats 4000000 in
theorem rrow_4 (t : Sc) (hop : t.op = 4) (a c d : Value) (hok : sok t) (w : World) (hS : SV w t a c d) :
    Calls Try.prog 65 #[.agg #[.int .i64 t.op, a, c, d]] w fun e w' => e = .returned (.bool (fitsP t)) ∧ Below w.heap.size w w' := by
  have HOP : Hid (t.op = 4) := hop
  clear hop
  have hx := box_heap w (.cells #[.int .i64 t.op, a, c, d] 26)
  have hb0 := bel_alloc w (.cells #[.int .i64 t.op, a, c, d] 26)
  obtain ⟨W, hW⟩ : ∃ W, w.alloc (.cells #[.int .i64 t.op, a, c, d] 26) = W := ⟨_, rfl⟩
  rw [hW] at hx hb0
  have hSW := hS.below hb0
  have HB0 : Hid (Below w.heap.size w W) := hb0
  have HX : Hid (∀ v, Below W.heap.size W v → v.cell? ⟨w.heap.size, 0, none⟩ = some (.int .i64 t.op) ∧ v.cell? ⟨w.heap.size, 1, none⟩ = some a ∧ v.cell? ⟨w.heap.size, 2, none⟩ = some c ∧ v.cell? ⟨w.heap.size, 3, none⟩ = some d) := fun v hv =>
    ⟨bcell (cell_heap hx 0) hv, bcell (cell_heap hx 1) hv, bcell (cell_heap hx 2) hv, bcell (cell_heap hx 3) hv⟩
  have HSHA : Hid (∀ (x y z : Nat) v, Below W.heap.size W v → Calls Try.prog 80 #[.agg #[.int .i64 t.op, a, c, d], .int .i64 (x : Int), .int .i64 (y : Int), .int .i64 (z : Int)] v fun e w' => e = .returned (.bool (shapeP t x y z)) ∧ Below v.heap.size v w') := fun x y z v hv => shape_any t a c d x y z v (hSW.below hv)
  have HRS : Hid (∀ v, Below W.heap.size W v → Calls Try.prog 81 #[c] v fun e w' => e = .returned (.bool (bnds t.ints)) ∧ Below v.heap.size v w') := fun v hv => rising_any t.ints c hok.1.2.2.2.2.1 v (hSW.ints.below hv)
  obtain ⟨pn, cn, rfl, hrn⟩ := hSW.nums
  obtain ⟨pi, ci, rfl, hri⟩ := hSW.ints
  have HRN : Hid (t.nums = [] ∨ ∃ b o, pn = some ⟨b, o, none⟩ ∧ ∀ i (h : i < t.nums.length), W.cell? ⟨b, o + i, none⟩ = some (.int .u32 t.nums[i])) := hrn
  have HRI : Hid (t.ints = [] ∨ ∃ b o, pi = some ⟨b, o, none⟩ ∧ ∀ i (h : i < t.ints.length), W.cell? ⟨b, o + i, none⟩ = some (.int .i64 t.ints[i])) := hri
  have HPT : Hid (∀ x ∈ t.nums, Pat x) := fun x hx => hok.1.2.1 x hx
  obtain ⟨N, hN⟩ : ∃ N, t.nums.length = N := ⟨_, rfl⟩
  have HN : Hid (t.nums.length = N) := hN
  have hNl : N ≤ 35184372087808 := by rw [← hN]; exact hok.1.2.2.2.1
  obtain ⟨IL, hIL⟩ : ∃ N, t.ints.length = N := ⟨_, rfl⟩
  have HIL : Hid (t.ints.length = IL) := hIL
  have hILl : IL ≤ 17592186043904 := by rw [← hIL]; exact hok.1.2.2.2.2.1
  rw [hN, hIL] at HX HSHA
  rw [hIL] at HRS
  rw [hN, hIL] at hW ⊢
  obtain ⟨R, hR⟩ : ∃ R, fitsP t = R := ⟨_, rfl⟩
  have HRR : Hid (fitsP t = R) := hR
  rw [hR]
  clear hS hSW hx hb0 hrn hri hok hN hIL hR
  go_enter Try.func65, Try.ntmps65
  go_wp2
  go_loopw [3] (fun iv wr => Below W.heap.size W wr ∧ ∃ j : Nat, j ≤ N ∧ iv = .int .i64 j ∧ Hid (notFin (t.nums.take j) = false)) (fun iv _ => N - (intOf iv).toNat)
  case atStart => exact ⟨bel0 W, 0, Nat.zero_le _, rfl, (by show _ = _; simp [notFin])⟩
  case round =>
    obtain ⟨hbe, j, hj, rfl, HT⟩ := hrel
    obtain ⟨x0, x1, x2, x3⟩ := HX.out wr hbe
    by_cases hlt0 : j < N
    · have hll : j < t.nums.length := by rw [HN.out]; exact hlt0
      obtain ⟨b, o, rfl, c1⟩ : ∃ b o, pn = some ⟨b, o, none⟩ ∧ wr.cell? ⟨b, o + j, none⟩ = some (.int .u32 t.nums[j]) := by
        rcases HRN.out with h | ⟨b, o, e, h⟩
        · rw [h] at hll; exact absurd hll (Nat.not_lt_zero _)
        · exact ⟨b, o, e, bcell (h j hll) hbe⟩
      have hpx : Pat t.nums[j] := HPT.out _ (List.getElem_mem hll)
      have htk : notFin (t.nums.take (j + 1)) = (notFin (t.nums.take j) || !ffin t.nums[j]) := by unfold notFin; rw [List.take_succ_eq_append_getElem hll, List.any_append]; simp
      have hno : ffin t.nums[j] = false → fitsP t = false := fun h => fitsP_fin (by
        cases e : t.nums.all ffin
        · rfl
        · rw [List.all_eq_true] at e; have := e _ (List.getElem_mem hll); rw [h] at this; cases this)
      rw [HT.out, Bool.false_or] at htk
      obtain ⟨y, hy⟩ : ∃ y, t.nums[j] = y := ⟨_, rfl⟩
      rw [hy] at c1 hpx htk hno
      have ey : IntKind.i64.wrap y = y := by have := hpx.1; have := hpx.2; rw [IntKind.wrap_i64]; omega
      have i1 : (0 : Int) ≤ (j : Int) := by omega
      have i2 : (j : Int) < (N : Int) := by omega
      cases hfy : ffin y
      · have HL : Hid (false = R) := by show _ = R; rw [← HRR.out, hno hfy]
        clear htk hno hy HRN HRI HSHA HRS HRR HT
        go_wp2_with (go_at_call 23; refine (r_fin hpx _).mono ?_; rintro e wx ⟨rfl, hbx⟩; rw [hfy])
        go_ret
        exact ⟨ret_bool HL.out, bel HB0.out (bel hbe hbx)⟩
      · have HNX : Hid (notFin (t.nums.take (j + 1)) = false) := by show _ = _; rw [htk, hfy]; rfl
        clear htk hno hy HRN HRI HSHA HRS HRR HT
        go_wp2_with (go_at_call 23; refine (r_fin hpx _).mono ?_; rintro e wx ⟨rfl, hbx⟩; rw [hfy])
        go_roundw
        case rel => exact ⟨bel hbe hbx, j + 1, by omega, by go_num, HNX.out⟩
        case measure => simp [intOf]; omega
    · have hjN : j = N := by omega
      have HFIN : Hid (t.nums.all ffin = true) := by
        show _ = _
        have h1 := HT.out
        rw [hjN, ← HN.out, List.take_length, notFin_all] at h1
        simpa using h1
      have z9 : ¬ (j : Int) < (N : Int) := by omega
      clear HT hlt0 hjN
      have hop := HOP.out
      have HSH : Hid (∀ v, Below W.heap.size W v → Calls Try.prog 80 #[.agg #[.int .i64 t.op, .slice pn N cn, .slice pi IL ci, d], .int .i64 2, .int .i64 1, .int .i64 0] v fun e w' => e = .returned (.bool (shapeP t 2 1 0)) ∧ Below v.heap.size v w') := fun v hv => HSHA.out 2 1 0 v hv
      have hfe := fitsP_4 hop HFIN.out
      cases hs : shapeP t 2 1 0
      · have HL : Hid (false = R) := by show _ = R; rw [← HRR.out, hfe, hs] <;> simp
        rw [hop] at x0 HX HSH
        clear hfe HRR HFIN HSHA
        go_wp2_with (first
          | (go_at_call 80; (with_reducible refine (HSH.out _ hbe).mono ?_); rintro e wx ⟨rfl, hbx⟩; have hbe := bel hbe hbx; rw [hs]; obtain ⟨x0, x1, x2, x3⟩ := HX.out wx hbe))
        go_ret
        exact ⟨ret_bool HL.out, bel HB0.out hbe⟩
      · obtain ⟨l1, l2, l3⟩ := shapeP_len hs
        rw [HN.out] at l1
        rw [HIL.out] at l2
        obtain ⟨i0, hil⟩ := list1 (show t.ints.length = 1 by rw [HIL.out]; exact l2)
        obtain ⟨bi, oi, rfl, hic⟩ : ∃ b o, pi = some ⟨b, o, none⟩ ∧ W.cell? ⟨b, o, none⟩ = some (.int .i64 i0) := by
          rcases HRI.out with h | ⟨b, o, e, h⟩
          · rw [hil] at h; cases h
          · refine ⟨b, o, e, ?_⟩
            · have h0 := h 0 (by rw [hil]; simp)
              simp only [hil, List.getElem_cons_zero, Nat.add_zero] at h0
              exact h0
        have di0 := hic
        rw [hil] at hfe
        simp only [List.getD_cons_zero, List.getD_cons_succ, hs, Bool.true_and] at hfe
        subst l1 l2
        have HD : Hid (∀ v, Below W.heap.size W v → v.cell? ⟨bi, oi, none⟩ = some (.int .i64 i0)) := fun v hv => bcell di0 hv
        clear di0
        clear HRN HRI
        have HL : Hid ((inR i0 1 2147483647) = R) := by show _ = R; rw [← HRR.out, hfe] <;> simp
        rw [hop] at x0 HX HSH
        clear hfe HRR HFIN HSHA
        go_wp2_with (first
          | (go_at_call 80; (with_reducible refine (HSH.out _ hbe).mono ?_); rintro e wx ⟨rfl, hbx⟩; have hbe := bel hbe hbx; rw [hs]; obtain ⟨x0, x1, x2, x3⟩ := HX.out wx hbe; have di0 := HD.out wx hbe)
          | (go_at_call 30; (with_reducible refine (in_any _ _ _ _).mono ?_); rintro e wx ⟨rfl, hbx⟩; have hbe := bel hbe hbx; obtain ⟨x0, x1, x2, x3⟩ := HX.out wx hbe; have di0 := HD.out wx hbe))
        go_ret
        exact ⟨ret_bool HL.out, bel HB0.out hbe⟩

end Go.Proofs.Ytnogokikiekcbaa
/- The reference's row, rows 5, 6, 7. -/
namespace Go.Proofs.Ytnogokikiekcbaa
open Go.RowKit
set_option linter.unusedVariables false
set_option linter.unusedSimpArgs false

set_option maxRecDepth 100000 in
set_option maxHeartbeats 4000000 in
theorem rrow_5 (t : Sc) (hop : t.op = 5) (a c d : Value) (hok : sok t) (w : World) (hS : SV w t a c d) :
    Calls Try.prog 65 #[.agg #[.int .i64 t.op, a, c, d]] w fun e w' => e = .returned (.bool (fitsP t)) ∧ Below w.heap.size w w' := by
  have HOP : Hid (t.op = 5) := hop
  clear hop
  have hx := box_heap w (.cells #[.int .i64 t.op, a, c, d] 26)
  have hb0 := bel_alloc w (.cells #[.int .i64 t.op, a, c, d] 26)
  obtain ⟨W, hW⟩ : ∃ W, w.alloc (.cells #[.int .i64 t.op, a, c, d] 26) = W := ⟨_, rfl⟩
  rw [hW] at hx hb0
  have hSW := hS.below hb0
  have HB0 : Hid (Below w.heap.size w W) := hb0
  have HX : Hid (∀ v, Below W.heap.size W v → v.cell? ⟨w.heap.size, 0, none⟩ = some (.int .i64 t.op) ∧ v.cell? ⟨w.heap.size, 1, none⟩ = some a ∧ v.cell? ⟨w.heap.size, 2, none⟩ = some c ∧ v.cell? ⟨w.heap.size, 3, none⟩ = some d) := fun v hv =>
    ⟨bcell (cell_heap hx 0) hv, bcell (cell_heap hx 1) hv, bcell (cell_heap hx 2) hv, bcell (cell_heap hx 3) hv⟩
  have HSHA : Hid (∀ (x y z : Nat) v, Below W.heap.size W v → Calls Try.prog 80 #[.agg #[.int .i64 t.op, a, c, d], .int .i64 (x : Int), .int .i64 (y : Int), .int .i64 (z : Int)] v fun e w' => e = .returned (.bool (shapeP t x y z)) ∧ Below v.heap.size v w') := fun x y z v hv => shape_any t a c d x y z v (hSW.below hv)
  have HRS : Hid (∀ v, Below W.heap.size W v → Calls Try.prog 81 #[c] v fun e w' => e = .returned (.bool (bnds t.ints)) ∧ Below v.heap.size v w') := fun v hv => rising_any t.ints c hok.1.2.2.2.2.1 v (hSW.ints.below hv)
  obtain ⟨pn, cn, rfl, hrn⟩ := hSW.nums
  obtain ⟨pi, ci, rfl, hri⟩ := hSW.ints
  have HRN : Hid (t.nums = [] ∨ ∃ b o, pn = some ⟨b, o, none⟩ ∧ ∀ i (h : i < t.nums.length), W.cell? ⟨b, o + i, none⟩ = some (.int .u32 t.nums[i])) := hrn
  have HRI : Hid (t.ints = [] ∨ ∃ b o, pi = some ⟨b, o, none⟩ ∧ ∀ i (h : i < t.ints.length), W.cell? ⟨b, o + i, none⟩ = some (.int .i64 t.ints[i])) := hri
  have HPT : Hid (∀ x ∈ t.nums, Pat x) := fun x hx => hok.1.2.1 x hx
  obtain ⟨N, hN⟩ : ∃ N, t.nums.length = N := ⟨_, rfl⟩
  have HN : Hid (t.nums.length = N) := hN
  have hNl : N ≤ 35184372087808 := by rw [← hN]; exact hok.1.2.2.2.1
  obtain ⟨IL, hIL⟩ : ∃ N, t.ints.length = N := ⟨_, rfl⟩
  have HIL : Hid (t.ints.length = IL) := hIL
  have hILl : IL ≤ 17592186043904 := by rw [← hIL]; exact hok.1.2.2.2.2.1
  rw [hN, hIL] at HX HSHA
  rw [hIL] at HRS
  rw [hN, hIL] at hW ⊢
  obtain ⟨R, hR⟩ : ∃ R, fitsP t = R := ⟨_, rfl⟩
  have HRR : Hid (fitsP t = R) := hR
  rw [hR]
  clear hS hSW hx hb0 hrn hri hok hN hIL hR
  go_enter Try.func65, Try.ntmps65
  go_wp2
  go_loopw [3] (fun iv wr => Below W.heap.size W wr ∧ ∃ j : Nat, j ≤ N ∧ iv = .int .i64 j ∧ Hid (notFin (t.nums.take j) = false)) (fun iv _ => N - (intOf iv).toNat)
  case atStart => exact ⟨bel0 W, 0, Nat.zero_le _, rfl, (by show _ = _; simp [notFin])⟩
  case round =>
    obtain ⟨hbe, j, hj, rfl, HT⟩ := hrel
    obtain ⟨x0, x1, x2, x3⟩ := HX.out wr hbe
    by_cases hlt0 : j < N
    · have hll : j < t.nums.length := by rw [HN.out]; exact hlt0
      obtain ⟨b, o, rfl, c1⟩ : ∃ b o, pn = some ⟨b, o, none⟩ ∧ wr.cell? ⟨b, o + j, none⟩ = some (.int .u32 t.nums[j]) := by
        rcases HRN.out with h | ⟨b, o, e, h⟩
        · rw [h] at hll; exact absurd hll (Nat.not_lt_zero _)
        · exact ⟨b, o, e, bcell (h j hll) hbe⟩
      have hpx : Pat t.nums[j] := HPT.out _ (List.getElem_mem hll)
      have htk : notFin (t.nums.take (j + 1)) = (notFin (t.nums.take j) || !ffin t.nums[j]) := by unfold notFin; rw [List.take_succ_eq_append_getElem hll, List.any_append]; simp
      have hno : ffin t.nums[j] = false → fitsP t = false := fun h => fitsP_fin (by
        cases e : t.nums.all ffin
        · rfl
        · rw [List.all_eq_true] at e; have := e _ (List.getElem_mem hll); rw [h] at this; cases this)
      rw [HT.out, Bool.false_or] at htk
      obtain ⟨y, hy⟩ : ∃ y, t.nums[j] = y := ⟨_, rfl⟩
      rw [hy] at c1 hpx htk hno
      have ey : IntKind.i64.wrap y = y := by have := hpx.1; have := hpx.2; rw [IntKind.wrap_i64]; omega
      have i1 : (0 : Int) ≤ (j : Int) := by omega
      have i2 : (j : Int) < (N : Int) := by omega
      cases hfy : ffin y
      · have HL : Hid (false = R) := by show _ = R; rw [← HRR.out, hno hfy]
        clear htk hno hy HRN HRI HSHA HRS HRR HT
        go_wp2_with (go_at_call 23; refine (r_fin hpx _).mono ?_; rintro e wx ⟨rfl, hbx⟩; rw [hfy])
        go_ret
        exact ⟨ret_bool HL.out, bel HB0.out (bel hbe hbx)⟩
      · have HNX : Hid (notFin (t.nums.take (j + 1)) = false) := by show _ = _; rw [htk, hfy]; rfl
        clear htk hno hy HRN HRI HSHA HRS HRR HT
        go_wp2_with (go_at_call 23; refine (r_fin hpx _).mono ?_; rintro e wx ⟨rfl, hbx⟩; rw [hfy])
        go_roundw
        case rel => exact ⟨bel hbe hbx, j + 1, by omega, by go_num, HNX.out⟩
        case measure => simp [intOf]; omega
    · have hjN : j = N := by omega
      have HFIN : Hid (t.nums.all ffin = true) := by
        show _ = _
        have h1 := HT.out
        rw [hjN, ← HN.out, List.take_length, notFin_all] at h1
        simpa using h1
      have z9 : ¬ (j : Int) < (N : Int) := by omega
      clear HT hlt0 hjN
      have hop := HOP.out
      have HSH : Hid (∀ v, Below W.heap.size W v → Calls Try.prog 80 #[.agg #[.int .i64 t.op, .slice pn N cn, .slice pi IL ci, d], .int .i64 ((IL : Int) + 1), .int .i64 (IL : Int), .int .i64 (0)] v fun e w' => e = .returned (.bool (shapeP t (IL + 1) IL 0)) ∧ Below v.heap.size v w') := fun v hv => HSHA.out (IL + 1) IL 0 v hv
      have hfe := fitsP_5 hop HFIN.out
      rw [HIL.out] at hfe
      have w1 : IntKind.i64.wrap ((IL : Int) + 1) = (IL : Int) + 1 := by rw [IntKind.wrap_i64]; omega
      cases hs : shapeP t (IL + 1) IL 0
      · have HL : Hid (false = R) := by show _ = R; rw [← HRR.out, hfe, hs]; rfl
        rw [hop] at x0 HX HSH
        clear hfe HRR HFIN HSHA
        go_wp2_with (first
          | (go_at_call 80; (with_reducible refine (HSH.out _ hbe).mono ?_); rintro e wx ⟨rfl, hbx⟩; have hbe := bel hbe hbx; rw [hs]; obtain ⟨x0, x1, x2, x3⟩ := HX.out wx hbe))
        go_ret
        exact ⟨ret_bool HL.out, bel HB0.out hbe⟩
      · have HL : Hid (bnds t.ints = R) := by show _ = R; rw [← HRR.out, hfe, hs, Bool.true_and]
        rw [hop] at x0 HX HSH
        clear hfe HRR HFIN HSHA
        go_wp2_with (first
          | (go_at_call 80; (with_reducible refine (HSH.out _ hbe).mono ?_); rintro e wx ⟨rfl, hbx⟩; have hbe := bel hbe hbx; rw [hs]; obtain ⟨x0, x1, x2, x3⟩ := HX.out wx hbe)
          | (go_at_call 81; (with_reducible refine (HRS.out _ hbe).mono ?_); rintro e wx ⟨rfl, hbx⟩; have hbe := bel hbe hbx))
        go_ret
        exact ⟨ret_bool HL.out, bel HB0.out hbe⟩

set_option maxRecDepth 100000 in
set_option maxHeartbeats 4000000 in
theorem rrow_6 (t : Sc) (hop : t.op = 6) (a c d : Value) (hok : sok t) (w : World) (hS : SV w t a c d) :
    Calls Try.prog 65 #[.agg #[.int .i64 t.op, a, c, d]] w fun e w' => e = .returned (.bool (fitsP t)) ∧ Below w.heap.size w w' := by
  have HOP : Hid (t.op = 6) := hop
  clear hop
  have hx := box_heap w (.cells #[.int .i64 t.op, a, c, d] 26)
  have hb0 := bel_alloc w (.cells #[.int .i64 t.op, a, c, d] 26)
  obtain ⟨W, hW⟩ : ∃ W, w.alloc (.cells #[.int .i64 t.op, a, c, d] 26) = W := ⟨_, rfl⟩
  rw [hW] at hx hb0
  have hSW := hS.below hb0
  have HB0 : Hid (Below w.heap.size w W) := hb0
  have HX : Hid (∀ v, Below W.heap.size W v → v.cell? ⟨w.heap.size, 0, none⟩ = some (.int .i64 t.op) ∧ v.cell? ⟨w.heap.size, 1, none⟩ = some a ∧ v.cell? ⟨w.heap.size, 2, none⟩ = some c ∧ v.cell? ⟨w.heap.size, 3, none⟩ = some d) := fun v hv =>
    ⟨bcell (cell_heap hx 0) hv, bcell (cell_heap hx 1) hv, bcell (cell_heap hx 2) hv, bcell (cell_heap hx 3) hv⟩
  have HSHA : Hid (∀ (x y z : Nat) v, Below W.heap.size W v → Calls Try.prog 80 #[.agg #[.int .i64 t.op, a, c, d], .int .i64 (x : Int), .int .i64 (y : Int), .int .i64 (z : Int)] v fun e w' => e = .returned (.bool (shapeP t x y z)) ∧ Below v.heap.size v w') := fun x y z v hv => shape_any t a c d x y z v (hSW.below hv)
  have HRS : Hid (∀ v, Below W.heap.size W v → Calls Try.prog 81 #[c] v fun e w' => e = .returned (.bool (bnds t.ints)) ∧ Below v.heap.size v w') := fun v hv => rising_any t.ints c hok.1.2.2.2.2.1 v (hSW.ints.below hv)
  obtain ⟨pn, cn, rfl, hrn⟩ := hSW.nums
  obtain ⟨pi, ci, rfl, hri⟩ := hSW.ints
  have HRN : Hid (t.nums = [] ∨ ∃ b o, pn = some ⟨b, o, none⟩ ∧ ∀ i (h : i < t.nums.length), W.cell? ⟨b, o + i, none⟩ = some (.int .u32 t.nums[i])) := hrn
  have HRI : Hid (t.ints = [] ∨ ∃ b o, pi = some ⟨b, o, none⟩ ∧ ∀ i (h : i < t.ints.length), W.cell? ⟨b, o + i, none⟩ = some (.int .i64 t.ints[i])) := hri
  have HPT : Hid (∀ x ∈ t.nums, Pat x) := fun x hx => hok.1.2.1 x hx
  obtain ⟨N, hN⟩ : ∃ N, t.nums.length = N := ⟨_, rfl⟩
  have HN : Hid (t.nums.length = N) := hN
  have hNl : N ≤ 35184372087808 := by rw [← hN]; exact hok.1.2.2.2.1
  obtain ⟨IL, hIL⟩ : ∃ N, t.ints.length = N := ⟨_, rfl⟩
  have HIL : Hid (t.ints.length = IL) := hIL
  have hILl : IL ≤ 17592186043904 := by rw [← hIL]; exact hok.1.2.2.2.2.1
  rw [hN, hIL] at HX HSHA
  rw [hIL] at HRS
  rw [hN, hIL] at hW ⊢
  obtain ⟨R, hR⟩ : ∃ R, fitsP t = R := ⟨_, rfl⟩
  have HRR : Hid (fitsP t = R) := hR
  rw [hR]
  clear hS hSW hx hb0 hrn hri hok hN hIL hR
  go_enter Try.func65, Try.ntmps65
  go_wp2
  go_loopw [3] (fun iv wr => Below W.heap.size W wr ∧ ∃ j : Nat, j ≤ N ∧ iv = .int .i64 j ∧ Hid (notFin (t.nums.take j) = false)) (fun iv _ => N - (intOf iv).toNat)
  case atStart => exact ⟨bel0 W, 0, Nat.zero_le _, rfl, (by show _ = _; simp [notFin])⟩
  case round =>
    obtain ⟨hbe, j, hj, rfl, HT⟩ := hrel
    obtain ⟨x0, x1, x2, x3⟩ := HX.out wr hbe
    by_cases hlt0 : j < N
    · have hll : j < t.nums.length := by rw [HN.out]; exact hlt0
      obtain ⟨b, o, rfl, c1⟩ : ∃ b o, pn = some ⟨b, o, none⟩ ∧ wr.cell? ⟨b, o + j, none⟩ = some (.int .u32 t.nums[j]) := by
        rcases HRN.out with h | ⟨b, o, e, h⟩
        · rw [h] at hll; exact absurd hll (Nat.not_lt_zero _)
        · exact ⟨b, o, e, bcell (h j hll) hbe⟩
      have hpx : Pat t.nums[j] := HPT.out _ (List.getElem_mem hll)
      have htk : notFin (t.nums.take (j + 1)) = (notFin (t.nums.take j) || !ffin t.nums[j]) := by unfold notFin; rw [List.take_succ_eq_append_getElem hll, List.any_append]; simp
      have hno : ffin t.nums[j] = false → fitsP t = false := fun h => fitsP_fin (by
        cases e : t.nums.all ffin
        · rfl
        · rw [List.all_eq_true] at e; have := e _ (List.getElem_mem hll); rw [h] at this; cases this)
      rw [HT.out, Bool.false_or] at htk
      obtain ⟨y, hy⟩ : ∃ y, t.nums[j] = y := ⟨_, rfl⟩
      rw [hy] at c1 hpx htk hno
      have ey : IntKind.i64.wrap y = y := by have := hpx.1; have := hpx.2; rw [IntKind.wrap_i64]; omega
      have i1 : (0 : Int) ≤ (j : Int) := by omega
      have i2 : (j : Int) < (N : Int) := by omega
      cases hfy : ffin y
      · have HL : Hid (false = R) := by show _ = R; rw [← HRR.out, hno hfy]
        clear htk hno hy HRN HRI HSHA HRS HRR HT
        go_wp2_with (go_at_call 23; refine (r_fin hpx _).mono ?_; rintro e wx ⟨rfl, hbx⟩; rw [hfy])
        go_ret
        exact ⟨ret_bool HL.out, bel HB0.out (bel hbe hbx)⟩
      · have HNX : Hid (notFin (t.nums.take (j + 1)) = false) := by show _ = _; rw [htk, hfy]; rfl
        clear htk hno hy HRN HRI HSHA HRS HRR HT
        go_wp2_with (go_at_call 23; refine (r_fin hpx _).mono ?_; rintro e wx ⟨rfl, hbx⟩; rw [hfy])
        go_roundw
        case rel => exact ⟨bel hbe hbx, j + 1, by omega, by go_num, HNX.out⟩
        case measure => simp [intOf]; omega
    · have hjN : j = N := by omega
      have HFIN : Hid (t.nums.all ffin = true) := by
        show _ = _
        have h1 := HT.out
        rw [hjN, ← HN.out, List.take_length, notFin_all] at h1
        simpa using h1
      have z9 : ¬ (j : Int) < (N : Int) := by omega
      clear HT hlt0 hjN
      have hop := HOP.out
      have HSH : Hid (∀ v, Below W.heap.size W v → Calls Try.prog 80 #[.agg #[.int .i64 t.op, .slice pn N cn, .slice pi IL ci, d], .int .i64 (0), .int .i64 (IL : Int), .int .i64 ((IL : Int) + 1)] v fun e w' => e = .returned (.bool (shapeP t 0 IL (IL + 1))) ∧ Below v.heap.size v w') := fun v hv => HSHA.out 0 IL (IL + 1) v hv
      have hfe := fitsP_6 hop HFIN.out
      rw [HIL.out] at hfe
      have w1 : IntKind.i64.wrap ((IL : Int) + 1) = (IL : Int) + 1 := by rw [IntKind.wrap_i64]; omega
      cases hs : shapeP t 0 IL (IL + 1)
      · have HL : Hid (false = R) := by show _ = R; rw [← HRR.out, hfe, hs]; rfl
        rw [hop] at x0 HX HSH
        clear hfe HRR HFIN HSHA
        go_wp2_with (first
          | (go_at_call 80; (with_reducible refine (HSH.out _ hbe).mono ?_); rintro e wx ⟨rfl, hbx⟩; have hbe := bel hbe hbx; rw [hs]; obtain ⟨x0, x1, x2, x3⟩ := HX.out wx hbe))
        go_ret
        exact ⟨ret_bool HL.out, bel HB0.out hbe⟩
      · have HL : Hid (bnds t.ints = R) := by show _ = R; rw [← HRR.out, hfe, hs, Bool.true_and]
        rw [hop] at x0 HX HSH
        clear hfe HRR HFIN HSHA
        go_wp2_with (first
          | (go_at_call 80; (with_reducible refine (HSH.out _ hbe).mono ?_); rintro e wx ⟨rfl, hbx⟩; have hbe := bel hbe hbx; rw [hs]; obtain ⟨x0, x1, x2, x3⟩ := HX.out wx hbe)
          | (go_at_call 81; (with_reducible refine (HRS.out _ hbe).mono ?_); rintro e wx ⟨rfl, hbx⟩; have hbe := bel hbe hbx))
        go_ret
        exact ⟨ret_bool HL.out, bel HB0.out hbe⟩

set_option maxRecDepth 100000 in
set_option maxHeartbeats 4000000 in
theorem rrow_7 (t : Sc) (hop : t.op = 7) (a c d : Value) (hok : sok t) (w : World) (hS : SV w t a c d) :
    Calls Try.prog 65 #[.agg #[.int .i64 t.op, a, c, d]] w fun e w' => e = .returned (.bool (fitsP t)) ∧ Below w.heap.size w w' := by
  have HOP : Hid (t.op = 7) := hop
  clear hop
  have hx := box_heap w (.cells #[.int .i64 t.op, a, c, d] 26)
  have hb0 := bel_alloc w (.cells #[.int .i64 t.op, a, c, d] 26)
  obtain ⟨W, hW⟩ : ∃ W, w.alloc (.cells #[.int .i64 t.op, a, c, d] 26) = W := ⟨_, rfl⟩
  rw [hW] at hx hb0
  have hSW := hS.below hb0
  have HB0 : Hid (Below w.heap.size w W) := hb0
  have HX : Hid (∀ v, Below W.heap.size W v → v.cell? ⟨w.heap.size, 0, none⟩ = some (.int .i64 t.op) ∧ v.cell? ⟨w.heap.size, 1, none⟩ = some a ∧ v.cell? ⟨w.heap.size, 2, none⟩ = some c ∧ v.cell? ⟨w.heap.size, 3, none⟩ = some d) := fun v hv =>
    ⟨bcell (cell_heap hx 0) hv, bcell (cell_heap hx 1) hv, bcell (cell_heap hx 2) hv, bcell (cell_heap hx 3) hv⟩
  have HSHA : Hid (∀ (x y z : Nat) v, Below W.heap.size W v → Calls Try.prog 80 #[.agg #[.int .i64 t.op, a, c, d], .int .i64 (x : Int), .int .i64 (y : Int), .int .i64 (z : Int)] v fun e w' => e = .returned (.bool (shapeP t x y z)) ∧ Below v.heap.size v w') := fun x y z v hv => shape_any t a c d x y z v (hSW.below hv)
  have HRS : Hid (∀ v, Below W.heap.size W v → Calls Try.prog 81 #[c] v fun e w' => e = .returned (.bool (bnds t.ints)) ∧ Below v.heap.size v w') := fun v hv => rising_any t.ints c hok.1.2.2.2.2.1 v (hSW.ints.below hv)
  obtain ⟨pn, cn, rfl, hrn⟩ := hSW.nums
  obtain ⟨pi, ci, rfl, hri⟩ := hSW.ints
  have HRN : Hid (t.nums = [] ∨ ∃ b o, pn = some ⟨b, o, none⟩ ∧ ∀ i (h : i < t.nums.length), W.cell? ⟨b, o + i, none⟩ = some (.int .u32 t.nums[i])) := hrn
  have HRI : Hid (t.ints = [] ∨ ∃ b o, pi = some ⟨b, o, none⟩ ∧ ∀ i (h : i < t.ints.length), W.cell? ⟨b, o + i, none⟩ = some (.int .i64 t.ints[i])) := hri
  have HPT : Hid (∀ x ∈ t.nums, Pat x) := fun x hx => hok.1.2.1 x hx
  obtain ⟨N, hN⟩ : ∃ N, t.nums.length = N := ⟨_, rfl⟩
  have HN : Hid (t.nums.length = N) := hN
  have hNl : N ≤ 35184372087808 := by rw [← hN]; exact hok.1.2.2.2.1
  obtain ⟨IL, hIL⟩ : ∃ N, t.ints.length = N := ⟨_, rfl⟩
  have HIL : Hid (t.ints.length = IL) := hIL
  have hILl : IL ≤ 17592186043904 := by rw [← hIL]; exact hok.1.2.2.2.2.1
  rw [hN, hIL] at HX HSHA
  rw [hIL] at HRS
  rw [hN, hIL] at hW ⊢
  obtain ⟨R, hR⟩ : ∃ R, fitsP t = R := ⟨_, rfl⟩
  have HRR : Hid (fitsP t = R) := hR
  rw [hR]
  clear hS hSW hx hb0 hrn hri hok hN hIL hR
  go_enter Try.func65, Try.ntmps65
  go_wp2
  go_loopw [3] (fun iv wr => Below W.heap.size W wr ∧ ∃ j : Nat, j ≤ N ∧ iv = .int .i64 j ∧ Hid (notFin (t.nums.take j) = false)) (fun iv _ => N - (intOf iv).toNat)
  case atStart => exact ⟨bel0 W, 0, Nat.zero_le _, rfl, (by show _ = _; simp [notFin])⟩
  case round =>
    obtain ⟨hbe, j, hj, rfl, HT⟩ := hrel
    obtain ⟨x0, x1, x2, x3⟩ := HX.out wr hbe
    by_cases hlt0 : j < N
    · have hll : j < t.nums.length := by rw [HN.out]; exact hlt0
      obtain ⟨b, o, rfl, c1⟩ : ∃ b o, pn = some ⟨b, o, none⟩ ∧ wr.cell? ⟨b, o + j, none⟩ = some (.int .u32 t.nums[j]) := by
        rcases HRN.out with h | ⟨b, o, e, h⟩
        · rw [h] at hll; exact absurd hll (Nat.not_lt_zero _)
        · exact ⟨b, o, e, bcell (h j hll) hbe⟩
      have hpx : Pat t.nums[j] := HPT.out _ (List.getElem_mem hll)
      have htk : notFin (t.nums.take (j + 1)) = (notFin (t.nums.take j) || !ffin t.nums[j]) := by unfold notFin; rw [List.take_succ_eq_append_getElem hll, List.any_append]; simp
      have hno : ffin t.nums[j] = false → fitsP t = false := fun h => fitsP_fin (by
        cases e : t.nums.all ffin
        · rfl
        · rw [List.all_eq_true] at e; have := e _ (List.getElem_mem hll); rw [h] at this; cases this)
      rw [HT.out, Bool.false_or] at htk
      obtain ⟨y, hy⟩ : ∃ y, t.nums[j] = y := ⟨_, rfl⟩
      rw [hy] at c1 hpx htk hno
      have ey : IntKind.i64.wrap y = y := by have := hpx.1; have := hpx.2; rw [IntKind.wrap_i64]; omega
      have i1 : (0 : Int) ≤ (j : Int) := by omega
      have i2 : (j : Int) < (N : Int) := by omega
      cases hfy : ffin y
      · have HL : Hid (false = R) := by show _ = R; rw [← HRR.out, hno hfy]
        clear htk hno hy HRN HRI HSHA HRS HRR HT
        go_wp2_with (go_at_call 23; refine (r_fin hpx _).mono ?_; rintro e wx ⟨rfl, hbx⟩; rw [hfy])
        go_ret
        exact ⟨ret_bool HL.out, bel HB0.out (bel hbe hbx)⟩
      · have HNX : Hid (notFin (t.nums.take (j + 1)) = false) := by show _ = _; rw [htk, hfy]; rfl
        clear htk hno hy HRN HRI HSHA HRS HRR HT
        go_wp2_with (go_at_call 23; refine (r_fin hpx _).mono ?_; rintro e wx ⟨rfl, hbx⟩; rw [hfy])
        go_roundw
        case rel => exact ⟨bel hbe hbx, j + 1, by omega, by go_num, HNX.out⟩
        case measure => simp [intOf]; omega
    · have hjN : j = N := by omega
      have HFIN : Hid (t.nums.all ffin = true) := by
        show _ = _
        have h1 := HT.out
        rw [hjN, ← HN.out, List.take_length, notFin_all] at h1
        simpa using h1
      have z9 : ¬ (j : Int) < (N : Int) := by omega
      clear HT hlt0 hjN
      have hop := HOP.out
      have HSH : Hid (∀ v, Below W.heap.size W v → Calls Try.prog 80 #[.agg #[.int .i64 t.op, .slice pn N cn, .slice pi IL ci, d], .int .i64 1, .int .i64 1, .int .i64 0] v fun e w' => e = .returned (.bool (shapeP t 1 1 0)) ∧ Below v.heap.size v w') := fun v hv => HSHA.out 1 1 0 v hv
      have hfe := fitsP_7 hop HFIN.out
      cases hs : shapeP t 1 1 0
      · have HL : Hid (false = R) := by show _ = R; rw [← HRR.out, hfe, hs] <;> simp
        rw [hop] at x0 HX HSH
        clear hfe HRR HFIN HSHA
        go_wp2_with (first
          | (go_at_call 80; (with_reducible refine (HSH.out _ hbe).mono ?_); rintro e wx ⟨rfl, hbx⟩; have hbe := bel hbe hbx; rw [hs]; obtain ⟨x0, x1, x2, x3⟩ := HX.out wx hbe))
        go_ret
        exact ⟨ret_bool HL.out, bel HB0.out hbe⟩
      · obtain ⟨l1, l2, l3⟩ := shapeP_len hs
        rw [HN.out] at l1
        rw [HIL.out] at l2
        obtain ⟨i0, hil⟩ := list1 (show t.ints.length = 1 by rw [HIL.out]; exact l2)
        obtain ⟨bi, oi, rfl, hic⟩ : ∃ b o, pi = some ⟨b, o, none⟩ ∧ W.cell? ⟨b, o, none⟩ = some (.int .i64 i0) := by
          rcases HRI.out with h | ⟨b, o, e, h⟩
          · rw [hil] at h; cases h
          · refine ⟨b, o, e, ?_⟩
            · have h0 := h 0 (by rw [hil]; simp)
              simp only [hil, List.getElem_cons_zero, Nat.add_zero] at h0
              exact h0
        have di0 := hic
        rw [hil] at hfe
        simp only [List.getD_cons_zero, List.getD_cons_succ, hs, Bool.true_and] at hfe
        subst l1 l2
        have HD : Hid (∀ v, Below W.heap.size W v → v.cell? ⟨bi, oi, none⟩ = some (.int .i64 i0)) := fun v hv => bcell di0 hv
        clear di0
        clear HRN HRI
        have HL : Hid ((inR i0 1 2147483647) = R) := by show _ = R; rw [← HRR.out, hfe] <;> simp
        rw [hop] at x0 HX HSH
        clear hfe HRR HFIN HSHA
        go_wp2_with (first
          | (go_at_call 80; (with_reducible refine (HSH.out _ hbe).mono ?_); rintro e wx ⟨rfl, hbx⟩; have hbe := bel hbe hbx; rw [hs]; obtain ⟨x0, x1, x2, x3⟩ := HX.out wx hbe; have di0 := HD.out wx hbe)
          | (go_at_call 30; (with_reducible refine (in_any _ _ _ _).mono ?_); rintro e wx ⟨rfl, hbx⟩; have hbe := bel hbe hbx; obtain ⟨x0, x1, x2, x3⟩ := HX.out wx hbe; have di0 := HD.out wx hbe))
        go_ret
        exact ⟨ret_bool HL.out, bel HB0.out hbe⟩

end Go.Proofs.Ytnogokikiekcbaa
