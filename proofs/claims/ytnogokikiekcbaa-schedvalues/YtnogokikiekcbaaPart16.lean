import Derived.Test.YtnogokikiekcbaaPart14
import Derived.Test.YtnogokikiekcbaaPart15
/- The reference's row, rows 8, 9, 10, 11. -/
namespace Go.Proofs.Ytnogokikiekcbaa
open Go.RowKit
set_option linter.unusedVariables false
set_option linter.unusedSimpArgs false

set_option maxRecDepth 100000 in
set_option maxHeartbeats 4000000 in
theorem rrow_8 (t : Sc) (hop : t.op = 8) (a c d : Value) (hok : sok t) (w : World) (hS : SV w t a c d) :
    Calls Try.prog 65 #[.agg #[.int .i64 t.op, a, c, d]] w fun e w' => e = .returned (.bool (fitsP t)) ∧ Below w.heap.size w w' := by
  have HOP : Hid (t.op = 8) := hop
  clear hop
  have hx := box_heap w (.cells #[.int .i64 t.op, a, c, d] 26)
  have hb0 := bel_alloc w (.cells #[.int .i64 t.op, a, c, d] 26)
  obtain ⟨W, hW⟩ : ∃ W, w.alloc (.cells #[.int .i64 t.op, a, c, d] 26) = W := ⟨_, rfl⟩
  rw [hW] at hx hb0
  have hSW := hS.below hb0
  have HB0 : Hid (Below w.heap.size w W) := hb0
  have HX : Hid (∀ v, Below W.heap.size W v → v.cell? ⟨w.heap.size, 0, none⟩ = some (.int .i64 t.op) ∧ v.cell? ⟨w.heap.size, 1, none⟩ = some a ∧ v.cell? ⟨w.heap.size, 2, none⟩ = some c ∧ v.cell? ⟨w.heap.size, 3, none⟩ = some d) := fun v hv =>
    ⟨bcell (cell_heap hx 0) hv, bcell (cell_heap hx 1) hv, bcell (cell_heap hx 2) hv, bcell (cell_heap hx 3) hv⟩
  have HSHA : Hid (∀ (x y z : Nat) v, Below W.heap.size W v → Calls Try.prog 80 #[.agg #[.int .i64 t.op, a, c, d], .int .i64 (x : Int), .int .i64 (y : Int), .int .i64 (z : Int)] v fun e w' => e = .returned (.bool (shapeP t x y z)) ∧ Below v.heap.size v w') := fun x y z v hv => shape_any t a c d x y z v (hSW.below hv)
  have HRS : Hid (∀ v, Below W.heap.size W v → Calls Try.prog 81 #[c] v fun e w' => e = .returned (.bool (bnds t.ints)) ∧ Below v.heap.size v w') := fun v hv => rising_any t.ints c hok.1.2.2.2.2.1 v (hSW.ints.below hv)
  obtain ⟨pn, cn, rfl, hrn⟩ := hSW.nums
  obtain ⟨pi, ci, rfl, hri⟩ := hSW.ints
  have HRN : Hid (t.nums = [] ∨ ∃ b o, pn = some ⟨b, o, none⟩ ∧ ∀ i (h : i < t.nums.length), W.cell? ⟨b, o + i, none⟩ = some (.int .u32 t.nums[i])) := hrn
  have HRI : Hid (t.ints = [] ∨ ∃ b o, pi = some ⟨b, o, none⟩ ∧ ∀ i (h : i < t.ints.length), W.cell? ⟨b, o + i, none⟩ = some (.int .i64 t.ints[i])) := hri
  have HPT : Hid (∀ x ∈ t.nums, Pat x) := fun x hx => hok.1.2.1 x hx
  obtain ⟨N, hN⟩ : ∃ N, t.nums.length = N := ⟨_, rfl⟩
  have HN : Hid (t.nums.length = N) := hN
  have hNl : N ≤ 35184372087808 := by rw [← hN]; exact hok.1.2.2.2.1
  obtain ⟨IL, hIL⟩ : ∃ N, t.ints.length = N := ⟨_, rfl⟩
  have HIL : Hid (t.ints.length = IL) := hIL
  have hILl : IL ≤ 17592186043904 := by rw [← hIL]; exact hok.1.2.2.2.2.1
  rw [hN, hIL] at HX HSHA
  rw [hIL] at HRS
  rw [hN, hIL] at hW ⊢
  obtain ⟨R, hR⟩ : ∃ R, fitsP t = R := ⟨_, rfl⟩
  have HRR : Hid (fitsP t = R) := hR
  rw [hR]
  clear hS hSW hx hb0 hrn hri hok hN hIL hR
  go_enter Try.func65, Try.ntmps65
  go_wp2
  go_loopw [3] (fun iv wr => Below W.heap.size W wr ∧ ∃ j : Nat, j ≤ N ∧ iv = .int .i64 j ∧ Hid (notFin (t.nums.take j) = false)) (fun iv _ => N - (intOf iv).toNat)
  case atStart => exact ⟨bel0 W, 0, Nat.zero_le _, rfl, (by show _ = _; simp [notFin])⟩
  case round =>
    obtain ⟨hbe, j, hj, rfl, HT⟩ := hrel
    obtain ⟨x0, x1, x2, x3⟩ := HX.out wr hbe
    by_cases hlt0 : j < N
    · have hll : j < t.nums.length := by rw [HN.out]; exact hlt0
      obtain ⟨b, o, rfl, c1⟩ : ∃ b o, pn = some ⟨b, o, none⟩ ∧ wr.cell? ⟨b, o + j, none⟩ = some (.int .u32 t.nums[j]) := by
        rcases HRN.out with h | ⟨b, o, e, h⟩
        · rw [h] at hll; exact absurd hll (Nat.not_lt_zero _)
        · exact ⟨b, o, e, bcell (h j hll) hbe⟩
      have hpx : Pat t.nums[j] := HPT.out _ (List.getElem_mem hll)
      have htk : notFin (t.nums.take (j + 1)) = (notFin (t.nums.take j) || !ffin t.nums[j]) := by unfold notFin; rw [List.take_succ_eq_append_getElem hll, List.any_append]; simp
      have hno : ffin t.nums[j] = false → fitsP t = false := fun h => fitsP_fin (by
        cases e : t.nums.all ffin
        · rfl
        · rw [List.all_eq_true] at e; have := e _ (List.getElem_mem hll); rw [h] at this; cases this)
      rw [HT.out, Bool.false_or] at htk
      obtain ⟨y, hy⟩ : ∃ y, t.nums[j] = y := ⟨_, rfl⟩
      rw [hy] at c1 hpx htk hno
      have ey : IntKind.i64.wrap y = y := by have := hpx.1; have := hpx.2; rw [IntKind.wrap_i64]; omega
      have i1 : (0 : Int) ≤ (j : Int) := by omega
      have i2 : (j : Int) < (N : Int) := by omega
      cases hfy : ffin y
      · have HL : Hid (false = R) := by show _ = R; rw [← HRR.out, hno hfy]
        clear htk hno hy HRN HRI HSHA HRS HRR HT
        go_wp2_with (go_at_call 23; refine (r_fin hpx _).mono ?_; rintro e wx ⟨rfl, hbx⟩; rw [hfy])
        go_ret
        exact ⟨ret_bool HL.out, bel HB0.out (bel hbe hbx)⟩
      · have HNX : Hid (notFin (t.nums.take (j + 1)) = false) := by show _ = _; rw [htk, hfy]; rfl
        clear htk hno hy HRN HRI HSHA HRS HRR HT
        go_wp2_with (go_at_call 23; refine (r_fin hpx _).mono ?_; rintro e wx ⟨rfl, hbx⟩; rw [hfy])
        go_roundw
        case rel => exact ⟨bel hbe hbx, j + 1, by omega, by go_num, HNX.out⟩
        case measure => simp [intOf]; omega
    · have hjN : j = N := by omega
      have HFIN : Hid (t.nums.all ffin = true) := by
        show _ = _
        have h1 := HT.out
        rw [hjN, ← HN.out, List.take_length, notFin_all] at h1
        simpa using h1
      have z9 : ¬ (j : Int) < (N : Int) := by omega
      clear HT hlt0 hjN
      have hop := HOP.out
      have HSH : Hid (∀ v, Below W.heap.size W v → Calls Try.prog 80 #[.agg #[.int .i64 t.op, .slice pn N cn, .slice pi IL ci, d], .int .i64 0, .int .i64 0, .int .i64 2] v fun e w' => e = .returned (.bool (shapeP t 0 0 2)) ∧ Below v.heap.size v w') := fun v hv => HSHA.out 0 0 2 v hv
      have hfe := fitsP_8 hop HFIN.out
      cases hs : shapeP t 0 0 2
      · have HL : Hid (false = R) := by show _ = R; rw [← HRR.out, hfe, hs] <;> simp
        rw [hop] at x0 HX HSH
        clear hfe HRR HFIN HSHA
        go_wp2_with (first
          | (go_at_call 80; (with_reducible refine (HSH.out _ hbe).mono ?_); rintro e wx ⟨rfl, hbx⟩; have hbe := bel hbe hbx; rw [hs]; obtain ⟨x0, x1, x2, x3⟩ := HX.out wx hbe))
        go_ret
        exact ⟨ret_bool HL.out, bel HB0.out hbe⟩
      · have HL : Hid (true = R) := by show _ = R; rw [← HRR.out, hfe, hs]
        rw [hop] at x0 HX HSH
        clear hfe HRR HFIN HSHA
        go_wp2_with (first
          | (go_at_call 80; (with_reducible refine (HSH.out _ hbe).mono ?_); rintro e wx ⟨rfl, hbx⟩; have hbe := bel hbe hbx; rw [hs]; obtain ⟨x0, x1, x2, x3⟩ := HX.out wx hbe))
        go_ret
        exact ⟨ret_bool HL.out, bel HB0.out hbe⟩

set_option maxRecDepth 100000 in
set_option maxHeartbeats 4000000 in
theorem rrow_9 (t : Sc) (hop : t.op = 9) (a c d : Value) (hok : sok t) (w : World) (hS : SV w t a c d) :
    Calls Try.prog 65 #[.agg #[.int .i64 t.op, a, c, d]] w fun e w' => e = .returned (.bool (fitsP t)) ∧ Below w.heap.size w w' := by
  have HOP : Hid (t.op = 9) := hop
  clear hop
  have hx := box_heap w (.cells #[.int .i64 t.op, a, c, d] 26)
  have hb0 := bel_alloc w (.cells #[.int .i64 t.op, a, c, d] 26)
  obtain ⟨W, hW⟩ : ∃ W, w.alloc (.cells #[.int .i64 t.op, a, c, d] 26) = W := ⟨_, rfl⟩
  rw [hW] at hx hb0
  have hSW := hS.below hb0
  have HB0 : Hid (Below w.heap.size w W) := hb0
  have HX : Hid (∀ v, Below W.heap.size W v → v.cell? ⟨w.heap.size, 0, none⟩ = some (.int .i64 t.op) ∧ v.cell? ⟨w.heap.size, 1, none⟩ = some a ∧ v.cell? ⟨w.heap.size, 2, none⟩ = some c ∧ v.cell? ⟨w.heap.size, 3, none⟩ = some d) := fun v hv =>
    ⟨bcell (cell_heap hx 0) hv, bcell (cell_heap hx 1) hv, bcell (cell_heap hx 2) hv, bcell (cell_heap hx 3) hv⟩
  have HSHA : Hid (∀ (x y z : Nat) v, Below W.heap.size W v → Calls Try.prog 80 #[.agg #[.int .i64 t.op, a, c, d], .int .i64 (x : Int), .int .i64 (y : Int), .int .i64 (z : Int)] v fun e w' => e = .returned (.bool (shapeP t x y z)) ∧ Below v.heap.size v w') := fun x y z v hv => shape_any t a c d x y z v (hSW.below hv)
  have HRS : Hid (∀ v, Below W.heap.size W v → Calls Try.prog 81 #[c] v fun e w' => e = .returned (.bool (bnds t.ints)) ∧ Below v.heap.size v w') := fun v hv => rising_any t.ints c hok.1.2.2.2.2.1 v (hSW.ints.below hv)
  obtain ⟨pn, cn, rfl, hrn⟩ := hSW.nums
  obtain ⟨pi, ci, rfl, hri⟩ := hSW.ints
  have HRN : Hid (t.nums = [] ∨ ∃ b o, pn = some ⟨b, o, none⟩ ∧ ∀ i (h : i < t.nums.length), W.cell? ⟨b, o + i, none⟩ = some (.int .u32 t.nums[i])) := hrn
  have HRI : Hid (t.ints = [] ∨ ∃ b o, pi = some ⟨b, o, none⟩ ∧ ∀ i (h : i < t.ints.length), W.cell? ⟨b, o + i, none⟩ = some (.int .i64 t.ints[i])) := hri
  have HPT : Hid (∀ x ∈ t.nums, Pat x) := fun x hx => hok.1.2.1 x hx
  obtain ⟨N, hN⟩ : ∃ N, t.nums.length = N := ⟨_, rfl⟩
  have HN : Hid (t.nums.length = N) := hN
  have hNl : N ≤ 35184372087808 := by rw [← hN]; exact hok.1.2.2.2.1
  obtain ⟨IL, hIL⟩ : ∃ N, t.ints.length = N := ⟨_, rfl⟩
  have HIL : Hid (t.ints.length = IL) := hIL
  have hILl : IL ≤ 17592186043904 := by rw [← hIL]; exact hok.1.2.2.2.2.1
  rw [hN, hIL] at HX HSHA
  rw [hIL] at HRS
  rw [hN, hIL] at hW ⊢
  obtain ⟨R, hR⟩ : ∃ R, fitsP t = R := ⟨_, rfl⟩
  have HRR : Hid (fitsP t = R) := hR
  rw [hR]
  clear hS hSW hx hb0 hrn hri hok hN hIL hR
  go_enter Try.func65, Try.ntmps65
  go_wp2
  go_loopw [3] (fun iv wr => Below W.heap.size W wr ∧ ∃ j : Nat, j ≤ N ∧ iv = .int .i64 j ∧ Hid (notFin (t.nums.take j) = false)) (fun iv _ => N - (intOf iv).toNat)
  case atStart => exact ⟨bel0 W, 0, Nat.zero_le _, rfl, (by show _ = _; simp [notFin])⟩
  case round =>
    obtain ⟨hbe, j, hj, rfl, HT⟩ := hrel
    obtain ⟨x0, x1, x2, x3⟩ := HX.out wr hbe
    by_cases hlt0 : j < N
    · have hll : j < t.nums.length := by rw [HN.out]; exact hlt0
      obtain ⟨b, o, rfl, c1⟩ : ∃ b o, pn = some ⟨b, o, none⟩ ∧ wr.cell? ⟨b, o + j, none⟩ = some (.int .u32 t.nums[j]) := by
        rcases HRN.out with h | ⟨b, o, e, h⟩
        · rw [h] at hll; exact absurd hll (Nat.not_lt_zero _)
        · exact ⟨b, o, e, bcell (h j hll) hbe⟩
      have hpx : Pat t.nums[j] := HPT.out _ (List.getElem_mem hll)
      have htk : notFin (t.nums.take (j + 1)) = (notFin (t.nums.take j) || !ffin t.nums[j]) := by unfold notFin; rw [List.take_succ_eq_append_getElem hll, List.any_append]; simp
      have hno : ffin t.nums[j] = false → fitsP t = false := fun h => fitsP_fin (by
        cases e : t.nums.all ffin
        · rfl
        · rw [List.all_eq_true] at e; have := e _ (List.getElem_mem hll); rw [h] at this; cases this)
      rw [HT.out, Bool.false_or] at htk
      obtain ⟨y, hy⟩ : ∃ y, t.nums[j] = y := ⟨_, rfl⟩
      rw [hy] at c1 hpx htk hno
      have ey : IntKind.i64.wrap y = y := by have := hpx.1; have := hpx.2; rw [IntKind.wrap_i64]; omega
      have i1 : (0 : Int) ≤ (j : Int) := by omega
      have i2 : (j : Int) < (N : Int) := by omega
      cases hfy : ffin y
      · have HL : Hid (false = R) := by show _ = R; rw [← HRR.out, hno hfy]
        clear htk hno hy HRN HRI HSHA HRS HRR HT
        go_wp2_with (go_at_call 23; refine (r_fin hpx _).mono ?_; rintro e wx ⟨rfl, hbx⟩; rw [hfy])
        go_ret
        exact ⟨ret_bool HL.out, bel HB0.out (bel hbe hbx)⟩
      · have HNX : Hid (notFin (t.nums.take (j + 1)) = false) := by show _ = _; rw [htk, hfy]; rfl
        clear htk hno hy HRN HRI HSHA HRS HRR HT
        go_wp2_with (go_at_call 23; refine (r_fin hpx _).mono ?_; rintro e wx ⟨rfl, hbx⟩; rw [hfy])
        go_roundw
        case rel => exact ⟨bel hbe hbx, j + 1, by omega, by go_num, HNX.out⟩
        case measure => simp [intOf]; omega
    · have hjN : j = N := by omega
      have HFIN : Hid (t.nums.all ffin = true) := by
        show _ = _
        have h1 := HT.out
        rw [hjN, ← HN.out, List.take_length, notFin_all] at h1
        simpa using h1
      have z9 : ¬ (j : Int) < (N : Int) := by omega
      clear HT hlt0 hjN
      have hop := HOP.out
      have HSH : Hid (∀ v, Below W.heap.size W v → Calls Try.prog 80 #[.agg #[.int .i64 t.op, .slice pn N cn, .slice pi IL ci, d], .int .i64 0, .int .i64 0, .int .i64 2] v fun e w' => e = .returned (.bool (shapeP t 0 0 2)) ∧ Below v.heap.size v w') := fun v hv => HSHA.out 0 0 2 v hv
      have hfe := fitsP_9 hop HFIN.out
      cases hs : shapeP t 0 0 2
      · have HL : Hid (false = R) := by show _ = R; rw [← HRR.out, hfe, hs] <;> simp
        rw [hop] at x0 HX HSH
        clear hfe HRR HFIN HSHA
        go_wp2_with (first
          | (go_at_call 80; (with_reducible refine (HSH.out _ hbe).mono ?_); rintro e wx ⟨rfl, hbx⟩; have hbe := bel hbe hbx; rw [hs]; obtain ⟨x0, x1, x2, x3⟩ := HX.out wx hbe))
        go_ret
        exact ⟨ret_bool HL.out, bel HB0.out hbe⟩
      · have HL : Hid (true = R) := by show _ = R; rw [← HRR.out, hfe, hs]
        rw [hop] at x0 HX HSH
        clear hfe HRR HFIN HSHA
        go_wp2_with (first
          | (go_at_call 80; (with_reducible refine (HSH.out _ hbe).mono ?_); rintro e wx ⟨rfl, hbx⟩; have hbe := bel hbe hbx; rw [hs]; obtain ⟨x0, x1, x2, x3⟩ := HX.out wx hbe))
        go_ret
        exact ⟨ret_bool HL.out, bel HB0.out hbe⟩

set_option maxRecDepth 100000 in
set_option maxHeartbeats 4000000 in
theorem rrow_10 (t : Sc) (hop : t.op = 10) (a c d : Value) (hok : sok t) (w : World) (hS : SV w t a c d) :
    Calls Try.prog 65 #[.agg #[.int .i64 t.op, a, c, d]] w fun e w' => e = .returned (.bool (fitsP t)) ∧ Below w.heap.size w w' := by
  have HOP : Hid (t.op = 10) := hop
  clear hop
  have hx := box_heap w (.cells #[.int .i64 t.op, a, c, d] 26)
  have hb0 := bel_alloc w (.cells #[.int .i64 t.op, a, c, d] 26)
  obtain ⟨W, hW⟩ : ∃ W, w.alloc (.cells #[.int .i64 t.op, a, c, d] 26) = W := ⟨_, rfl⟩
  rw [hW] at hx hb0
  have hSW := hS.below hb0
  have HB0 : Hid (Below w.heap.size w W) := hb0
  have HX : Hid (∀ v, Below W.heap.size W v → v.cell? ⟨w.heap.size, 0, none⟩ = some (.int .i64 t.op) ∧ v.cell? ⟨w.heap.size, 1, none⟩ = some a ∧ v.cell? ⟨w.heap.size, 2, none⟩ = some c ∧ v.cell? ⟨w.heap.size, 3, none⟩ = some d) := fun v hv =>
    ⟨bcell (cell_heap hx 0) hv, bcell (cell_heap hx 1) hv, bcell (cell_heap hx 2) hv, bcell (cell_heap hx 3) hv⟩
  have HSHA : Hid (∀ (x y z : Nat) v, Below W.heap.size W v → Calls Try.prog 80 #[.agg #[.int .i64 t.op, a, c, d], .int .i64 (x : Int), .int .i64 (y : Int), .int .i64 (z : Int)] v fun e w' => e = .returned (.bool (shapeP t x y z)) ∧ Below v.heap.size v w') := fun x y z v hv => shape_any t a c d x y z v (hSW.below hv)
  have HRS : Hid (∀ v, Below W.heap.size W v → Calls Try.prog 81 #[c] v fun e w' => e = .returned (.bool (bnds t.ints)) ∧ Below v.heap.size v w') := fun v hv => rising_any t.ints c hok.1.2.2.2.2.1 v (hSW.ints.below hv)
  obtain ⟨pn, cn, rfl, hrn⟩ := hSW.nums
  obtain ⟨pi, ci, rfl, hri⟩ := hSW.ints
  have HRN : Hid (t.nums = [] ∨ ∃ b o, pn = some ⟨b, o, none⟩ ∧ ∀ i (h : i < t.nums.length), W.cell? ⟨b, o + i, none⟩ = some (.int .u32 t.nums[i])) := hrn
  have HRI : Hid (t.ints = [] ∨ ∃ b o, pi = some ⟨b, o, none⟩ ∧ ∀ i (h : i < t.ints.length), W.cell? ⟨b, o + i, none⟩ = some (.int .i64 t.ints[i])) := hri
  have HPT : Hid (∀ x ∈ t.nums, Pat x) := fun x hx => hok.1.2.1 x hx
  obtain ⟨N, hN⟩ : ∃ N, t.nums.length = N := ⟨_, rfl⟩
  have HN : Hid (t.nums.length = N) := hN
  have hNl : N ≤ 35184372087808 := by rw [← hN]; exact hok.1.2.2.2.1
  obtain ⟨IL, hIL⟩ : ∃ N, t.ints.length = N := ⟨_, rfl⟩
  have HIL : Hid (t.ints.length = IL) := hIL
  have hILl : IL ≤ 17592186043904 := by rw [← hIL]; exact hok.1.2.2.2.2.1
  rw [hN, hIL] at HX HSHA
  rw [hIL] at HRS
  rw [hN, hIL] at hW ⊢
  obtain ⟨R, hR⟩ : ∃ R, fitsP t = R := ⟨_, rfl⟩
  have HRR : Hid (fitsP t = R) := hR
  rw [hR]
  clear hS hSW hx hb0 hrn hri hok hN hIL hR
  go_enter Try.func65, Try.ntmps65
  go_wp2
  go_loopw [3] (fun iv wr => Below W.heap.size W wr ∧ ∃ j : Nat, j ≤ N ∧ iv = .int .i64 j ∧ Hid (notFin (t.nums.take j) = false)) (fun iv _ => N - (intOf iv).toNat)
  case atStart => exact ⟨bel0 W, 0, Nat.zero_le _, rfl, (by show _ = _; simp [notFin])⟩
  case round =>
    obtain ⟨hbe, j, hj, rfl, HT⟩ := hrel
    obtain ⟨x0, x1, x2, x3⟩ := HX.out wr hbe
    by_cases hlt0 : j < N
    · have hll : j < t.nums.length := by rw [HN.out]; exact hlt0
      obtain ⟨b, o, rfl, c1⟩ : ∃ b o, pn = some ⟨b, o, none⟩ ∧ wr.cell? ⟨b, o + j, none⟩ = some (.int .u32 t.nums[j]) := by
        rcases HRN.out with h | ⟨b, o, e, h⟩
        · rw [h] at hll; exact absurd hll (Nat.not_lt_zero _)
        · exact ⟨b, o, e, bcell (h j hll) hbe⟩
      have hpx : Pat t.nums[j] := HPT.out _ (List.getElem_mem hll)
      have htk : notFin (t.nums.take (j + 1)) = (notFin (t.nums.take j) || !ffin t.nums[j]) := by unfold notFin; rw [List.take_succ_eq_append_getElem hll, List.any_append]; simp
      have hno : ffin t.nums[j] = false → fitsP t = false := fun h => fitsP_fin (by
        cases e : t.nums.all ffin
        · rfl
        · rw [List.all_eq_true] at e; have := e _ (List.getElem_mem hll); rw [h] at this; cases this)
      rw [HT.out, Bool.false_or] at htk
      obtain ⟨y, hy⟩ : ∃ y, t.nums[j] = y := ⟨_, rfl⟩
      rw [hy] at c1 hpx htk hno
      have ey : IntKind.i64.wrap y = y := by have := hpx.1; have := hpx.2; rw [IntKind.wrap_i64]; omega
      have i1 : (0 : Int) ≤ (j : Int) := by omega
      have i2 : (j : Int) < (N : Int) := by omega
      cases hfy : ffin y
      · have HL : Hid (false = R) := by show _ = R; rw [← HRR.out, hno hfy]
        clear htk hno hy HRN HRI HSHA HRS HRR HT
        go_wp2_with (go_at_call 23; refine (r_fin hpx _).mono ?_; rintro e wx ⟨rfl, hbx⟩; rw [hfy])
        go_ret
        exact ⟨ret_bool HL.out, bel HB0.out (bel hbe hbx)⟩
      · have HNX : Hid (notFin (t.nums.take (j + 1)) = false) := by show _ = _; rw [htk, hfy]; rfl
        clear htk hno hy HRN HRI HSHA HRS HRR HT
        go_wp2_with (go_at_call 23; refine (r_fin hpx _).mono ?_; rintro e wx ⟨rfl, hbx⟩; rw [hfy])
        go_roundw
        case rel => exact ⟨bel hbe hbx, j + 1, by omega, by go_num, HNX.out⟩
        case measure => simp [intOf]; omega
    · have hjN : j = N := by omega
      have HFIN : Hid (t.nums.all ffin = true) := by
        show _ = _
        have h1 := HT.out
        rw [hjN, ← HN.out, List.take_length, notFin_all] at h1
        simpa using h1
      have z9 : ¬ (j : Int) < (N : Int) := by omega
      clear HT hlt0 hjN
      have hop := HOP.out
      have HSH : Hid (∀ v, Below W.heap.size W v → Calls Try.prog 80 #[.agg #[.int .i64 t.op, .slice pn N cn, .slice pi IL ci, d], .int .i64 0, .int .i64 0, .int .i64 2] v fun e w' => e = .returned (.bool (shapeP t 0 0 2)) ∧ Below v.heap.size v w') := fun v hv => HSHA.out 0 0 2 v hv
      have hfe := fitsP_10 hop HFIN.out
      cases hs : shapeP t 0 0 2
      · have HL : Hid (false = R) := by show _ = R; rw [← HRR.out, hfe, hs] <;> simp
        rw [hop] at x0 HX HSH
        clear hfe HRR HFIN HSHA
        go_wp2_with (first
          | (go_at_call 80; (with_reducible refine (HSH.out _ hbe).mono ?_); rintro e wx ⟨rfl, hbx⟩; have hbe := bel hbe hbx; rw [hs]; obtain ⟨x0, x1, x2, x3⟩ := HX.out wx hbe))
        go_ret
        exact ⟨ret_bool HL.out, bel HB0.out hbe⟩
      · have HL : Hid (true = R) := by show _ = R; rw [← HRR.out, hfe, hs]
        rw [hop] at x0 HX HSH
        clear hfe HRR HFIN HSHA
        go_wp2_with (first
          | (go_at_call 80; (with_reducible refine (HSH.out _ hbe).mono ?_); rintro e wx ⟨rfl, hbx⟩; have hbe := bel hbe hbx; rw [hs]; obtain ⟨x0, x1, x2, x3⟩ := HX.out wx hbe))
        go_ret
        exact ⟨ret_bool HL.out, bel HB0.out hbe⟩

set_option maxRecDepth 100000 in
set_option maxHeartbeats 4000000 in
theorem rrow_11 (t : Sc) (hop : t.op = 11) (a c d : Value) (hok : sok t) (w : World) (hS : SV w t a c d) :
    Calls Try.prog 65 #[.agg #[.int .i64 t.op, a, c, d]] w fun e w' => e = .returned (.bool (fitsP t)) ∧ Below w.heap.size w w' := by
  have HOP : Hid (t.op = 11) := hop
  clear hop
  have hx := box_heap w (.cells #[.int .i64 t.op, a, c, d] 26)
  have hb0 := bel_alloc w (.cells #[.int .i64 t.op, a, c, d] 26)
  obtain ⟨W, hW⟩ : ∃ W, w.alloc (.cells #[.int .i64 t.op, a, c, d] 26) = W := ⟨_, rfl⟩
  rw [hW] at hx hb0
  have hSW := hS.below hb0
  have HB0 : Hid (Below w.heap.size w W) := hb0
  have HX : Hid (∀ v, Below W.heap.size W v → v.cell? ⟨w.heap.size, 0, none⟩ = some (.int .i64 t.op) ∧ v.cell? ⟨w.heap.size, 1, none⟩ = some a ∧ v.cell? ⟨w.heap.size, 2, none⟩ = some c ∧ v.cell? ⟨w.heap.size, 3, none⟩ = some d) := fun v hv =>
    ⟨bcell (cell_heap hx 0) hv, bcell (cell_heap hx 1) hv, bcell (cell_heap hx 2) hv, bcell (cell_heap hx 3) hv⟩
  have HSHA : Hid (∀ (x y z : Nat) v, Below W.heap.size W v → Calls Try.prog 80 #[.agg #[.int .i64 t.op, a, c, d], .int .i64 (x : Int), .int .i64 (y : Int), .int .i64 (z : Int)] v fun e w' => e = .returned (.bool (shapeP t x y z)) ∧ Below v.heap.size v w') := fun x y z v hv => shape_any t a c d x y z v (hSW.below hv)
  have HRS : Hid (∀ v, Below W.heap.size W v → Calls Try.prog 81 #[c] v fun e w' => e = .returned (.bool (bnds t.ints)) ∧ Below v.heap.size v w') := fun v hv => rising_any t.ints c hok.1.2.2.2.2.1 v (hSW.ints.below hv)
  obtain ⟨pn, cn, rfl, hrn⟩ := hSW.nums
  obtain ⟨pi, ci, rfl, hri⟩ := hSW.ints
  have HRN : Hid (t.nums = [] ∨ ∃ b o, pn = some ⟨b, o, none⟩ ∧ ∀ i (h : i < t.nums.length), W.cell? ⟨b, o + i, none⟩ = some (.int .u32 t.nums[i])) := hrn
  have HRI : Hid (t.ints = [] ∨ ∃ b o, pi = some ⟨b, o, none⟩ ∧ ∀ i (h : i < t.ints.length), W.cell? ⟨b, o + i, none⟩ = some (.int .i64 t.ints[i])) := hri
  have HPT : Hid (∀ x ∈ t.nums, Pat x) := fun x hx => hok.1.2.1 x hx
  obtain ⟨N, hN⟩ : ∃ N, t.nums.length = N := ⟨_, rfl⟩
  have HN : Hid (t.nums.length = N) := hN
  have hNl : N ≤ 35184372087808 := by rw [← hN]; exact hok.1.2.2.2.1
  obtain ⟨IL, hIL⟩ : ∃ N, t.ints.length = N := ⟨_, rfl⟩
  have HIL : Hid (t.ints.length = IL) := hIL
  have hILl : IL ≤ 17592186043904 := by rw [← hIL]; exact hok.1.2.2.2.2.1
  rw [hN, hIL] at HX HSHA
  rw [hIL] at HRS
  rw [hN, hIL] at hW ⊢
  obtain ⟨R, hR⟩ : ∃ R, fitsP t = R := ⟨_, rfl⟩
  have HRR : Hid (fitsP t = R) := hR
  rw [hR]
  clear hS hSW hx hb0 hrn hri hok hN hIL hR
  go_enter Try.func65, Try.ntmps65
  go_wp2
  go_loopw [3] (fun iv wr => Below W.heap.size W wr ∧ ∃ j : Nat, j ≤ N ∧ iv = .int .i64 j ∧ Hid (notFin (t.nums.take j) = false)) (fun iv _ => N - (intOf iv).toNat)
  case atStart => exact ⟨bel0 W, 0, Nat.zero_le _, rfl, (by show _ = _; simp [notFin])⟩
  case round =>
    obtain ⟨hbe, j, hj, rfl, HT⟩ := hrel
    obtain ⟨x0, x1, x2, x3⟩ := HX.out wr hbe
    by_cases hlt0 : j < N
    · have hll : j < t.nums.length := by rw [HN.out]; exact hlt0
      obtain ⟨b, o, rfl, c1⟩ : ∃ b o, pn = some ⟨b, o, none⟩ ∧ wr.cell? ⟨b, o + j, none⟩ = some (.int .u32 t.nums[j]) := by
        rcases HRN.out with h | ⟨b, o, e, h⟩
        · rw [h] at hll; exact absurd hll (Nat.not_lt_zero _)
        · exact ⟨b, o, e, bcell (h j hll) hbe⟩
      have hpx : Pat t.nums[j] := HPT.out _ (List.getElem_mem hll)
      have htk : notFin (t.nums.take (j + 1)) = (notFin (t.nums.take j) || !ffin t.nums[j]) := by unfold notFin; rw [List.take_succ_eq_append_getElem hll, List.any_append]; simp
      have hno : ffin t.nums[j] = false → fitsP t = false := fun h => fitsP_fin (by
        cases e : t.nums.all ffin
        · rfl
        · rw [List.all_eq_true] at e; have := e _ (List.getElem_mem hll); rw [h] at this; cases this)
      rw [HT.out, Bool.false_or] at htk
      obtain ⟨y, hy⟩ : ∃ y, t.nums[j] = y := ⟨_, rfl⟩
      rw [hy] at c1 hpx htk hno
      have ey : IntKind.i64.wrap y = y := by have := hpx.1; have := hpx.2; rw [IntKind.wrap_i64]; omega
      have i1 : (0 : Int) ≤ (j : Int) := by omega
      have i2 : (j : Int) < (N : Int) := by omega
      cases hfy : ffin y
      · have HL : Hid (false = R) := by show _ = R; rw [← HRR.out, hno hfy]
        clear htk hno hy HRN HRI HSHA HRS HRR HT
        go_wp2_with (go_at_call 23; refine (r_fin hpx _).mono ?_; rintro e wx ⟨rfl, hbx⟩; rw [hfy])
        go_ret
        exact ⟨ret_bool HL.out, bel HB0.out (bel hbe hbx)⟩
      · have HNX : Hid (notFin (t.nums.take (j + 1)) = false) := by show _ = _; rw [htk, hfy]; rfl
        clear htk hno hy HRN HRI HSHA HRS HRR HT
        go_wp2_with (go_at_call 23; refine (r_fin hpx _).mono ?_; rintro e wx ⟨rfl, hbx⟩; rw [hfy])
        go_roundw
        case rel => exact ⟨bel hbe hbx, j + 1, by omega, by go_num, HNX.out⟩
        case measure => simp [intOf]; omega
    · have hjN : j = N := by omega
      have HFIN : Hid (t.nums.all ffin = true) := by
        show _ = _
        have h1 := HT.out
        rw [hjN, ← HN.out, List.take_length, notFin_all] at h1
        simpa using h1
      have z9 : ¬ (j : Int) < (N : Int) := by omega
      clear HT hlt0 hjN
      have hop := HOP.out
      have HSH : Hid (∀ v, Below W.heap.size W v → Calls Try.prog 80 #[.agg #[.int .i64 t.op, .slice pn N cn, .slice pi IL ci, d], .int .i64 0, .int .i64 0, .int .i64 2] v fun e w' => e = .returned (.bool (shapeP t 0 0 2)) ∧ Below v.heap.size v w') := fun v hv => HSHA.out 0 0 2 v hv
      have hfe := fitsP_11 hop HFIN.out
      cases hs : shapeP t 0 0 2
      · have HL : Hid (false = R) := by show _ = R; rw [← HRR.out, hfe, hs] <;> simp
        rw [hop] at x0 HX HSH
        clear hfe HRR HFIN HSHA
        go_wp2_with (first
          | (go_at_call 80; (with_reducible refine (HSH.out _ hbe).mono ?_); rintro e wx ⟨rfl, hbx⟩; have hbe := bel hbe hbx; rw [hs]; obtain ⟨x0, x1, x2, x3⟩ := HX.out wx hbe))
        go_ret
        exact ⟨ret_bool HL.out, bel HB0.out hbe⟩
      · have HL : Hid (true = R) := by show _ = R; rw [← HRR.out, hfe, hs]
        rw [hop] at x0 HX HSH
        clear hfe HRR HFIN HSHA
        go_wp2_with (first
          | (go_at_call 80; (with_reducible refine (HSH.out _ hbe).mono ?_); rintro e wx ⟨rfl, hbx⟩; have hbe := bel hbe hbx; rw [hs]; obtain ⟨x0, x1, x2, x3⟩ := HX.out wx hbe))
        go_ret
        exact ⟨ret_bool HL.out, bel HB0.out hbe⟩

end Go.Proofs.Ytnogokikiekcbaa
/- The reference's row, rows 12, 13, 0. -/
namespace Go.Proofs.Ytnogokikiekcbaa
open Go.RowKit
set_option linter.unusedVariables false
set_option linter.unusedSimpArgs false

set_option maxRecDepth 100000 in
set_option maxHeartbeats 4000000 in
theorem rrow_12 (t : Sc) (hop : t.op = 12) (a c d : Value) (hok : sok t) (w : World) (hS : SV w t a c d) :
    Calls Try.prog 65 #[.agg #[.int .i64 t.op, a, c, d]] w fun e w' => e = .returned (.bool (fitsP t)) ∧ Below w.heap.size w w' := by
  have HOP : Hid (t.op = 12) := hop
  clear hop
  have hx := box_heap w (.cells #[.int .i64 t.op, a, c, d] 26)
  have hb0 := bel_alloc w (.cells #[.int .i64 t.op, a, c, d] 26)
  obtain ⟨W, hW⟩ : ∃ W, w.alloc (.cells #[.int .i64 t.op, a, c, d] 26) = W := ⟨_, rfl⟩
  rw [hW] at hx hb0
  have hSW := hS.below hb0
  have HB0 : Hid (Below w.heap.size w W) := hb0
  have HX : Hid (∀ v, Below W.heap.size W v → v.cell? ⟨w.heap.size, 0, none⟩ = some (.int .i64 t.op) ∧ v.cell? ⟨w.heap.size, 1, none⟩ = some a ∧ v.cell? ⟨w.heap.size, 2, none⟩ = some c ∧ v.cell? ⟨w.heap.size, 3, none⟩ = some d) := fun v hv =>
    ⟨bcell (cell_heap hx 0) hv, bcell (cell_heap hx 1) hv, bcell (cell_heap hx 2) hv, bcell (cell_heap hx 3) hv⟩
  have HSHA : Hid (∀ (x y z : Nat) v, Below W.heap.size W v → Calls Try.prog 80 #[.agg #[.int .i64 t.op, a, c, d], .int .i64 (x : Int), .int .i64 (y : Int), .int .i64 (z : Int)] v fun e w' => e = .returned (.bool (shapeP t x y z)) ∧ Below v.heap.size v w') := fun x y z v hv => shape_any t a c d x y z v (hSW.below hv)
  have HRS : Hid (∀ v, Below W.heap.size W v → Calls Try.prog 81 #[c] v fun e w' => e = .returned (.bool (bnds t.ints)) ∧ Below v.heap.size v w') := fun v hv => rising_any t.ints c hok.1.2.2.2.2.1 v (hSW.ints.below hv)
  obtain ⟨pn, cn, rfl, hrn⟩ := hSW.nums
  obtain ⟨pi, ci, rfl, hri⟩ := hSW.ints
  have HRN : Hid (t.nums = [] ∨ ∃ b o, pn = some ⟨b, o, none⟩ ∧ ∀ i (h : i < t.nums.length), W.cell? ⟨b, o + i, none⟩ = some (.int .u32 t.nums[i])) := hrn
  have HRI : Hid (t.ints = [] ∨ ∃ b o, pi = some ⟨b, o, none⟩ ∧ ∀ i (h : i < t.ints.length), W.cell? ⟨b, o + i, none⟩ = some (.int .i64 t.ints[i])) := hri
  have HPT : Hid (∀ x ∈ t.nums, Pat x) := fun x hx => hok.1.2.1 x hx
  obtain ⟨N, hN⟩ : ∃ N, t.nums.length = N := ⟨_, rfl⟩
  have HN : Hid (t.nums.length = N) := hN
  have hNl : N ≤ 35184372087808 := by rw [← hN]; exact hok.1.2.2.2.1
  obtain ⟨IL, hIL⟩ : ∃ N, t.ints.length = N := ⟨_, rfl⟩
  have HIL : Hid (t.ints.length = IL) := hIL
  have hILl : IL ≤ 17592186043904 := by rw [← hIL]; exact hok.1.2.2.2.2.1
  rw [hN, hIL] at HX HSHA
  rw [hIL] at HRS
  rw [hN, hIL] at hW ⊢
  obtain ⟨R, hR⟩ : ∃ R, fitsP t = R := ⟨_, rfl⟩
  have HRR : Hid (fitsP t = R) := hR
  rw [hR]
  clear hS hSW hx hb0 hrn hri hok hN hIL hR
  go_enter Try.func65, Try.ntmps65
  go_wp2
  go_loopw [3] (fun iv wr => Below W.heap.size W wr ∧ ∃ j : Nat, j ≤ N ∧ iv = .int .i64 j ∧ Hid (notFin (t.nums.take j) = false)) (fun iv _ => N - (intOf iv).toNat)
  case atStart => exact ⟨bel0 W, 0, Nat.zero_le _, rfl, (by show _ = _; simp [notFin])⟩
  case round =>
    obtain ⟨hbe, j, hj, rfl, HT⟩ := hrel
    obtain ⟨x0, x1, x2, x3⟩ := HX.out wr hbe
    by_cases hlt0 : j < N
    · have hll : j < t.nums.length := by rw [HN.out]; exact hlt0
      obtain ⟨b, o, rfl, c1⟩ : ∃ b o, pn = some ⟨b, o, none⟩ ∧ wr.cell? ⟨b, o + j, none⟩ = some (.int .u32 t.nums[j]) := by
        rcases HRN.out with h | ⟨b, o, e, h⟩
        · rw [h] at hll; exact absurd hll (Nat.not_lt_zero _)
        · exact ⟨b, o, e, bcell (h j hll) hbe⟩
      have hpx : Pat t.nums[j] := HPT.out _ (List.getElem_mem hll)
      have htk : notFin (t.nums.take (j + 1)) = (notFin (t.nums.take j) || !ffin t.nums[j]) := by unfold notFin; rw [List.take_succ_eq_append_getElem hll, List.any_append]; simp
      have hno : ffin t.nums[j] = false → fitsP t = false := fun h => fitsP_fin (by
        cases e : t.nums.all ffin
        · rfl
        · rw [List.all_eq_true] at e; have := e _ (List.getElem_mem hll); rw [h] at this; cases this)
      rw [HT.out, Bool.false_or] at htk
      obtain ⟨y, hy⟩ : ∃ y, t.nums[j] = y := ⟨_, rfl⟩
      rw [hy] at c1 hpx htk hno
      have ey : IntKind.i64.wrap y = y := by have := hpx.1; have := hpx.2; rw [IntKind.wrap_i64]; omega
      have i1 : (0 : Int) ≤ (j : Int) := by omega
      have i2 : (j : Int) < (N : Int) := by omega
      cases hfy : ffin y
      · have HL : Hid (false = R) := by show _ = R; rw [← HRR.out, hno hfy]
        clear htk hno hy HRN HRI HSHA HRS HRR HT
        go_wp2_with (go_at_call 23; refine (r_fin hpx _).mono ?_; rintro e wx ⟨rfl, hbx⟩; rw [hfy])
        go_ret
        exact ⟨ret_bool HL.out, bel HB0.out (bel hbe hbx)⟩
      · have HNX : Hid (notFin (t.nums.take (j + 1)) = false) := by show _ = _; rw [htk, hfy]; rfl
        clear htk hno hy HRN HRI HSHA HRS HRR HT
        go_wp2_with (go_at_call 23; refine (r_fin hpx _).mono ?_; rintro e wx ⟨rfl, hbx⟩; rw [hfy])
        go_roundw
        case rel => exact ⟨bel hbe hbx, j + 1, by omega, by go_num, HNX.out⟩
        case measure => simp [intOf]; omega
    · have hjN : j = N := by omega
      have HFIN : Hid (t.nums.all ffin = true) := by
        show _ = _
        have h1 := HT.out
        rw [hjN, ← HN.out, List.take_length, notFin_all] at h1
        simpa using h1
      have z9 : ¬ (j : Int) < (N : Int) := by omega
      clear HT hlt0 hjN
      have hop := HOP.out
      have HSH : Hid (∀ v, Below W.heap.size W v → Calls Try.prog 80 #[.agg #[.int .i64 t.op, .slice pn N cn, .slice pi IL ci, d], .int .i64 0, .int .i64 1, .int .i64 1] v fun e w' => e = .returned (.bool (shapeP t 0 1 1)) ∧ Below v.heap.size v w') := fun v hv => HSHA.out 0 1 1 v hv
      have hfe := fitsP_12 hop HFIN.out
      cases hs : shapeP t 0 1 1
      · have HL : Hid (false = R) := by show _ = R; rw [← HRR.out, hfe, hs] <;> simp
        rw [hop] at x0 HX HSH
        clear hfe HRR HFIN HSHA
        go_wp2_with (first
          | (go_at_call 80; (with_reducible refine (HSH.out _ hbe).mono ?_); rintro e wx ⟨rfl, hbx⟩; have hbe := bel hbe hbx; rw [hs]; obtain ⟨x0, x1, x2, x3⟩ := HX.out wx hbe))
        go_ret
        exact ⟨ret_bool HL.out, bel HB0.out hbe⟩
      · obtain ⟨l1, l2, l3⟩ := shapeP_len hs
        rw [HN.out] at l1
        rw [HIL.out] at l2
        obtain ⟨i0, hil⟩ := list1 (show t.ints.length = 1 by rw [HIL.out]; exact l2)
        obtain ⟨bi, oi, rfl, hic⟩ : ∃ b o, pi = some ⟨b, o, none⟩ ∧ W.cell? ⟨b, o, none⟩ = some (.int .i64 i0) := by
          rcases HRI.out with h | ⟨b, o, e, h⟩
          · rw [hil] at h; cases h
          · refine ⟨b, o, e, ?_⟩
            · have h0 := h 0 (by rw [hil]; simp)
              simp only [hil, List.getElem_cons_zero, Nat.add_zero] at h0
              exact h0
        have di0 := hic
        rw [hil] at hfe
        simp only [List.getD_cons_zero, List.getD_cons_succ, hs, Bool.true_and] at hfe
        subst l1 l2
        have HD : Hid (∀ v, Below W.heap.size W v → v.cell? ⟨bi, oi, none⟩ = some (.int .i64 i0)) := fun v hv => bcell di0 hv
        clear di0
        clear HRN HRI
        have HL : Hid ((inR i0 0 2147483647) = R) := by show _ = R; rw [← HRR.out, hfe] <;> simp
        rw [hop] at x0 HX HSH
        clear hfe HRR HFIN HSHA
        go_wp2_with (first
          | (go_at_call 80; (with_reducible refine (HSH.out _ hbe).mono ?_); rintro e wx ⟨rfl, hbx⟩; have hbe := bel hbe hbx; rw [hs]; obtain ⟨x0, x1, x2, x3⟩ := HX.out wx hbe; have di0 := HD.out wx hbe)
          | (go_at_call 30; (with_reducible refine (in_any _ _ _ _).mono ?_); rintro e wx ⟨rfl, hbx⟩; have hbe := bel hbe hbx; obtain ⟨x0, x1, x2, x3⟩ := HX.out wx hbe; have di0 := HD.out wx hbe))
        go_ret
        exact ⟨ret_bool HL.out, bel HB0.out hbe⟩

set_option maxRecDepth 100000 in
set_option maxHeartbeats 4000000 in
theorem rrow_13 (t : Sc) (hop : t.op = 13) (a c d : Value) (hok : sok t) (w : World) (hS : SV w t a c d) :
    Calls Try.prog 65 #[.agg #[.int .i64 t.op, a, c, d]] w fun e w' => e = .returned (.bool (fitsP t)) ∧ Below w.heap.size w w' := by
  have HOP : Hid (t.op = 13) := hop
  clear hop
  have hx := box_heap w (.cells #[.int .i64 t.op, a, c, d] 26)
  have hb0 := bel_alloc w (.cells #[.int .i64 t.op, a, c, d] 26)
  obtain ⟨W, hW⟩ : ∃ W, w.alloc (.cells #[.int .i64 t.op, a, c, d] 26) = W := ⟨_, rfl⟩
  rw [hW] at hx hb0
  have hSW := hS.below hb0
  have HB0 : Hid (Below w.heap.size w W) := hb0
  have HX : Hid (∀ v, Below W.heap.size W v → v.cell? ⟨w.heap.size, 0, none⟩ = some (.int .i64 t.op) ∧ v.cell? ⟨w.heap.size, 1, none⟩ = some a ∧ v.cell? ⟨w.heap.size, 2, none⟩ = some c ∧ v.cell? ⟨w.heap.size, 3, none⟩ = some d) := fun v hv =>
    ⟨bcell (cell_heap hx 0) hv, bcell (cell_heap hx 1) hv, bcell (cell_heap hx 2) hv, bcell (cell_heap hx 3) hv⟩
  have HSHA : Hid (∀ (x y z : Nat) v, Below W.heap.size W v → Calls Try.prog 80 #[.agg #[.int .i64 t.op, a, c, d], .int .i64 (x : Int), .int .i64 (y : Int), .int .i64 (z : Int)] v fun e w' => e = .returned (.bool (shapeP t x y z)) ∧ Below v.heap.size v w') := fun x y z v hv => shape_any t a c d x y z v (hSW.below hv)
  have HRS : Hid (∀ v, Below W.heap.size W v → Calls Try.prog 81 #[c] v fun e w' => e = .returned (.bool (bnds t.ints)) ∧ Below v.heap.size v w') := fun v hv => rising_any t.ints c hok.1.2.2.2.2.1 v (hSW.ints.below hv)
  obtain ⟨pn, cn, rfl, hrn⟩ := hSW.nums
  obtain ⟨pi, ci, rfl, hri⟩ := hSW.ints
  have HRN : Hid (t.nums = [] ∨ ∃ b o, pn = some ⟨b, o, none⟩ ∧ ∀ i (h : i < t.nums.length), W.cell? ⟨b, o + i, none⟩ = some (.int .u32 t.nums[i])) := hrn
  have HRI : Hid (t.ints = [] ∨ ∃ b o, pi = some ⟨b, o, none⟩ ∧ ∀ i (h : i < t.ints.length), W.cell? ⟨b, o + i, none⟩ = some (.int .i64 t.ints[i])) := hri
  have HPT : Hid (∀ x ∈ t.nums, Pat x) := fun x hx => hok.1.2.1 x hx
  obtain ⟨N, hN⟩ : ∃ N, t.nums.length = N := ⟨_, rfl⟩
  have HN : Hid (t.nums.length = N) := hN
  have hNl : N ≤ 35184372087808 := by rw [← hN]; exact hok.1.2.2.2.1
  obtain ⟨IL, hIL⟩ : ∃ N, t.ints.length = N := ⟨_, rfl⟩
  have HIL : Hid (t.ints.length = IL) := hIL
  have hILl : IL ≤ 17592186043904 := by rw [← hIL]; exact hok.1.2.2.2.2.1
  rw [hN, hIL] at HX HSHA
  rw [hIL] at HRS
  rw [hN, hIL] at hW ⊢
  obtain ⟨R, hR⟩ : ∃ R, fitsP t = R := ⟨_, rfl⟩
  have HRR : Hid (fitsP t = R) := hR
  rw [hR]
  clear hS hSW hx hb0 hrn hri hok hN hIL hR
  go_enter Try.func65, Try.ntmps65
  go_wp2
  go_loopw [3] (fun iv wr => Below W.heap.size W wr ∧ ∃ j : Nat, j ≤ N ∧ iv = .int .i64 j ∧ Hid (notFin (t.nums.take j) = false)) (fun iv _ => N - (intOf iv).toNat)
  case atStart => exact ⟨bel0 W, 0, Nat.zero_le _, rfl, (by show _ = _; simp [notFin])⟩
  case round =>
    obtain ⟨hbe, j, hj, rfl, HT⟩ := hrel
    obtain ⟨x0, x1, x2, x3⟩ := HX.out wr hbe
    by_cases hlt0 : j < N
    · have hll : j < t.nums.length := by rw [HN.out]; exact hlt0
      obtain ⟨b, o, rfl, c1⟩ : ∃ b o, pn = some ⟨b, o, none⟩ ∧ wr.cell? ⟨b, o + j, none⟩ = some (.int .u32 t.nums[j]) := by
        rcases HRN.out with h | ⟨b, o, e, h⟩
        · rw [h] at hll; exact absurd hll (Nat.not_lt_zero _)
        · exact ⟨b, o, e, bcell (h j hll) hbe⟩
      have hpx : Pat t.nums[j] := HPT.out _ (List.getElem_mem hll)
      have htk : notFin (t.nums.take (j + 1)) = (notFin (t.nums.take j) || !ffin t.nums[j]) := by unfold notFin; rw [List.take_succ_eq_append_getElem hll, List.any_append]; simp
      have hno : ffin t.nums[j] = false → fitsP t = false := fun h => fitsP_fin (by
        cases e : t.nums.all ffin
        · rfl
        · rw [List.all_eq_true] at e; have := e _ (List.getElem_mem hll); rw [h] at this; cases this)
      rw [HT.out, Bool.false_or] at htk
      obtain ⟨y, hy⟩ : ∃ y, t.nums[j] = y := ⟨_, rfl⟩
      rw [hy] at c1 hpx htk hno
      have ey : IntKind.i64.wrap y = y := by have := hpx.1; have := hpx.2; rw [IntKind.wrap_i64]; omega
      have i1 : (0 : Int) ≤ (j : Int) := by omega
      have i2 : (j : Int) < (N : Int) := by omega
      cases hfy : ffin y
      · have HL : Hid (false = R) := by show _ = R; rw [← HRR.out, hno hfy]
        clear htk hno hy HRN HRI HSHA HRS HRR HT
        go_wp2_with (go_at_call 23; refine (r_fin hpx _).mono ?_; rintro e wx ⟨rfl, hbx⟩; rw [hfy])
        go_ret
        exact ⟨ret_bool HL.out, bel HB0.out (bel hbe hbx)⟩
      · have HNX : Hid (notFin (t.nums.take (j + 1)) = false) := by show _ = _; rw [htk, hfy]; rfl
        clear htk hno hy HRN HRI HSHA HRS HRR HT
        go_wp2_with (go_at_call 23; refine (r_fin hpx _).mono ?_; rintro e wx ⟨rfl, hbx⟩; rw [hfy])
        go_roundw
        case rel => exact ⟨bel hbe hbx, j + 1, by omega, by go_num, HNX.out⟩
        case measure => simp [intOf]; omega
    · have hjN : j = N := by omega
      have HFIN : Hid (t.nums.all ffin = true) := by
        show _ = _
        have h1 := HT.out
        rw [hjN, ← HN.out, List.take_length, notFin_all] at h1
        simpa using h1
      have z9 : ¬ (j : Int) < (N : Int) := by omega
      clear HT hlt0 hjN
      have hop := HOP.out
      have HSH : Hid (∀ v, Below W.heap.size W v → Calls Try.prog 80 #[.agg #[.int .i64 t.op, .slice pn N cn, .slice pi IL ci, d], .int .i64 0, .int .i64 1, .int .i64 1] v fun e w' => e = .returned (.bool (shapeP t 0 1 1)) ∧ Below v.heap.size v w') := fun v hv => HSHA.out 0 1 1 v hv
      have hfe := fitsP_13 hop HFIN.out
      cases hs : shapeP t 0 1 1
      · have HL : Hid (false = R) := by show _ = R; rw [← HRR.out, hfe, hs] <;> simp
        rw [hop] at x0 HX HSH
        clear hfe HRR HFIN HSHA
        go_wp2_with (first
          | (go_at_call 80; (with_reducible refine (HSH.out _ hbe).mono ?_); rintro e wx ⟨rfl, hbx⟩; have hbe := bel hbe hbx; rw [hs]; obtain ⟨x0, x1, x2, x3⟩ := HX.out wx hbe))
        go_ret
        exact ⟨ret_bool HL.out, bel HB0.out hbe⟩
      · obtain ⟨l1, l2, l3⟩ := shapeP_len hs
        rw [HN.out] at l1
        rw [HIL.out] at l2
        obtain ⟨i0, hil⟩ := list1 (show t.ints.length = 1 by rw [HIL.out]; exact l2)
        obtain ⟨bi, oi, rfl, hic⟩ : ∃ b o, pi = some ⟨b, o, none⟩ ∧ W.cell? ⟨b, o, none⟩ = some (.int .i64 i0) := by
          rcases HRI.out with h | ⟨b, o, e, h⟩
          · rw [hil] at h; cases h
          · refine ⟨b, o, e, ?_⟩
            · have h0 := h 0 (by rw [hil]; simp)
              simp only [hil, List.getElem_cons_zero, Nat.add_zero] at h0
              exact h0
        have di0 := hic
        rw [hil] at hfe
        simp only [List.getD_cons_zero, List.getD_cons_succ, hs, Bool.true_and] at hfe
        subst l1 l2
        have HD : Hid (∀ v, Below W.heap.size W v → v.cell? ⟨bi, oi, none⟩ = some (.int .i64 i0)) := fun v hv => bcell di0 hv
        clear di0
        clear HRN HRI
        have HL : Hid ((inR i0 0 2147483647) = R) := by show _ = R; rw [← HRR.out, hfe] <;> simp
        rw [hop] at x0 HX HSH
        clear hfe HRR HFIN HSHA
        go_wp2_with (first
          | (go_at_call 80; (with_reducible refine (HSH.out _ hbe).mono ?_); rintro e wx ⟨rfl, hbx⟩; have hbe := bel hbe hbx; rw [hs]; obtain ⟨x0, x1, x2, x3⟩ := HX.out wx hbe; have di0 := HD.out wx hbe)
          | (go_at_call 30; (with_reducible refine (in_any _ _ _ _).mono ?_); rintro e wx ⟨rfl, hbx⟩; have hbe := bel hbe hbx; obtain ⟨x0, x1, x2, x3⟩ := HX.out wx hbe; have di0 := HD.out wx hbe))
        go_ret
        exact ⟨ret_bool HL.out, bel HB0.out hbe⟩

set_option maxRecDepth 100000 in
set_option maxHeartbeats 4000000 in
theorem rrow_no (t : Sc) (hno : t.op < 1 ∨ 13 < t.op) (a c d : Value) (hok : sok t) (w : World) (hS : SV w t a c d) :
    Calls Try.prog 65 #[.agg #[.int .i64 t.op, a, c, d]] w fun e w' => e = .returned (.bool (fitsP t)) ∧ Below w.heap.size w w' := by
  have HNO : Hid (t.op < 1 ∨ 13 < t.op) := hno
  clear hno
  have hx := box_heap w (.cells #[.int .i64 t.op, a, c, d] 26)
  have hb0 := bel_alloc w (.cells #[.int .i64 t.op, a, c, d] 26)
  obtain ⟨W, hW⟩ : ∃ W, w.alloc (.cells #[.int .i64 t.op, a, c, d] 26) = W := ⟨_, rfl⟩
  rw [hW] at hx hb0
  have hSW := hS.below hb0
  have HB0 : Hid (Below w.heap.size w W) := hb0
  have HX : Hid (∀ v, Below W.heap.size W v → v.cell? ⟨w.heap.size, 0, none⟩ = some (.int .i64 t.op) ∧ v.cell? ⟨w.heap.size, 1, none⟩ = some a ∧ v.cell? ⟨w.heap.size, 2, none⟩ = some c ∧ v.cell? ⟨w.heap.size, 3, none⟩ = some d) := fun v hv =>
    ⟨bcell (cell_heap hx 0) hv, bcell (cell_heap hx 1) hv, bcell (cell_heap hx 2) hv, bcell (cell_heap hx 3) hv⟩
  have HSHA : Hid (∀ (x y z : Nat) v, Below W.heap.size W v → Calls Try.prog 80 #[.agg #[.int .i64 t.op, a, c, d], .int .i64 (x : Int), .int .i64 (y : Int), .int .i64 (z : Int)] v fun e w' => e = .returned (.bool (shapeP t x y z)) ∧ Below v.heap.size v w') := fun x y z v hv => shape_any t a c d x y z v (hSW.below hv)
  have HRS : Hid (∀ v, Below W.heap.size W v → Calls Try.prog 81 #[c] v fun e w' => e = .returned (.bool (bnds t.ints)) ∧ Below v.heap.size v w') := fun v hv => rising_any t.ints c hok.1.2.2.2.2.1 v (hSW.ints.below hv)
  obtain ⟨pn, cn, rfl, hrn⟩ := hSW.nums
  obtain ⟨pi, ci, rfl, hri⟩ := hSW.ints
  have HRN : Hid (t.nums = [] ∨ ∃ b o, pn = some ⟨b, o, none⟩ ∧ ∀ i (h : i < t.nums.length), W.cell? ⟨b, o + i, none⟩ = some (.int .u32 t.nums[i])) := hrn
  have HRI : Hid (t.ints = [] ∨ ∃ b o, pi = some ⟨b, o, none⟩ ∧ ∀ i (h : i < t.ints.length), W.cell? ⟨b, o + i, none⟩ = some (.int .i64 t.ints[i])) := hri
  have HPT : Hid (∀ x ∈ t.nums, Pat x) := fun x hx => hok.1.2.1 x hx
  obtain ⟨N, hN⟩ : ∃ N, t.nums.length = N := ⟨_, rfl⟩
  have HN : Hid (t.nums.length = N) := hN
  have hNl : N ≤ 35184372087808 := by rw [← hN]; exact hok.1.2.2.2.1
  obtain ⟨IL, hIL⟩ : ∃ N, t.ints.length = N := ⟨_, rfl⟩
  have HIL : Hid (t.ints.length = IL) := hIL
  have hILl : IL ≤ 17592186043904 := by rw [← hIL]; exact hok.1.2.2.2.2.1
  rw [hN, hIL] at HX HSHA
  rw [hIL] at HRS
  rw [hN, hIL] at hW ⊢
  obtain ⟨R, hR⟩ : ∃ R, fitsP t = R := ⟨_, rfl⟩
  have HRR : Hid (fitsP t = R) := hR
  rw [hR]
  clear hS hSW hx hb0 hrn hri hok hN hIL hR
  go_enter Try.func65, Try.ntmps65
  go_wp2
  go_loopw [3] (fun iv wr => Below W.heap.size W wr ∧ ∃ j : Nat, j ≤ N ∧ iv = .int .i64 j ∧ Hid (notFin (t.nums.take j) = false)) (fun iv _ => N - (intOf iv).toNat)
  case atStart => exact ⟨bel0 W, 0, Nat.zero_le _, rfl, (by show _ = _; simp [notFin])⟩
  case round =>
    obtain ⟨hbe, j, hj, rfl, HT⟩ := hrel
    obtain ⟨x0, x1, x2, x3⟩ := HX.out wr hbe
    by_cases hlt0 : j < N
    · have hll : j < t.nums.length := by rw [HN.out]; exact hlt0
      obtain ⟨b, o, rfl, c1⟩ : ∃ b o, pn = some ⟨b, o, none⟩ ∧ wr.cell? ⟨b, o + j, none⟩ = some (.int .u32 t.nums[j]) := by
        rcases HRN.out with h | ⟨b, o, e, h⟩
        · rw [h] at hll; exact absurd hll (Nat.not_lt_zero _)
        · exact ⟨b, o, e, bcell (h j hll) hbe⟩
      have hpx : Pat t.nums[j] := HPT.out _ (List.getElem_mem hll)
      have htk : notFin (t.nums.take (j + 1)) = (notFin (t.nums.take j) || !ffin t.nums[j]) := by unfold notFin; rw [List.take_succ_eq_append_getElem hll, List.any_append]; simp
      have hno : ffin t.nums[j] = false → fitsP t = false := fun h => fitsP_fin (by
        cases e : t.nums.all ffin
        · rfl
        · rw [List.all_eq_true] at e; have := e _ (List.getElem_mem hll); rw [h] at this; cases this)
      rw [HT.out, Bool.false_or] at htk
      obtain ⟨y, hy⟩ : ∃ y, t.nums[j] = y := ⟨_, rfl⟩
      rw [hy] at c1 hpx htk hno
      have ey : IntKind.i64.wrap y = y := by have := hpx.1; have := hpx.2; rw [IntKind.wrap_i64]; omega
      have i1 : (0 : Int) ≤ (j : Int) := by omega
      have i2 : (j : Int) < (N : Int) := by omega
      cases hfy : ffin y
      · have HL : Hid (false = R) := by show _ = R; rw [← HRR.out, hno hfy]
        clear htk hno hy HRN HRI HSHA HRS HRR HT
        go_wp2_with (go_at_call 23; refine (r_fin hpx _).mono ?_; rintro e wx ⟨rfl, hbx⟩; rw [hfy])
        go_ret
        exact ⟨ret_bool HL.out, bel HB0.out (bel hbe hbx)⟩
      · have HNX : Hid (notFin (t.nums.take (j + 1)) = false) := by show _ = _; rw [htk, hfy]; rfl
        clear htk hno hy HRN HRI HSHA HRS HRR HT
        go_wp2_with (go_at_call 23; refine (r_fin hpx _).mono ?_; rintro e wx ⟨rfl, hbx⟩; rw [hfy])
        go_roundw
        case rel => exact ⟨bel hbe hbx, j + 1, by omega, by go_num, HNX.out⟩
        case measure => simp [intOf]; omega
    · have hjN : j = N := by omega
      have HFIN : Hid (t.nums.all ffin = true) := by
        show _ = _
        have h1 := HT.out
        rw [hjN, ← HN.out, List.take_length, notFin_all] at h1
        simpa using h1
      have z9 : ¬ (j : Int) < (N : Int) := by omega
      clear HT hlt0 hjN
      have HL : Hid (false = R) := by show _ = R; rw [← HRR.out, fitsP_no HNO.out]
      have z1 : (t.op == 1) = false := by have := HNO.out; simp; omega
      have z2 : (t.op == 2) = false := by have := HNO.out; simp; omega
      have z3 : (t.op == 3) = false := by have := HNO.out; simp; omega
      have z4 : (t.op == 4) = false := by have := HNO.out; simp; omega
      have z5 : (t.op == 5) = false := by have := HNO.out; simp; omega
      have z6 : (t.op == 6) = false := by have := HNO.out; simp; omega
      have z7 : (t.op == 7) = false := by have := HNO.out; simp; omega
      have z8 : (t.op == 8) = false := by have := HNO.out; simp; omega
      have z9 : (t.op == 9) = false := by have := HNO.out; simp; omega
      have z10 : (t.op == 10) = false := by have := HNO.out; simp; omega
      have z11 : (t.op == 11) = false := by have := HNO.out; simp; omega
      have z12 : (t.op == 12) = false := by have := HNO.out; simp; omega
      have z13 : (t.op == 13) = false := by have := HNO.out; simp; omega
      clear HRR HFIN HSHA
      go_wp2
      go_ret
      exact ⟨ret_bool HL.out, bel HB0.out hbe⟩

end Go.Proofs.Ytnogokikiekcbaa
/- The reference's row. -/
namespace Go.Proofs.Ytnogokikiekcbaa
open Go.RowKit
set_option linter.unusedVariables false

theorem rrow_any (t : Sc) (a c d : Value) (hok : sok t) (w : World) (hS : SV w t a c d) :
    Calls Try.prog 65 #[.agg #[.int .i64 t.op, a, c, d]] w fun e w' => e = .returned (.bool (fitsP t)) ∧ Below w.heap.size w w' := by
  have hc : t.op = 1 ∨ t.op = 2 ∨ t.op = 3 ∨ t.op = 4 ∨ t.op = 5 ∨ t.op = 6 ∨ t.op = 7 ∨ t.op = 8 ∨ t.op = 9 ∨ t.op = 10 ∨ t.op = 11 ∨ t.op = 12 ∨ t.op = 13 ∨ (t.op < 1 ∨ 13 < t.op) := by omega
  rcases hc with h | h | h | h | h | h | h | h | h | h | h | h | h | h
  · exact rrow_1 t h a c d hok w hS
  · exact rrow_2 t h a c d hok w hS
  · exact rrow_3 t h a c d hok w hS
  · exact rrow_4 t h a c d hok w hS
  · exact rrow_5 t h a c d hok w hS
  · exact rrow_6 t h a c d hok w hS
  · exact rrow_7 t h a c d hok w hS
  · exact rrow_8 t h a c d hok w hS
  · exact rrow_9 t h a c d hok w hS
  · exact rrow_10 t h a c d hok w hS
  · exact rrow_11 t h a c d hok w hS
  · exact rrow_12 t h a c d hok w hS
  · exact rrow_13 t h a c d hok w hS
  · exact rrow_no t h a c d hok w hS

end Go.Proofs.Ytnogokikiekcbaa
