import Derived.Test.YtnogokikiekcbaaPart7
/- The reference's Wave. -/
namespace Go.Proofs.Ytnogokikiekcbaa
open Go.RowKit
set_option linter.unusedVariables false
set_option linter.unusedSimpArgs false

theorem fmin_nan {a b : Int} (ha : Pat a) (hb : Pat b) (h : nan (fmin a b) = true) : fmin a b = 2143289344 := by
  have ho := ord_eq a b ha.1 hb.1
  unfold fmin at h ⊢
  by_cases hn : nan a = true ∨ nan b = true
  · rw [if_pos hn] at ho
    rw [ho]
  · rw [if_neg hn] at ho
    have h1 : nan a = false := by
      cases e : nan a
      · rfl
      · exact absurd (Or.inl e) hn
    have h2 : nan b = false := by
      cases e : nan b
      · rfl
      · exact absurd (Or.inr e) hn
    exfalso
    obtain ⟨c, hc⟩ : ∃ c, ord a b = some c := ⟨_, ho⟩
    rw [hc] at h
    cases c
    · have h : nan a = true := h
      rw [h1] at h; cases h
    · have h : nan (if 2147483648 ≤ a then a else b) = true := h
      split at h
      · rw [h1] at h; cases h
      · rw [h2] at h; cases h
    · have h : nan b = true := h
      rw [h2] at h; cases h
theorem canon_nan_iff {a : Int} (h : canon a = 2143289344) : nan a = true := by
  unfold canon at h
  split at h
  · assumption
  · rw [h]; decide
theorem canon_same {a : Int} (h : canon a ≠ 2143289344) : canon a = a := by
  unfold canon at h ⊢
  split
  · rename_i hn; rw [if_pos hn] at h; exact absurd rfl h
  · rfl
theorem wave_of_nan {x : Int} (hx : Pat x) (h : canon (clmp x) = 2143289344) : clmp x = 2143289344 ∧ wave x = 2143289344 := by
  have h1 : clmp x = 2143289344 := fmin_nan (pat_max hx pat_0) pat_1 (canon_nan_iff h)
  refine ⟨h1, ?_⟩
  unfold wave
  rw [h1]
  decide +kernel

set_option maxRecDepth 100000 in
set_option maxHeartbeats 2000000 in
theorem rwave_any (x : Int) (hx : Pat x) (w : World) : Calls Try.prog 18 #[.int .i64 x] w fun e w' => e = .returned (.int .i64 (wave x)) ∧ Below w.heap.size w w' := by
  have HB : Below w.heap.size w w := bel0 w
  have hm := pat_max hx pat_0
  have hc := pat_clmp hx
  have HNN := @wave_of_nan x hx
  have HE : Hid (wave x = if clmp x = 1056964608 then 0 else if fless 1056964608 (clmp x) = true then fneg (qrt (fsub 1065353216 (clmp x))) else qrt (clmp x)) := rfl
  have hcd : fmin (fmax x 0) 1065353216 = clmp x := rfl
  obtain ⟨y, hy⟩ : ∃ y, clmp x = y := ⟨_, rfl⟩
  obtain ⟨q, hq⟩ : ∃ q, wave x = q := ⟨_, rfl⟩
  rw [hy] at hc hcd HNN
  rw [hq] at HNN ⊢
  have HE2 : Hid (q = if y = 1056964608 then 0 else if fless 1056964608 y = true then fneg (qrt (fsub 1065353216 y)) else qrt y) := by
    show q = _
    rw [← hq, ← hy]; exact HE.out
  clear HE hq hy
  by_cases h0 : canon y = 2143289344
  · obtain ⟨rfl, HQ⟩ := HNN h0
    have HR : Hid (2143289344 = q) := HQ.symm
    have hcn : canon 2143289344 = 2143289344 := by decide
    clear HE2 HNN HQ h0
    go_enter Try.func18, Try.ntmps18
    go_wp2_with (first
    | (go_at_call 41; refine (r_max (by with_reducible first | assumption | exact pat_add _ _ | exact pat_sub _ _ | exact pat_mul _ _ | exact pat_div _ _ | exact pat_sqrt _ | exact pat_from _ | exact pat_rat _ _ | exact pat_qrt _ | exact pat_qrN _ _ | exact pat_0 | exact pat_1 | exact pat_h) (by with_reducible first | assumption | exact pat_add _ _ | exact pat_sub _ _ | exact pat_mul _ _ | exact pat_div _ _ | exact pat_sqrt _ | exact pat_from _ | exact pat_rat _ _ | exact pat_qrt _ | exact pat_qrN _ _ | exact pat_0 | exact pat_1 | exact pat_h) _).mono ?_; rintro e wx ⟨rfl, hbx⟩; have HB : Below w.heap.size w wx := (by first | exact bel HB hbx | exact bel (by go_grown) hbx))
    | (go_at_call 40; refine (r_min (by with_reducible first | assumption | exact pat_add _ _ | exact pat_sub _ _ | exact pat_mul _ _ | exact pat_div _ _ | exact pat_sqrt _ | exact pat_from _ | exact pat_rat _ _ | exact pat_qrt _ | exact pat_qrN _ _ | exact pat_0 | exact pat_1 | exact pat_h) (by with_reducible first | assumption | exact pat_add _ _ | exact pat_sub _ _ | exact pat_mul _ _ | exact pat_div _ _ | exact pat_sqrt _ | exact pat_from _ | exact pat_rat _ _ | exact pat_qrt _ | exact pat_qrN _ _ | exact pat_0 | exact pat_1 | exact pat_h) _).mono ?_; rintro e wx ⟨rfl, hbx⟩; have HB : Below w.heap.size w wx := (by first | exact bel HB hbx | exact bel (by go_grown) hbx); rw [hcd])
    | (go_at_call 42; refine (r_canon (by with_reducible first | assumption | exact pat_add _ _ | exact pat_sub _ _ | exact pat_mul _ _ | exact pat_div _ _ | exact pat_sqrt _ | exact pat_from _ | exact pat_rat _ _ | exact pat_qrt _ | exact pat_qrN _ _ | exact pat_0 | exact pat_1 | exact pat_h) _).mono ?_; rintro e wx ⟨rfl, hbx⟩; have HB : Below w.heap.size w wx := (by first | exact bel HB hbx | exact bel (by go_grown) hbx); rw [hcn])
    | (go_at_call 19; refine (r_less (by with_reducible first | assumption | exact pat_add _ _ | exact pat_sub _ _ | exact pat_mul _ _ | exact pat_div _ _ | exact pat_sqrt _ | exact pat_from _ | exact pat_rat _ _ | exact pat_qrt _ | exact pat_qrN _ _ | exact pat_0 | exact pat_1 | exact pat_h) (by with_reducible first | assumption | exact pat_add _ _ | exact pat_sub _ _ | exact pat_mul _ _ | exact pat_div _ _ | exact pat_sqrt _ | exact pat_from _ | exact pat_rat _ _ | exact pat_qrt _ | exact pat_qrN _ _ | exact pat_0 | exact pat_1 | exact pat_h) _).mono ?_; rintro e wx ⟨rfl, hbx⟩; have HB : Below w.heap.size w wx := (by first | exact bel HB hbx | exact bel (by go_grown) hbx))
    | (go_at_call 21; refine (r_sub (by with_reducible first | assumption | exact pat_add _ _ | exact pat_sub _ _ | exact pat_mul _ _ | exact pat_div _ _ | exact pat_sqrt _ | exact pat_from _ | exact pat_rat _ _ | exact pat_qrt _ | exact pat_qrN _ _ | exact pat_0 | exact pat_1 | exact pat_h) (by with_reducible first | assumption | exact pat_add _ _ | exact pat_sub _ _ | exact pat_mul _ _ | exact pat_div _ _ | exact pat_sqrt _ | exact pat_from _ | exact pat_rat _ _ | exact pat_qrt _ | exact pat_qrN _ _ | exact pat_0 | exact pat_1 | exact pat_h) _).mono ?_; rintro e wx ⟨rfl, hbx⟩; have HB : Below w.heap.size w wx := (by first | exact bel HB hbx | exact bel (by go_grown) hbx))
    | (go_at_call 26; refine (r_mul (by with_reducible first | assumption | exact pat_add _ _ | exact pat_sub _ _ | exact pat_mul _ _ | exact pat_div _ _ | exact pat_sqrt _ | exact pat_from _ | exact pat_rat _ _ | exact pat_qrt _ | exact pat_qrN _ _ | exact pat_0 | exact pat_1 | exact pat_h) (by with_reducible first | assumption | exact pat_add _ _ | exact pat_sub _ _ | exact pat_mul _ _ | exact pat_div _ _ | exact pat_sqrt _ | exact pat_from _ | exact pat_rat _ _ | exact pat_qrt _ | exact pat_qrN _ _ | exact pat_0 | exact pat_1 | exact pat_h) _).mono ?_; rintro e wx ⟨rfl, hbx⟩; have HB : Below w.heap.size w wx := (by first | exact bel HB hbx | exact bel (by go_grown) hbx)))
    go_ret
    exact ⟨ret_int HR.out, HB⟩
  have hcn : canon y = y := canon_same h0
  have z0 : (y == 2143289344) = false := by rw [hcn] at h0; simpa using h0
  clear HNN h0
  by_cases h1 : y = 1056964608
  · have HR : Hid (0 = q) := by show 0 = q; rw [HE2.out, if_pos h1]
    clear HE2
    subst h1
    go_enter Try.func18, Try.ntmps18
    go_wp2_with (first
    | (go_at_call 41; refine (r_max (by with_reducible first | assumption | exact pat_add _ _ | exact pat_sub _ _ | exact pat_mul _ _ | exact pat_div _ _ | exact pat_sqrt _ | exact pat_from _ | exact pat_rat _ _ | exact pat_qrt _ | exact pat_qrN _ _ | exact pat_0 | exact pat_1 | exact pat_h) (by with_reducible first | assumption | exact pat_add _ _ | exact pat_sub _ _ | exact pat_mul _ _ | exact pat_div _ _ | exact pat_sqrt _ | exact pat_from _ | exact pat_rat _ _ | exact pat_qrt _ | exact pat_qrN _ _ | exact pat_0 | exact pat_1 | exact pat_h) _).mono ?_; rintro e wx ⟨rfl, hbx⟩; have HB : Below w.heap.size w wx := (by first | exact bel HB hbx | exact bel (by go_grown) hbx))
    | (go_at_call 40; refine (r_min (by with_reducible first | assumption | exact pat_add _ _ | exact pat_sub _ _ | exact pat_mul _ _ | exact pat_div _ _ | exact pat_sqrt _ | exact pat_from _ | exact pat_rat _ _ | exact pat_qrt _ | exact pat_qrN _ _ | exact pat_0 | exact pat_1 | exact pat_h) (by with_reducible first | assumption | exact pat_add _ _ | exact pat_sub _ _ | exact pat_mul _ _ | exact pat_div _ _ | exact pat_sqrt _ | exact pat_from _ | exact pat_rat _ _ | exact pat_qrt _ | exact pat_qrN _ _ | exact pat_0 | exact pat_1 | exact pat_h) _).mono ?_; rintro e wx ⟨rfl, hbx⟩; have HB : Below w.heap.size w wx := (by first | exact bel HB hbx | exact bel (by go_grown) hbx); rw [hcd])
    | (go_at_call 42; refine (r_canon (by with_reducible first | assumption | exact pat_add _ _ | exact pat_sub _ _ | exact pat_mul _ _ | exact pat_div _ _ | exact pat_sqrt _ | exact pat_from _ | exact pat_rat _ _ | exact pat_qrt _ | exact pat_qrN _ _ | exact pat_0 | exact pat_1 | exact pat_h) _).mono ?_; rintro e wx ⟨rfl, hbx⟩; have HB : Below w.heap.size w wx := (by first | exact bel HB hbx | exact bel (by go_grown) hbx); rw [hcn])
    | (go_at_call 19; refine (r_less (by with_reducible first | assumption | exact pat_add _ _ | exact pat_sub _ _ | exact pat_mul _ _ | exact pat_div _ _ | exact pat_sqrt _ | exact pat_from _ | exact pat_rat _ _ | exact pat_qrt _ | exact pat_qrN _ _ | exact pat_0 | exact pat_1 | exact pat_h) (by with_reducible first | assumption | exact pat_add _ _ | exact pat_sub _ _ | exact pat_mul _ _ | exact pat_div _ _ | exact pat_sqrt _ | exact pat_from _ | exact pat_rat _ _ | exact pat_qrt _ | exact pat_qrN _ _ | exact pat_0 | exact pat_1 | exact pat_h) _).mono ?_; rintro e wx ⟨rfl, hbx⟩; have HB : Below w.heap.size w wx := (by first | exact bel HB hbx | exact bel (by go_grown) hbx))
    | (go_at_call 21; refine (r_sub (by with_reducible first | assumption | exact pat_add _ _ | exact pat_sub _ _ | exact pat_mul _ _ | exact pat_div _ _ | exact pat_sqrt _ | exact pat_from _ | exact pat_rat _ _ | exact pat_qrt _ | exact pat_qrN _ _ | exact pat_0 | exact pat_1 | exact pat_h) (by with_reducible first | assumption | exact pat_add _ _ | exact pat_sub _ _ | exact pat_mul _ _ | exact pat_div _ _ | exact pat_sqrt _ | exact pat_from _ | exact pat_rat _ _ | exact pat_qrt _ | exact pat_qrN _ _ | exact pat_0 | exact pat_1 | exact pat_h) _).mono ?_; rintro e wx ⟨rfl, hbx⟩; have HB : Below w.heap.size w wx := (by first | exact bel HB hbx | exact bel (by go_grown) hbx))
    | (go_at_call 26; refine (r_mul (by with_reducible first | assumption | exact pat_add _ _ | exact pat_sub _ _ | exact pat_mul _ _ | exact pat_div _ _ | exact pat_sqrt _ | exact pat_from _ | exact pat_rat _ _ | exact pat_qrt _ | exact pat_qrN _ _ | exact pat_0 | exact pat_1 | exact pat_h) (by with_reducible first | assumption | exact pat_add _ _ | exact pat_sub _ _ | exact pat_mul _ _ | exact pat_div _ _ | exact pat_sqrt _ | exact pat_from _ | exact pat_rat _ _ | exact pat_qrt _ | exact pat_qrN _ _ | exact pat_0 | exact pat_1 | exact pat_h) _).mono ?_; rintro e wx ⟨rfl, hbx⟩; have HB : Below w.heap.size w wx := (by first | exact bel HB hbx | exact bel (by go_grown) hbx)))
    go_ret
    exact ⟨ret_int HR.out, HB⟩
  have z1 : (y == 1056964608) = false := by simpa using h1
  cases h2 : fless 1056964608 y
  · have HR : Hid (qrN (fmul y y) 6 = q) := by show qrt y = q; rw [HE2.out, if_neg h1, if_neg (by rw [h2]; exact Bool.false_ne_true)]
    clear HE2 h1
    go_enter Try.func18, Try.ntmps18
    go_wp2_with (first
    | (go_at_call 41; refine (r_max (by with_reducible first | assumption | exact pat_add _ _ | exact pat_sub _ _ | exact pat_mul _ _ | exact pat_div _ _ | exact pat_sqrt _ | exact pat_from _ | exact pat_rat _ _ | exact pat_qrt _ | exact pat_qrN _ _ | exact pat_0 | exact pat_1 | exact pat_h) (by with_reducible first | assumption | exact pat_add _ _ | exact pat_sub _ _ | exact pat_mul _ _ | exact pat_div _ _ | exact pat_sqrt _ | exact pat_from _ | exact pat_rat _ _ | exact pat_qrt _ | exact pat_qrN _ _ | exact pat_0 | exact pat_1 | exact pat_h) _).mono ?_; rintro e wx ⟨rfl, hbx⟩; have HB : Below w.heap.size w wx := (by first | exact bel HB hbx | exact bel (by go_grown) hbx))
    | (go_at_call 40; refine (r_min (by with_reducible first | assumption | exact pat_add _ _ | exact pat_sub _ _ | exact pat_mul _ _ | exact pat_div _ _ | exact pat_sqrt _ | exact pat_from _ | exact pat_rat _ _ | exact pat_qrt _ | exact pat_qrN _ _ | exact pat_0 | exact pat_1 | exact pat_h) (by with_reducible first | assumption | exact pat_add _ _ | exact pat_sub _ _ | exact pat_mul _ _ | exact pat_div _ _ | exact pat_sqrt _ | exact pat_from _ | exact pat_rat _ _ | exact pat_qrt _ | exact pat_qrN _ _ | exact pat_0 | exact pat_1 | exact pat_h) _).mono ?_; rintro e wx ⟨rfl, hbx⟩; have HB : Below w.heap.size w wx := (by first | exact bel HB hbx | exact bel (by go_grown) hbx); rw [hcd])
    | (go_at_call 42; refine (r_canon (by with_reducible first | assumption | exact pat_add _ _ | exact pat_sub _ _ | exact pat_mul _ _ | exact pat_div _ _ | exact pat_sqrt _ | exact pat_from _ | exact pat_rat _ _ | exact pat_qrt _ | exact pat_qrN _ _ | exact pat_0 | exact pat_1 | exact pat_h) _).mono ?_; rintro e wx ⟨rfl, hbx⟩; have HB : Below w.heap.size w wx := (by first | exact bel HB hbx | exact bel (by go_grown) hbx); rw [hcn])
    | (go_at_call 19; refine (r_less (by with_reducible first | assumption | exact pat_add _ _ | exact pat_sub _ _ | exact pat_mul _ _ | exact pat_div _ _ | exact pat_sqrt _ | exact pat_from _ | exact pat_rat _ _ | exact pat_qrt _ | exact pat_qrN _ _ | exact pat_0 | exact pat_1 | exact pat_h) (by with_reducible first | assumption | exact pat_add _ _ | exact pat_sub _ _ | exact pat_mul _ _ | exact pat_div _ _ | exact pat_sqrt _ | exact pat_from _ | exact pat_rat _ _ | exact pat_qrt _ | exact pat_qrN _ _ | exact pat_0 | exact pat_1 | exact pat_h) _).mono ?_; rintro e wx ⟨rfl, hbx⟩; have HB : Below w.heap.size w wx := (by first | exact bel HB hbx | exact bel (by go_grown) hbx))
    | (go_at_call 21; refine (r_sub (by with_reducible first | assumption | exact pat_add _ _ | exact pat_sub _ _ | exact pat_mul _ _ | exact pat_div _ _ | exact pat_sqrt _ | exact pat_from _ | exact pat_rat _ _ | exact pat_qrt _ | exact pat_qrN _ _ | exact pat_0 | exact pat_1 | exact pat_h) (by with_reducible first | assumption | exact pat_add _ _ | exact pat_sub _ _ | exact pat_mul _ _ | exact pat_div _ _ | exact pat_sqrt _ | exact pat_from _ | exact pat_rat _ _ | exact pat_qrt _ | exact pat_qrN _ _ | exact pat_0 | exact pat_1 | exact pat_h) _).mono ?_; rintro e wx ⟨rfl, hbx⟩; have HB : Below w.heap.size w wx := (by first | exact bel HB hbx | exact bel (by go_grown) hbx))
    | (go_at_call 26; refine (r_mul (by with_reducible first | assumption | exact pat_add _ _ | exact pat_sub _ _ | exact pat_mul _ _ | exact pat_div _ _ | exact pat_sqrt _ | exact pat_from _ | exact pat_rat _ _ | exact pat_qrt _ | exact pat_qrN _ _ | exact pat_0 | exact pat_1 | exact pat_h) (by with_reducible first | assumption | exact pat_add _ _ | exact pat_sub _ _ | exact pat_mul _ _ | exact pat_div _ _ | exact pat_sqrt _ | exact pat_from _ | exact pat_rat _ _ | exact pat_qrt _ | exact pat_qrN _ _ | exact pat_0 | exact pat_1 | exact pat_h) _).mono ?_; rintro e wx ⟨rfl, hbx⟩; have HB : Below w.heap.size w wx := (by first | exact bel HB hbx | exact bel (by go_grown) hbx)))
    have hx : wx.heap.size = wx.heap.size := rfl
    obtain ⟨G, hG⟩ : ∃ G, wx.heap.size = G := ⟨_, rfl⟩
    obtain ⟨W, hWd⟩ : ∃ W, wx.alloc (.cells #[.int .i64 3167971577, .int .i64 1047591555, .int .i64 3215649252, .int .i64 1082253560, .int .i64 3231574502, .int .i64 1065353216] 3) = W := ⟨_, rfl⟩
    have HG : Hid (W.heap[G]? = some (.cells #[.int .i64 3167971577, .int .i64 1047591555, .int .i64 3215649252, .int .i64 1082253560, .int .i64 3231574502, .int .i64 1065353216] 3)) := by show _ = _; rw [← hWd, ← hG]; exact box_heap wx _
    have HBW : Hid (Below w.heap.size w W) := by show Below _ _ _; rw [← hWd]; exact bel HB (bel_alloc _ _)
    rw [hG, hWd]
    clear hG hWd hx HB hbx
    go_loopw [6, 7] (fun sv iv wr => Below w.heap.size w wr ∧ ∃ j : Nat, j ≤ 6 ∧ iv = .int .i64 j ∧ sv = .int .i64 (qrN (fmul y y) j) ∧ Hid (wr.heap[G]? = some (.cells #[.int .i64 3167971577, .int .i64 1047591555, .int .i64 3215649252, .int .i64 1082253560, .int .i64 3231574502, .int .i64 1065353216] 3))) (fun _ iv _ => 6 - (intOf iv).toNat)
    case atStart => exact ⟨HBW.out, 0, Nat.zero_le _, rfl, rfl, HG⟩
    case round =>
      obtain ⟨hb, j, hj, rfl, rfl, HY⟩ := hrel
      by_cases hlt0 : j < 6
      · have c1 : wr.cell? ⟨G, j, none⟩ = some (.int .i64 (fac j)) := (cell_heap HY.out j).trans (facs_at' j hlt0 (.int .i64))
        have i1 : (0 : Int) ≤ (j : Int) := by omega
        have i2 : (j : Int) < 6 := by omega
        have hpf := pat_facs j
        have hpq := pat_qrN (fmul y y) j
        go_wp2
        go_region_held3 (fun w' => w'.cell? ⟨G, j, none⟩ = some (.int .i64 (fac j))) (go_keep) (first
    | (go_at_call 26; refine (r_mul (by with_reducible first | assumption | exact pat_add _ _ | exact pat_sub _ _ | exact pat_mul _ _ | exact pat_div _ _ | exact pat_sqrt _ | exact pat_from _ | exact pat_rat _ _ | exact pat_qrt _ | exact pat_qrN _ _ | exact pat_0 | exact pat_1 | exact pat_h) (by with_reducible first | assumption | exact pat_add _ _ | exact pat_sub _ _ | exact pat_mul _ _ | exact pat_div _ _ | exact pat_sqrt _ | exact pat_from _ | exact pat_rat _ _ | exact pat_qrt _ | exact pat_qrN _ _ | exact pat_0 | exact pat_1 | exact pat_h) _).mono ?_; rintro e wx ⟨rfl, hbx⟩; have HB : Below wr.heap.size wr wx := bel (bel_d _) hbx; have c1 := bcell c1 HB)
    | (go_at_call 25; refine (r_add (by with_reducible first | assumption | exact pat_add _ _ | exact pat_sub _ _ | exact pat_mul _ _ | exact pat_div _ _ | exact pat_sqrt _ | exact pat_from _ | exact pat_rat _ _ | exact pat_qrt _ | exact pat_qrN _ _ | exact pat_0 | exact pat_1 | exact pat_h) (by with_reducible first | assumption | exact pat_add _ _ | exact pat_sub _ _ | exact pat_mul _ _ | exact pat_div _ _ | exact pat_sqrt _ | exact pat_from _ | exact pat_rat _ _ | exact pat_qrt _ | exact pat_qrN _ _ | exact pat_0 | exact pat_1 | exact pat_h) _).mono ?_; rintro e wx ⟨rfl, hbx⟩; have HB : Below wr.heap.size wr wx := (by first | exact bel HB hbx | exact bel (by go_grown) hbx); have c1 := bcell c1 hbx))
        all_goals go_wp2
        all_goals go_roundw
        case rel => exact ⟨bel hb HB, j + 1, by omega, by go_num, rfl, (HB.block _ (hlt HY.out)).trans HY.out⟩
        case measure => simp [intOf]; omega
      · have : j = 6 := by omega
        subst this
        have HB : Below wr.heap.size wr wr := bel0 wr
        have hq := pat_qrN (fmul y y) 6
        go_wp2_with (first
    | (go_at_call 19; refine (r_less (by with_reducible first | assumption | exact pat_add _ _ | exact pat_sub _ _ | exact pat_mul _ _ | exact pat_div _ _ | exact pat_sqrt _ | exact pat_from _ | exact pat_rat _ _ | exact pat_qrt _ | exact pat_qrN _ _ | exact pat_0 | exact pat_1 | exact pat_h) (by with_reducible first | assumption | exact pat_add _ _ | exact pat_sub _ _ | exact pat_mul _ _ | exact pat_div _ _ | exact pat_sqrt _ | exact pat_from _ | exact pat_rat _ _ | exact pat_qrt _ | exact pat_qrN _ _ | exact pat_0 | exact pat_1 | exact pat_h) _).mono ?_; rintro e wx ⟨rfl, hbx⟩; have HB : Below wr.heap.size wr wx := (by first | exact bel HB hbx | exact bel (by go_grown) hbx))
    | (go_at_call 22; refine (r_neg (by with_reducible first | assumption | exact pat_add _ _ | exact pat_sub _ _ | exact pat_mul _ _ | exact pat_div _ _ | exact pat_sqrt _ | exact pat_from _ | exact pat_rat _ _ | exact pat_qrt _ | exact pat_qrN _ _ | exact pat_0 | exact pat_1 | exact pat_h) _).mono ?_; rintro e wx ⟨rfl, hbx⟩; have HB : Below wr.heap.size wr wx := (by first | exact bel HB hbx | exact bel (by go_grown) hbx)))
        go_ret
        exact ⟨ret_int HR.out, bel hb HB⟩
  · have HR : Hid (fneg (qrN (fmul (fsub 1065353216 y) (fsub 1065353216 y)) 6) = q) := by show fneg (qrt (fsub 1065353216 y)) = q; rw [HE2.out, if_neg h1, if_pos h2]
    clear HE2 h1
    go_enter Try.func18, Try.ntmps18
    go_wp2_with (first
    | (go_at_call 41; refine (r_max (by with_reducible first | assumption | exact pat_add _ _ | exact pat_sub _ _ | exact pat_mul _ _ | exact pat_div _ _ | exact pat_sqrt _ | exact pat_from _ | exact pat_rat _ _ | exact pat_qrt _ | exact pat_qrN _ _ | exact pat_0 | exact pat_1 | exact pat_h) (by with_reducible first | assumption | exact pat_add _ _ | exact pat_sub _ _ | exact pat_mul _ _ | exact pat_div _ _ | exact pat_sqrt _ | exact pat_from _ | exact pat_rat _ _ | exact pat_qrt _ | exact pat_qrN _ _ | exact pat_0 | exact pat_1 | exact pat_h) _).mono ?_; rintro e wx ⟨rfl, hbx⟩; have HB : Below w.heap.size w wx := (by first | exact bel HB hbx | exact bel (by go_grown) hbx))
    | (go_at_call 40; refine (r_min (by with_reducible first | assumption | exact pat_add _ _ | exact pat_sub _ _ | exact pat_mul _ _ | exact pat_div _ _ | exact pat_sqrt _ | exact pat_from _ | exact pat_rat _ _ | exact pat_qrt _ | exact pat_qrN _ _ | exact pat_0 | exact pat_1 | exact pat_h) (by with_reducible first | assumption | exact pat_add _ _ | exact pat_sub _ _ | exact pat_mul _ _ | exact pat_div _ _ | exact pat_sqrt _ | exact pat_from _ | exact pat_rat _ _ | exact pat_qrt _ | exact pat_qrN _ _ | exact pat_0 | exact pat_1 | exact pat_h) _).mono ?_; rintro e wx ⟨rfl, hbx⟩; have HB : Below w.heap.size w wx := (by first | exact bel HB hbx | exact bel (by go_grown) hbx); rw [hcd])
    | (go_at_call 42; refine (r_canon (by with_reducible first | assumption | exact pat_add _ _ | exact pat_sub _ _ | exact pat_mul _ _ | exact pat_div _ _ | exact pat_sqrt _ | exact pat_from _ | exact pat_rat _ _ | exact pat_qrt _ | exact pat_qrN _ _ | exact pat_0 | exact pat_1 | exact pat_h) _).mono ?_; rintro e wx ⟨rfl, hbx⟩; have HB : Below w.heap.size w wx := (by first | exact bel HB hbx | exact bel (by go_grown) hbx); rw [hcn])
    | (go_at_call 19; refine (r_less (by with_reducible first | assumption | exact pat_add _ _ | exact pat_sub _ _ | exact pat_mul _ _ | exact pat_div _ _ | exact pat_sqrt _ | exact pat_from _ | exact pat_rat _ _ | exact pat_qrt _ | exact pat_qrN _ _ | exact pat_0 | exact pat_1 | exact pat_h) (by with_reducible first | assumption | exact pat_add _ _ | exact pat_sub _ _ | exact pat_mul _ _ | exact pat_div _ _ | exact pat_sqrt _ | exact pat_from _ | exact pat_rat _ _ | exact pat_qrt _ | exact pat_qrN _ _ | exact pat_0 | exact pat_1 | exact pat_h) _).mono ?_; rintro e wx ⟨rfl, hbx⟩; have HB : Below w.heap.size w wx := (by first | exact bel HB hbx | exact bel (by go_grown) hbx))
    | (go_at_call 21; refine (r_sub (by with_reducible first | assumption | exact pat_add _ _ | exact pat_sub _ _ | exact pat_mul _ _ | exact pat_div _ _ | exact pat_sqrt _ | exact pat_from _ | exact pat_rat _ _ | exact pat_qrt _ | exact pat_qrN _ _ | exact pat_0 | exact pat_1 | exact pat_h) (by with_reducible first | assumption | exact pat_add _ _ | exact pat_sub _ _ | exact pat_mul _ _ | exact pat_div _ _ | exact pat_sqrt _ | exact pat_from _ | exact pat_rat _ _ | exact pat_qrt _ | exact pat_qrN _ _ | exact pat_0 | exact pat_1 | exact pat_h) _).mono ?_; rintro e wx ⟨rfl, hbx⟩; have HB : Below w.heap.size w wx := (by first | exact bel HB hbx | exact bel (by go_grown) hbx))
    | (go_at_call 26; refine (r_mul (by with_reducible first | assumption | exact pat_add _ _ | exact pat_sub _ _ | exact pat_mul _ _ | exact pat_div _ _ | exact pat_sqrt _ | exact pat_from _ | exact pat_rat _ _ | exact pat_qrt _ | exact pat_qrN _ _ | exact pat_0 | exact pat_1 | exact pat_h) (by with_reducible first | assumption | exact pat_add _ _ | exact pat_sub _ _ | exact pat_mul _ _ | exact pat_div _ _ | exact pat_sqrt _ | exact pat_from _ | exact pat_rat _ _ | exact pat_qrt _ | exact pat_qrN _ _ | exact pat_0 | exact pat_1 | exact pat_h) _).mono ?_; rintro e wx ⟨rfl, hbx⟩; have HB : Below w.heap.size w wx := (by first | exact bel HB hbx | exact bel (by go_grown) hbx)))
    have hx : wx.heap.size = wx.heap.size := rfl
    obtain ⟨G, hG⟩ : ∃ G, wx.heap.size = G := ⟨_, rfl⟩
    obtain ⟨W, hWd⟩ : ∃ W, wx.alloc (.cells #[.int .i64 3167971577, .int .i64 1047591555, .int .i64 3215649252, .int .i64 1082253560, .int .i64 3231574502, .int .i64 1065353216] 3) = W := ⟨_, rfl⟩
    have HG : Hid (W.heap[G]? = some (.cells #[.int .i64 3167971577, .int .i64 1047591555, .int .i64 3215649252, .int .i64 1082253560, .int .i64 3231574502, .int .i64 1065353216] 3)) := by show _ = _; rw [← hWd, ← hG]; exact box_heap wx _
    have HBW : Hid (Below w.heap.size w W) := by show Below _ _ _; rw [← hWd]; exact bel HB (bel_alloc _ _)
    rw [hG, hWd]
    clear hG hWd hx HB hbx
    go_loopw [6, 7] (fun sv iv wr => Below w.heap.size w wr ∧ ∃ j : Nat, j ≤ 6 ∧ iv = .int .i64 j ∧ sv = .int .i64 (qrN (fmul (fsub 1065353216 y) (fsub 1065353216 y)) j) ∧ Hid (wr.heap[G]? = some (.cells #[.int .i64 3167971577, .int .i64 1047591555, .int .i64 3215649252, .int .i64 1082253560, .int .i64 3231574502, .int .i64 1065353216] 3))) (fun _ iv _ => 6 - (intOf iv).toNat)
    case atStart => exact ⟨HBW.out, 0, Nat.zero_le _, rfl, rfl, HG⟩
    case round =>
      obtain ⟨hb, j, hj, rfl, rfl, HY⟩ := hrel
      by_cases hlt0 : j < 6
      · have c1 : wr.cell? ⟨G, j, none⟩ = some (.int .i64 (fac j)) := (cell_heap HY.out j).trans (facs_at' j hlt0 (.int .i64))
        have i1 : (0 : Int) ≤ (j : Int) := by omega
        have i2 : (j : Int) < 6 := by omega
        have hpf := pat_facs j
        have hpq := pat_qrN (fmul (fsub 1065353216 y) (fsub 1065353216 y)) j
        go_wp2
        go_region_held3 (fun w' => w'.cell? ⟨G, j, none⟩ = some (.int .i64 (fac j))) (go_keep) (first
    | (go_at_call 26; refine (r_mul (by with_reducible first | assumption | exact pat_add _ _ | exact pat_sub _ _ | exact pat_mul _ _ | exact pat_div _ _ | exact pat_sqrt _ | exact pat_from _ | exact pat_rat _ _ | exact pat_qrt _ | exact pat_qrN _ _ | exact pat_0 | exact pat_1 | exact pat_h) (by with_reducible first | assumption | exact pat_add _ _ | exact pat_sub _ _ | exact pat_mul _ _ | exact pat_div _ _ | exact pat_sqrt _ | exact pat_from _ | exact pat_rat _ _ | exact pat_qrt _ | exact pat_qrN _ _ | exact pat_0 | exact pat_1 | exact pat_h) _).mono ?_; rintro e wx ⟨rfl, hbx⟩; have HB : Below wr.heap.size wr wx := bel (bel_d _) hbx; have c1 := bcell c1 HB)
    | (go_at_call 25; refine (r_add (by with_reducible first | assumption | exact pat_add _ _ | exact pat_sub _ _ | exact pat_mul _ _ | exact pat_div _ _ | exact pat_sqrt _ | exact pat_from _ | exact pat_rat _ _ | exact pat_qrt _ | exact pat_qrN _ _ | exact pat_0 | exact pat_1 | exact pat_h) (by with_reducible first | assumption | exact pat_add _ _ | exact pat_sub _ _ | exact pat_mul _ _ | exact pat_div _ _ | exact pat_sqrt _ | exact pat_from _ | exact pat_rat _ _ | exact pat_qrt _ | exact pat_qrN _ _ | exact pat_0 | exact pat_1 | exact pat_h) _).mono ?_; rintro e wx ⟨rfl, hbx⟩; have HB : Below wr.heap.size wr wx := (by first | exact bel HB hbx | exact bel (by go_grown) hbx); have c1 := bcell c1 hbx))
        all_goals go_wp2
        all_goals go_roundw
        case rel => exact ⟨bel hb HB, j + 1, by omega, by go_num, rfl, (HB.block _ (hlt HY.out)).trans HY.out⟩
        case measure => simp [intOf]; omega
      · have : j = 6 := by omega
        subst this
        have HB : Below wr.heap.size wr wr := bel0 wr
        have hq := pat_qrN (fmul (fsub 1065353216 y) (fsub 1065353216 y)) 6
        go_wp2_with (first
    | (go_at_call 19; refine (r_less (by with_reducible first | assumption | exact pat_add _ _ | exact pat_sub _ _ | exact pat_mul _ _ | exact pat_div _ _ | exact pat_sqrt _ | exact pat_from _ | exact pat_rat _ _ | exact pat_qrt _ | exact pat_qrN _ _ | exact pat_0 | exact pat_1 | exact pat_h) (by with_reducible first | assumption | exact pat_add _ _ | exact pat_sub _ _ | exact pat_mul _ _ | exact pat_div _ _ | exact pat_sqrt _ | exact pat_from _ | exact pat_rat _ _ | exact pat_qrt _ | exact pat_qrN _ _ | exact pat_0 | exact pat_1 | exact pat_h) _).mono ?_; rintro e wx ⟨rfl, hbx⟩; have HB : Below wr.heap.size wr wx := (by first | exact bel HB hbx | exact bel (by go_grown) hbx))
    | (go_at_call 22; refine (r_neg (by with_reducible first | assumption | exact pat_add _ _ | exact pat_sub _ _ | exact pat_mul _ _ | exact pat_div _ _ | exact pat_sqrt _ | exact pat_from _ | exact pat_rat _ _ | exact pat_qrt _ | exact pat_qrN _ _ | exact pat_0 | exact pat_1 | exact pat_h) _).mono ?_; rintro e wx ⟨rfl, hbx⟩; have HB : Below wr.heap.size wr wx := (by first | exact bel HB hbx | exact bel (by go_grown) hbx)))
        go_ret
        exact ⟨ret_int HR.out, bel hb HB⟩

end Go.Proofs.Ytnogokikiekcbaa
