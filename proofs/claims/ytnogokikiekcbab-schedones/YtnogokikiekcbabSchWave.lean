import Derived.Test.YtnogokikiekcbabSchMem
/- Package sched: quarter, Wave. -/
namespace Go.Proofs.Ytnogokikiekcbab
open Go.RowKit
set_option linter.unusedVariables false
set_option linter.unusedSimpArgs false

theorem facs_at (k : Nat) (h : k < 6) (f : Int → Value) : #[f 989653445, f 3167971577, f 1047591555, f 3215649252, f 1082253560, f 3231574502, f 1065353216][1 + k]? = some (f (fac k)) := by
  match k, h with
  | 0, _ => rfl
  | 1, _ => rfl
  | 2, _ => rfl
  | 3, _ => rfl
  | 4, _ => rfl
  | 5, _ => rfl
theorem facs_at' (k : Nat) (h : k < 6) (f : Int → Value) : #[f 3167971577, f 1047591555, f 3215649252, f 1082253560, f 3231574502, f 1065353216][k]? = some (f (fac k)) := by
  match k, h with
  | 0, _ => rfl
  | 1, _ => rfl
  | 2, _ => rfl
  | 3, _ => rfl
  | 4, _ => rfl
  | 5, _ => rfl

set_option maxRecDepth 100000 in
set_option maxHeartbeats 1000000 in
theorem quarter_any (t : Int) (ht : Pat t) (w : World) : Calls Try.prog 17 #[.int .u32 t] w fun e w' => e = .returned (.int .u32 (qrt t)) ∧ Below w.heap.size w w' := by
  have HB : Below w.heap.size w w := bel0 w
  go_enter Try.func17, Try.ntmps17
  go_wp2_with ((go_at_call 28; refine (f_mul (by with_reducible first | assumption | exact pat_add _ _ | exact pat_sub _ _ | exact pat_mul _ _ | exact pat_div _ _ | exact pat_sqrt _ | exact pat_from _ | exact pat_rat _ _ | exact pat_qrt _ | exact pat_qrN _ _ | exact pat_0 | exact pat_1 | exact pat_h) (by with_reducible first | assumption | exact pat_add _ _ | exact pat_sub _ _ | exact pat_mul _ _ | exact pat_div _ _ | exact pat_sqrt _ | exact pat_from _ | exact pat_rat _ _ | exact pat_qrt _ | exact pat_qrN _ _ | exact pat_0 | exact pat_1 | exact pat_h) _).mono ?_; rintro e wx ⟨rfl, hbx⟩; have HB : Below w.heap.size w wx := (by first | exact bel HB hbx | exact bel (by go_grown) hbx); have hx := (hbx.block w.heap.size (by simp)).trans (box_heap w _); have c0 := cell_heap hx 0))
  clear c0
  have HX : Hid (wx.heap[w.heap.size]? = some (.cells #[.int .u32 989653445, .int .u32 3167971577, .int .u32 1047591555, .int .u32 3215649252, .int .u32 1082253560, .int .u32 3231574502, .int .u32 1065353216] 50)) := hx
  clear hx hbx
  go_loopw [5, 16] (fun sv iv wr => Below w.heap.size w wr ∧ ∃ j : Nat, j ≤ 6 ∧ iv = .int .i64 j ∧ sv = .int .u32 (qrN (fmul t t) j) ∧ Hid (wr.heap[w.heap.size]? = some (.cells #[.int .u32 989653445, .int .u32 3167971577, .int .u32 1047591555, .int .u32 3215649252, .int .u32 1082253560, .int .u32 3231574502, .int .u32 1065353216] 50))) (fun _ iv _ => 6 - (intOf iv).toNat)
  case atStart => exact ⟨HB, 0, Nat.zero_le _, rfl, rfl, HX⟩
  case round =>
    obtain ⟨hb, j, hj, rfl, rfl, HY⟩ := hrel
    by_cases hlt0 : j < 6
    · have c1 : wr.cell? ⟨w.heap.size, 1 + j, none⟩ = some (.int .u32 (fac j)) := (cell_heap HY.out (1 + j)).trans (facs_at j hlt0 (.int .u32))
      have i1 : (0 : Int) ≤ (j : Int) := by omega
      have i2 : (j : Int) < 6 := by omega
      have hpf := pat_facs j
      have hpq := pat_qrN (fmul t t) j
      clear HB
      have HB : Below wr.heap.size wr wr := bel0 wr
      go_wp2_with (first
    | (go_at_call 28; refine (f_mul (by with_reducible first | assumption | exact pat_add _ _ | exact pat_sub _ _ | exact pat_mul _ _ | exact pat_div _ _ | exact pat_sqrt _ | exact pat_from _ | exact pat_rat _ _ | exact pat_qrt _ | exact pat_qrN _ _ | exact pat_0 | exact pat_1 | exact pat_h) (by with_reducible first | assumption | exact pat_add _ _ | exact pat_sub _ _ | exact pat_mul _ _ | exact pat_div _ _ | exact pat_sqrt _ | exact pat_from _ | exact pat_rat _ _ | exact pat_qrt _ | exact pat_qrN _ _ | exact pat_0 | exact pat_1 | exact pat_h) _).mono ?_; rintro e wx ⟨rfl, hbx⟩; have HB : Below wr.heap.size wr wx := (by first | exact bel HB hbx | exact bel (by go_grown) hbx))
    | (go_at_call 27; refine (f_add (by with_reducible first | assumption | exact pat_add _ _ | exact pat_sub _ _ | exact pat_mul _ _ | exact pat_div _ _ | exact pat_sqrt _ | exact pat_from _ | exact pat_rat _ _ | exact pat_qrt _ | exact pat_qrN _ _ | exact pat_0 | exact pat_1 | exact pat_h) (by with_reducible first | assumption | exact pat_add _ _ | exact pat_sub _ _ | exact pat_mul _ _ | exact pat_div _ _ | exact pat_sqrt _ | exact pat_from _ | exact pat_rat _ _ | exact pat_qrt _ | exact pat_qrN _ _ | exact pat_0 | exact pat_1 | exact pat_h) _).mono ?_; rintro e wx ⟨rfl, hbx⟩; have HB : Below wr.heap.size wr wx := (by first | exact bel HB hbx | exact bel (by go_grown) hbx)))
      go_roundw
      case rel => exact ⟨bel hb HB, j + 1, by omega, by go_num, rfl, (HB.block _ (hlt HY.out)).trans HY.out⟩
      case measure => simp [intOf]; omega
    · have : j = 6 := by omega
      subst this
      go_wp2
      go_ret
      exact ⟨rfl, hb⟩

set_option maxHeartbeats 1000000 in
theorem wave_any (x : Int) (hx : Pat x) (w : World) : Calls Try.prog 9 #[.int .u32 x] w fun e w' => e = .returned (.int .u32 (wave x)) ∧ Below w.heap.size w w' := by
  have HB : Below w.heap.size w w := bel0 w
  have hm := pat_max hx pat_0
  have hc := pat_clmp hx
  have HE : Hid (wave x = if clmp x = 1056964608 then 0 else if fless 1056964608 (clmp x) = true then fneg (qrt (fsub 1065353216 (clmp x))) else qrt (clmp x)) := rfl
  have hcd : fmin (fmax x 0) 1065353216 = clmp x := rfl
  obtain ⟨y, hy⟩ : ∃ y, clmp x = y := ⟨_, rfl⟩
  obtain ⟨r, hr⟩ : ∃ r, wave x = r := ⟨_, rfl⟩
  rw [hy] at hc hcd
  rw [hr]
  have HE2 : Hid (r = if y = 1056964608 then 0 else if fless 1056964608 y = true then fneg (qrt (fsub 1065353216 y)) else qrt y) := by
    show r = _
    rw [← hr, ← hy]; exact HE.out
  clear HE hr hy
  by_cases h1 : y = 1056964608
  · have HR : Hid (0 = r) := by show 0 = r; rw [HE2.out, if_pos h1]
    clear HE2
    subst h1
    go_enter Try.func9, Try.ntmps9
    go_wp2_with (first
    | (go_at_call 14; refine (f_max (by with_reducible first | assumption | exact pat_add _ _ | exact pat_sub _ _ | exact pat_mul _ _ | exact pat_div _ _ | exact pat_sqrt _ | exact pat_from _ | exact pat_rat _ _ | exact pat_qrt _ | exact pat_qrN _ _ | exact pat_0 | exact pat_1 | exact pat_h) (by with_reducible first | assumption | exact pat_add _ _ | exact pat_sub _ _ | exact pat_mul _ _ | exact pat_div _ _ | exact pat_sqrt _ | exact pat_from _ | exact pat_rat _ _ | exact pat_qrt _ | exact pat_qrN _ _ | exact pat_0 | exact pat_1 | exact pat_h) _).mono ?_; rintro e wx ⟨rfl, hbx⟩; have HB : Below w.heap.size w wx := (by first | exact bel HB hbx | exact bel (by go_grown) hbx))
    | (go_at_call 13; refine (f_min (by with_reducible first | assumption | exact pat_add _ _ | exact pat_sub _ _ | exact pat_mul _ _ | exact pat_div _ _ | exact pat_sqrt _ | exact pat_from _ | exact pat_rat _ _ | exact pat_qrt _ | exact pat_qrN _ _ | exact pat_0 | exact pat_1 | exact pat_h) (by with_reducible first | assumption | exact pat_add _ _ | exact pat_sub _ _ | exact pat_mul _ _ | exact pat_div _ _ | exact pat_sqrt _ | exact pat_from _ | exact pat_rat _ _ | exact pat_qrt _ | exact pat_qrN _ _ | exact pat_0 | exact pat_1 | exact pat_h) _).mono ?_; rintro e wx ⟨rfl, hbx⟩; have HB : Below w.heap.size w wx := (by first | exact bel HB hbx | exact bel (by go_grown) hbx); rw [hcd])
    | (go_at_call 15; refine (f_less (by with_reducible first | assumption | exact pat_add _ _ | exact pat_sub _ _ | exact pat_mul _ _ | exact pat_div _ _ | exact pat_sqrt _ | exact pat_from _ | exact pat_rat _ _ | exact pat_qrt _ | exact pat_qrN _ _ | exact pat_0 | exact pat_1 | exact pat_h) (by with_reducible first | assumption | exact pat_add _ _ | exact pat_sub _ _ | exact pat_mul _ _ | exact pat_div _ _ | exact pat_sqrt _ | exact pat_from _ | exact pat_rat _ _ | exact pat_qrt _ | exact pat_qrN _ _ | exact pat_0 | exact pat_1 | exact pat_h) _).mono ?_; rintro e wx ⟨rfl, hbx⟩; have HB : Below w.heap.size w wx := (by first | exact bel HB hbx | exact bel (by go_grown) hbx))
    | (go_at_call 18; refine (f_sub (by with_reducible first | assumption | exact pat_add _ _ | exact pat_sub _ _ | exact pat_mul _ _ | exact pat_div _ _ | exact pat_sqrt _ | exact pat_from _ | exact pat_rat _ _ | exact pat_qrt _ | exact pat_qrN _ _ | exact pat_0 | exact pat_1 | exact pat_h) (by with_reducible first | assumption | exact pat_add _ _ | exact pat_sub _ _ | exact pat_mul _ _ | exact pat_div _ _ | exact pat_sqrt _ | exact pat_from _ | exact pat_rat _ _ | exact pat_qrt _ | exact pat_qrN _ _ | exact pat_0 | exact pat_1 | exact pat_h) _).mono ?_; rintro e wx ⟨rfl, hbx⟩; have HB : Below w.heap.size w wx := (by first | exact bel HB hbx | exact bel (by go_grown) hbx))
    | (go_at_call 16; refine (f_neg (by with_reducible first | assumption | exact pat_add _ _ | exact pat_sub _ _ | exact pat_mul _ _ | exact pat_div _ _ | exact pat_sqrt _ | exact pat_from _ | exact pat_rat _ _ | exact pat_qrt _ | exact pat_qrN _ _ | exact pat_0 | exact pat_1 | exact pat_h) _).mono ?_; rintro e wx ⟨rfl, hbx⟩; have HB : Below w.heap.size w wx := (by first | exact bel HB hbx | exact bel (by go_grown) hbx))
    | (go_at_call 17; refine (quarter_any _ (by with_reducible first | assumption | exact pat_add _ _ | exact pat_sub _ _ | exact pat_mul _ _ | exact pat_div _ _ | exact pat_sqrt _ | exact pat_from _ | exact pat_rat _ _ | exact pat_qrt _ | exact pat_qrN _ _ | exact pat_0 | exact pat_1 | exact pat_h) _).mono ?_; rintro e wx ⟨rfl, hbx⟩; have HB : Below w.heap.size w wx := (by first | exact bel HB hbx | exact bel (by go_grown) hbx)))
    go_ret
    exact ⟨ret_int HR.out, HB⟩
  · have z1 : (y == 1056964608) = false := by simpa using h1
    cases h2 : fless 1056964608 y
    · have HR : Hid (qrt y = r) := by show qrt y = r; rw [HE2.out, if_neg h1, if_neg (by rw [h2]; exact Bool.false_ne_true)]
      clear HE2 h1
      go_enter Try.func9, Try.ntmps9
      go_wp2_with (first
    | (go_at_call 14; refine (f_max (by with_reducible first | assumption | exact pat_add _ _ | exact pat_sub _ _ | exact pat_mul _ _ | exact pat_div _ _ | exact pat_sqrt _ | exact pat_from _ | exact pat_rat _ _ | exact pat_qrt _ | exact pat_qrN _ _ | exact pat_0 | exact pat_1 | exact pat_h) (by with_reducible first | assumption | exact pat_add _ _ | exact pat_sub _ _ | exact pat_mul _ _ | exact pat_div _ _ | exact pat_sqrt _ | exact pat_from _ | exact pat_rat _ _ | exact pat_qrt _ | exact pat_qrN _ _ | exact pat_0 | exact pat_1 | exact pat_h) _).mono ?_; rintro e wx ⟨rfl, hbx⟩; have HB : Below w.heap.size w wx := (by first | exact bel HB hbx | exact bel (by go_grown) hbx))
    | (go_at_call 13; refine (f_min (by with_reducible first | assumption | exact pat_add _ _ | exact pat_sub _ _ | exact pat_mul _ _ | exact pat_div _ _ | exact pat_sqrt _ | exact pat_from _ | exact pat_rat _ _ | exact pat_qrt _ | exact pat_qrN _ _ | exact pat_0 | exact pat_1 | exact pat_h) (by with_reducible first | assumption | exact pat_add _ _ | exact pat_sub _ _ | exact pat_mul _ _ | exact pat_div _ _ | exact pat_sqrt _ | exact pat_from _ | exact pat_rat _ _ | exact pat_qrt _ | exact pat_qrN _ _ | exact pat_0 | exact pat_1 | exact pat_h) _).mono ?_; rintro e wx ⟨rfl, hbx⟩; have HB : Below w.heap.size w wx := (by first | exact bel HB hbx | exact bel (by go_grown) hbx); rw [hcd])
    | (go_at_call 15; refine (f_less (by with_reducible first | assumption | exact pat_add _ _ | exact pat_sub _ _ | exact pat_mul _ _ | exact pat_div _ _ | exact pat_sqrt _ | exact pat_from _ | exact pat_rat _ _ | exact pat_qrt _ | exact pat_qrN _ _ | exact pat_0 | exact pat_1 | exact pat_h) (by with_reducible first | assumption | exact pat_add _ _ | exact pat_sub _ _ | exact pat_mul _ _ | exact pat_div _ _ | exact pat_sqrt _ | exact pat_from _ | exact pat_rat _ _ | exact pat_qrt _ | exact pat_qrN _ _ | exact pat_0 | exact pat_1 | exact pat_h) _).mono ?_; rintro e wx ⟨rfl, hbx⟩; have HB : Below w.heap.size w wx := (by first | exact bel HB hbx | exact bel (by go_grown) hbx))
    | (go_at_call 18; refine (f_sub (by with_reducible first | assumption | exact pat_add _ _ | exact pat_sub _ _ | exact pat_mul _ _ | exact pat_div _ _ | exact pat_sqrt _ | exact pat_from _ | exact pat_rat _ _ | exact pat_qrt _ | exact pat_qrN _ _ | exact pat_0 | exact pat_1 | exact pat_h) (by with_reducible first | assumption | exact pat_add _ _ | exact pat_sub _ _ | exact pat_mul _ _ | exact pat_div _ _ | exact pat_sqrt _ | exact pat_from _ | exact pat_rat _ _ | exact pat_qrt _ | exact pat_qrN _ _ | exact pat_0 | exact pat_1 | exact pat_h) _).mono ?_; rintro e wx ⟨rfl, hbx⟩; have HB : Below w.heap.size w wx := (by first | exact bel HB hbx | exact bel (by go_grown) hbx))
    | (go_at_call 16; refine (f_neg (by with_reducible first | assumption | exact pat_add _ _ | exact pat_sub _ _ | exact pat_mul _ _ | exact pat_div _ _ | exact pat_sqrt _ | exact pat_from _ | exact pat_rat _ _ | exact pat_qrt _ | exact pat_qrN _ _ | exact pat_0 | exact pat_1 | exact pat_h) _).mono ?_; rintro e wx ⟨rfl, hbx⟩; have HB : Below w.heap.size w wx := (by first | exact bel HB hbx | exact bel (by go_grown) hbx))
    | (go_at_call 17; refine (quarter_any _ (by with_reducible first | assumption | exact pat_add _ _ | exact pat_sub _ _ | exact pat_mul _ _ | exact pat_div _ _ | exact pat_sqrt _ | exact pat_from _ | exact pat_rat _ _ | exact pat_qrt _ | exact pat_qrN _ _ | exact pat_0 | exact pat_1 | exact pat_h) _).mono ?_; rintro e wx ⟨rfl, hbx⟩; have HB : Below w.heap.size w wx := (by first | exact bel HB hbx | exact bel (by go_grown) hbx)))
      go_ret
      exact ⟨ret_int HR.out, HB⟩
    · have HR : Hid (fneg (qrt (fsub 1065353216 y)) = r) := by show fneg (qrt (fsub 1065353216 y)) = r; rw [HE2.out, if_neg h1, if_pos h2]
      clear HE2 h1
      go_enter Try.func9, Try.ntmps9
      go_wp2_with (first
    | (go_at_call 14; refine (f_max (by with_reducible first | assumption | exact pat_add _ _ | exact pat_sub _ _ | exact pat_mul _ _ | exact pat_div _ _ | exact pat_sqrt _ | exact pat_from _ | exact pat_rat _ _ | exact pat_qrt _ | exact pat_qrN _ _ | exact pat_0 | exact pat_1 | exact pat_h) (by with_reducible first | assumption | exact pat_add _ _ | exact pat_sub _ _ | exact pat_mul _ _ | exact pat_div _ _ | exact pat_sqrt _ | exact pat_from _ | exact pat_rat _ _ | exact pat_qrt _ | exact pat_qrN _ _ | exact pat_0 | exact pat_1 | exact pat_h) _).mono ?_; rintro e wx ⟨rfl, hbx⟩; have HB : Below w.heap.size w wx := (by first | exact bel HB hbx | exact bel (by go_grown) hbx))
    | (go_at_call 13; refine (f_min (by with_reducible first | assumption | exact pat_add _ _ | exact pat_sub _ _ | exact pat_mul _ _ | exact pat_div _ _ | exact pat_sqrt _ | exact pat_from _ | exact pat_rat _ _ | exact pat_qrt _ | exact pat_qrN _ _ | exact pat_0 | exact pat_1 | exact pat_h) (by with_reducible first | assumption | exact pat_add _ _ | exact pat_sub _ _ | exact pat_mul _ _ | exact pat_div _ _ | exact pat_sqrt _ | exact pat_from _ | exact pat_rat _ _ | exact pat_qrt _ | exact pat_qrN _ _ | exact pat_0 | exact pat_1 | exact pat_h) _).mono ?_; rintro e wx ⟨rfl, hbx⟩; have HB : Below w.heap.size w wx := (by first | exact bel HB hbx | exact bel (by go_grown) hbx); rw [hcd])
    | (go_at_call 15; refine (f_less (by with_reducible first | assumption | exact pat_add _ _ | exact pat_sub _ _ | exact pat_mul _ _ | exact pat_div _ _ | exact pat_sqrt _ | exact pat_from _ | exact pat_rat _ _ | exact pat_qrt _ | exact pat_qrN _ _ | exact pat_0 | exact pat_1 | exact pat_h) (by with_reducible first | assumption | exact pat_add _ _ | exact pat_sub _ _ | exact pat_mul _ _ | exact pat_div _ _ | exact pat_sqrt _ | exact pat_from _ | exact pat_rat _ _ | exact pat_qrt _ | exact pat_qrN _ _ | exact pat_0 | exact pat_1 | exact pat_h) _).mono ?_; rintro e wx ⟨rfl, hbx⟩; have HB : Below w.heap.size w wx := (by first | exact bel HB hbx | exact bel (by go_grown) hbx))
    | (go_at_call 18; refine (f_sub (by with_reducible first | assumption | exact pat_add _ _ | exact pat_sub _ _ | exact pat_mul _ _ | exact pat_div _ _ | exact pat_sqrt _ | exact pat_from _ | exact pat_rat _ _ | exact pat_qrt _ | exact pat_qrN _ _ | exact pat_0 | exact pat_1 | exact pat_h) (by with_reducible first | assumption | exact pat_add _ _ | exact pat_sub _ _ | exact pat_mul _ _ | exact pat_div _ _ | exact pat_sqrt _ | exact pat_from _ | exact pat_rat _ _ | exact pat_qrt _ | exact pat_qrN _ _ | exact pat_0 | exact pat_1 | exact pat_h) _).mono ?_; rintro e wx ⟨rfl, hbx⟩; have HB : Below w.heap.size w wx := (by first | exact bel HB hbx | exact bel (by go_grown) hbx))
    | (go_at_call 16; refine (f_neg (by with_reducible first | assumption | exact pat_add _ _ | exact pat_sub _ _ | exact pat_mul _ _ | exact pat_div _ _ | exact pat_sqrt _ | exact pat_from _ | exact pat_rat _ _ | exact pat_qrt _ | exact pat_qrN _ _ | exact pat_0 | exact pat_1 | exact pat_h) _).mono ?_; rintro e wx ⟨rfl, hbx⟩; have HB : Below w.heap.size w wx := (by first | exact bel HB hbx | exact bel (by go_grown) hbx))
    | (go_at_call 17; refine (quarter_any _ (by with_reducible first | assumption | exact pat_add _ _ | exact pat_sub _ _ | exact pat_mul _ _ | exact pat_div _ _ | exact pat_sqrt _ | exact pat_from _ | exact pat_rat _ _ | exact pat_qrt _ | exact pat_qrN _ _ | exact pat_0 | exact pat_1 | exact pat_h) _).mono ?_; rintro e wx ⟨rfl, hbx⟩; have HB : Below w.heap.size w wx := (by first | exact bel HB hbx | exact bel (by go_grown) hbx)))
      go_ret
      exact ⟨ret_int HR.out, HB⟩

end Go.Proofs.Ytnogokikiekcbab
