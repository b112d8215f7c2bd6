import Derived.Test.YtnogokikiekcbabSchMay
/- Package sched: the values of polynomials, exponentials, cosines, inverses. -/
namespace Go.Proofs.Ytnogokikiekcbab
open Go.RowKit
set_option linter.unusedVariables false
set_option linter.unusedSimpArgs false

theorem ratio_any (a b : Int) (ha : -9223372036854775808 ≤ a ∧ a ≤ 9223372036854775807) (hb : -9223372036854775808 ≤ b ∧ b ≤ 9223372036854775807) (w : World) :
    Calls Try.prog 33 #[.int .i64 a, .int .i64 b] w fun e w' => e = .returned (.int .u32 (rat a b)) ∧ Below w.heap.size w w' := by
  have HB : Below w.heap.size w w := bel0 w
  go_enter Try.func33, Try.ntmps33
  go_wp2_with (first
    | (go_at_call 44; refine (f_from (by with_reducible assumption) _).mono ?_; rintro e wx ⟨rfl, hbx⟩; have HB : Below w.heap.size w wx := (by first | exact bel HB hbx | exact bel (by go_grown) hbx))
    | (go_at_call 43; refine (f_div (by with_reducible first | assumption | exact pat_add _ _ | exact pat_sub _ _ | exact pat_mul _ _ | exact pat_div _ _ | exact pat_sqrt _ | exact pat_from _ | exact pat_rat _ _ | exact pat_qrt _ | exact pat_qrN _ _ | exact pat_0 | exact pat_1 | exact pat_h) (by with_reducible first | assumption | exact pat_add _ _ | exact pat_sub _ _ | exact pat_mul _ _ | exact pat_div _ _ | exact pat_sqrt _ | exact pat_from _ | exact pat_rat _ _ | exact pat_qrt _ | exact pat_qrN _ _ | exact pat_0 | exact pat_1 | exact pat_h) _).mono ?_; rintro e wx ⟨rfl, hbx⟩; have HB : Below w.heap.size w wx := (by first | exact bel HB hbx | exact bel (by go_grown) hbx)))
  go_ret
  exact ⟨rfl, HB⟩

theorem cells_2_3 {w : World} {b o : Nat} {op : Int} {n0 n1 i0 i1 i2 : Int} {ks : List Sc} (h : SA w b o ⟨op, [n0, n1], [i0, i1, i2], ks⟩) : ∃ b1 o1 c1 b2 o2 c2, ∀ v, Below w.heap.size w v → v.cell? ⟨b, o, none⟩ = some (.int .i64 op) ∧ v.cell? ⟨b, o + 1, none⟩ = some (.slice (some ⟨b1, o1, none⟩) 2 c1) ∧ v.cell? ⟨b, o + 2, none⟩ = some (.slice (some ⟨b2, o2, none⟩) 3 c2) ∧ v.cell? ⟨b1, o1, none⟩ = some (.int .u32 n0) ∧ v.cell? ⟨b1, o1 + 1, none⟩ = some (.int .u32 n1) ∧ v.cell? ⟨b2, o2, none⟩ = some (.int .i64 i0) ∧ v.cell? ⟨b2, o2 + 1, none⟩ = some (.int .i64 i1) ∧ v.cell? ⟨b2, o2 + 2, none⟩ = some (.int .i64 i2) := by
  obtain ⟨pn, cn, pi, ci, pk, ck, hc⟩ := h.cells
  have r1 := (hc w (bel0 w)).2.2.2.2.1
  have r2 := (hc w (bel0 w)).2.2.2.2.2
  obtain ⟨b1, o1, rfl, -⟩ := r1.get (i := 0) (by simp)
  obtain ⟨b2, o2, rfl, -⟩ := r2.get (i := 0) (by simp)
  refine ⟨b1, o1, cn, b2, o2, ci, fun v hv => ⟨(hc v hv).1, (hc v hv).2.1, (hc v hv).2.2.1, ?_, ?_, ?_, ?_, ?_⟩⟩
  · obtain ⟨b', o', e, h'⟩ := r1.get (i := 0) (by simp)
    simp only [Option.some.injEq, Addr.mk.injEq] at e
    obtain ⟨rfl, rfl, -⟩ := e
    exact bcell h' hv
  · obtain ⟨b', o', e, h'⟩ := r1.get (i := 1) (by simp)
    simp only [Option.some.injEq, Addr.mk.injEq] at e
    obtain ⟨rfl, rfl, -⟩ := e
    exact bcell h' hv
  · obtain ⟨b', o', e, h'⟩ := r2.get (i := 0) (by simp)
    simp only [Option.some.injEq, Addr.mk.injEq] at e
    obtain ⟨rfl, rfl, -⟩ := e
    exact bcell h' hv
  · obtain ⟨b', o', e, h'⟩ := r2.get (i := 1) (by simp)
    simp only [Option.some.injEq, Addr.mk.injEq] at e
    obtain ⟨rfl, rfl, -⟩ := e
    exact bcell h' hv
  · obtain ⟨b', o', e, h'⟩ := r2.get (i := 2) (by simp)
    simp only [Option.some.injEq, Addr.mk.injEq] at e
    obtain ⟨rfl, rfl, -⟩ := e
    exact bcell h' hv

theorem cells_2_2 {w : World} {b o : Nat} {op : Int} {n0 n1 i0 i1 : Int} {ks : List Sc} (h : SA w b o ⟨op, [n0, n1], [i0, i1], ks⟩) : ∃ b1 o1 c1 b2 o2 c2, ∀ v, Below w.heap.size w v → v.cell? ⟨b, o, none⟩ = some (.int .i64 op) ∧ v.cell? ⟨b, o + 1, none⟩ = some (.slice (some ⟨b1, o1, none⟩) 2 c1) ∧ v.cell? ⟨b, o + 2, none⟩ = some (.slice (some ⟨b2, o2, none⟩) 2 c2) ∧ v.cell? ⟨b1, o1, none⟩ = some (.int .u32 n0) ∧ v.cell? ⟨b1, o1 + 1, none⟩ = some (.int .u32 n1) ∧ v.cell? ⟨b2, o2, none⟩ = some (.int .i64 i0) ∧ v.cell? ⟨b2, o2 + 1, none⟩ = some (.int .i64 i1) := by
  obtain ⟨pn, cn, pi, ci, pk, ck, hc⟩ := h.cells
  have r1 := (hc w (bel0 w)).2.2.2.2.1
  have r2 := (hc w (bel0 w)).2.2.2.2.2
  obtain ⟨b1, o1, rfl, -⟩ := r1.get (i := 0) (by simp)
  obtain ⟨b2, o2, rfl, -⟩ := r2.get (i := 0) (by simp)
  refine ⟨b1, o1, cn, b2, o2, ci, fun v hv => ⟨(hc v hv).1, (hc v hv).2.1, (hc v hv).2.2.1, ?_, ?_, ?_, ?_⟩⟩
  · obtain ⟨b', o', e, h'⟩ := r1.get (i := 0) (by simp)
    simp only [Option.some.injEq, Addr.mk.injEq] at e
    obtain ⟨rfl, rfl, -⟩ := e
    exact bcell h' hv
  · obtain ⟨b', o', e, h'⟩ := r1.get (i := 1) (by simp)
    simp only [Option.some.injEq, Addr.mk.injEq] at e
    obtain ⟨rfl, rfl, -⟩ := e
    exact bcell h' hv
  · obtain ⟨b', o', e, h'⟩ := r2.get (i := 0) (by simp)
    simp only [Option.some.injEq, Addr.mk.injEq] at e
    obtain ⟨rfl, rfl, -⟩ := e
    exact bcell h' hv
  · obtain ⟨b', o', e, h'⟩ := r2.get (i := 1) (by simp)
    simp only [Option.some.injEq, Addr.mk.injEq] at e
    obtain ⟨rfl, rfl, -⟩ := e
    exact bcell h' hv

theorem cells_2_1 {w : World} {b o : Nat} {op : Int} {n0 n1 i0 : Int} {ks : List Sc} (h : SA w b o ⟨op, [n0, n1], [i0], ks⟩) : ∃ b1 o1 c1 b2 o2 c2, ∀ v, Below w.heap.size w v → v.cell? ⟨b, o, none⟩ = some (.int .i64 op) ∧ v.cell? ⟨b, o + 1, none⟩ = some (.slice (some ⟨b1, o1, none⟩) 2 c1) ∧ v.cell? ⟨b, o + 2, none⟩ = some (.slice (some ⟨b2, o2, none⟩) 1 c2) ∧ v.cell? ⟨b1, o1, none⟩ = some (.int .u32 n0) ∧ v.cell? ⟨b1, o1 + 1, none⟩ = some (.int .u32 n1) ∧ v.cell? ⟨b2, o2, none⟩ = some (.int .i64 i0) := by
  obtain ⟨pn, cn, pi, ci, pk, ck, hc⟩ := h.cells
  have r1 := (hc w (bel0 w)).2.2.2.2.1
  have r2 := (hc w (bel0 w)).2.2.2.2.2
  obtain ⟨b1, o1, rfl, -⟩ := r1.get (i := 0) (by simp)
  obtain ⟨b2, o2, rfl, -⟩ := r2.get (i := 0) (by simp)
  refine ⟨b1, o1, cn, b2, o2, ci, fun v hv => ⟨(hc v hv).1, (hc v hv).2.1, (hc v hv).2.2.1, ?_, ?_, ?_⟩⟩
  · obtain ⟨b', o', e, h'⟩ := r1.get (i := 0) (by simp)
    simp only [Option.some.injEq, Addr.mk.injEq] at e
    obtain ⟨rfl, rfl, -⟩ := e
    exact bcell h' hv
  · obtain ⟨b', o', e, h'⟩ := r1.get (i := 1) (by simp)
    simp only [Option.some.injEq, Addr.mk.injEq] at e
    obtain ⟨rfl, rfl, -⟩ := e
    exact bcell h' hv
  · obtain ⟨b', o', e, h'⟩ := r2.get (i := 0) (by simp)
    simp only [Option.some.injEq, Addr.mk.injEq] at e
    obtain ⟨rfl, rfl, -⟩ := e
    exact bcell h' hv

theorem cells_1_1 {w : World} {b o : Nat} {op : Int} {n0 i0 : Int} {ks : List Sc} (h : SA w b o ⟨op, [n0], [i0], ks⟩) : ∃ b1 o1 c1 b2 o2 c2, ∀ v, Below w.heap.size w v → v.cell? ⟨b, o, none⟩ = some (.int .i64 op) ∧ v.cell? ⟨b, o + 1, none⟩ = some (.slice (some ⟨b1, o1, none⟩) 1 c1) ∧ v.cell? ⟨b, o + 2, none⟩ = some (.slice (some ⟨b2, o2, none⟩) 1 c2) ∧ v.cell? ⟨b1, o1, none⟩ = some (.int .u32 n0) ∧ v.cell? ⟨b2, o2, none⟩ = some (.int .i64 i0) := by
  obtain ⟨pn, cn, pi, ci, pk, ck, hc⟩ := h.cells
  have r1 := (hc w (bel0 w)).2.2.2.2.1
  have r2 := (hc w (bel0 w)).2.2.2.2.2
  obtain ⟨b1, o1, rfl, -⟩ := r1.get (i := 0) (by simp)
  obtain ⟨b2, o2, rfl, -⟩ := r2.get (i := 0) (by simp)
  refine ⟨b1, o1, cn, b2, o2, ci, fun v hv => ⟨(hc v hv).1, (hc v hv).2.1, (hc v hv).2.2.1, ?_, ?_⟩⟩
  · obtain ⟨b', o', e, h'⟩ := r1.get (i := 0) (by simp)
    simp only [Option.some.injEq, Addr.mk.injEq] at e
    obtain ⟨rfl, rfl, -⟩ := e
    exact bcell h' hv
  · obtain ⟨b', o', e, h'⟩ := r2.get (i := 0) (by simp)
    simp only [Option.some.injEq, Addr.mk.injEq] at e
    obtain ⟨rfl, rfl, -⟩ := e
    exact bcell h' hv

set_option maxRecDepth 100000 in
set_option maxHeartbeats 2000000 in
theorem poly_any (n0 n1 i0 i1 i2 n : Int) (ks : List Sc) (hp : ∀ x ∈ [n0, n1], Pat x) (hn : 0 ≤ n ∧ n ≤ 2147483647) (hq : 1 ≤ i0 ∧ i0 ≤ 1024) (hs : 1 ≤ i1 ∧ i1 ≤ 2147483647) (hg : 0 ≤ i2 ∧ i2 ≤ 2147483647) (b o : Nat) (w : World) (h : SA w b o ⟨2, [n0, n1], [i0, i1, i2], ks⟩) :
    Calls Try.prog 20 #[.pointer (some ⟨b, o, none⟩), .int .i64 n] w fun e w' => e = .returned (.int .u32 (polyV n0 n1 i0 i1 i2 n)) ∧ Below w.heap.size w w' := by
  have HB : Below w.heap.size w w := bel0 w
  obtain ⟨b1, o1, k1, b2, o2, k2, hc⟩ := cells_2_3 h
  have HC : Hid (∀ v, Below w.heap.size w v → _) := hc
  have pn0 : Pat n0 := hp _ (by simp)
  have pn1 : Pat n1 := hp _ (by simp)
  obtain ⟨c0, c1, c2, d0, d1, g0, g1, g2⟩ := hc w HB
  clear h hc hp
  have w1 : IntKind.i64.wrap (n - i2) = n - i2 := by rw [IntKind.wrap_i64]; omega
  obtain ⟨M, hM⟩ : ∃ M, min (max (n - i2) 0) i1 = M := ⟨_, rfl⟩
  have hMb : 0 ≤ M ∧ M ≤ 2147483647 := by omega
  have HV : Hid (polyV n0 n1 i0 i1 i2 n = fadd (fmul (fsub n0 n1) (fpow (fsub 1065353216 (rat M i1)) i0)) n1) := by show _ = _; unfold polyV; rw [hM]
  rw [HV.out]
  clear HV
  have hpw := pat_pow i0 (pat_sub 1065353216 (rat M i1))
  go_enter Try.func20, Try.ntmps20
  go_wp2
  go_region_held3 (fun w' => w'.cell? ⟨b, o + 1, none⟩ = some (.slice (some ⟨b1, o1, none⟩) 2 k1) ∧ w'.cell? ⟨b, o + 2, none⟩ = some (.slice (some ⟨b2, o2, none⟩) 3 k2) ∧ w'.cell? ⟨b1, o1, none⟩ = some (.int .u32 n0) ∧ w'.cell? ⟨b1, o1 + 1, none⟩ = some (.int .u32 n1) ∧ w'.cell? ⟨b2, o2, none⟩ = some (.int .i64 i0) ∧ w'.cell? ⟨b2, o2 + 1, none⟩ = some (.int .i64 i1) ∧ w'.cell? ⟨b2, o2 + 2, none⟩ = some (.int .i64 i2)) (go_keep) (fail)
  clear c0 c1 c2 d0 d1 g0 g1 g2
  obtain ⟨c0, c1, c2, d0, d1, g0, g1, g2⟩ := HC.out w.drew (bel_d w)
  go_wp2
  go_region_held3 (fun w' => w'.cell? ⟨b, o + 1, none⟩ = some (.slice (some ⟨b1, o1, none⟩) 2 k1) ∧ w'.cell? ⟨b, o + 2, none⟩ = some (.slice (some ⟨b2, o2, none⟩) 3 k2) ∧ w'.cell? ⟨b1, o1, none⟩ = some (.int .u32 n0) ∧ w'.cell? ⟨b1, o1 + 1, none⟩ = some (.int .u32 n1) ∧ w'.cell? ⟨b2, o2, none⟩ = some (.int .i64 i0) ∧ w'.cell? ⟨b2, o2 + 1, none⟩ = some (.int .i64 i1) ∧ w'.cell? ⟨b2, o2 + 2, none⟩ = some (.int .i64 i2)) (go_keep) (fail)
  clear c0 c1 c2 d0 d1 g0 g1 g2
  clear HB
  have HB : Below w.heap.size w w.drew.drew := bel (bel_d w) (bel_d _)
  go_wp2_with (first
    | (go_at_call 33; (refine (ratio_any _ _ (by constructor <;> omega) (by constructor <;> omega) _).mono ?_); rintro e wx ⟨rfl, hbx⟩; have HB : Below w.heap.size w wx := (by first | exact bel HB hbx | exact bel (by go_grown) hbx))
    | (go_at_call 34; refine (f_pow (by with_reducible first | assumption | exact pat_add _ _ | exact pat_sub _ _ | exact pat_mul _ _ | exact pat_div _ _ | exact pat_sqrt _ | exact pat_from _ | exact pat_rat _ _ | exact pat_qrt _ | exact pat_qrN _ _ | exact pat_0 | exact pat_1 | exact pat_h) (by constructor <;> omega) _).mono ?_; rintro e wx ⟨rfl, hbx⟩; have HB : Below w.heap.size w wx := (by first | exact bel HB hbx | exact bel (by go_grown) hbx))
    | (go_at_call 18; refine (f_sub (by with_reducible first | assumption | exact pat_add _ _ | exact pat_sub _ _ | exact pat_mul _ _ | exact pat_div _ _ | exact pat_sqrt _ | exact pat_from _ | exact pat_rat _ _ | exact pat_qrt _ | exact pat_qrN _ _ | exact pat_0 | exact pat_1 | exact pat_h) (by with_reducible first | assumption | exact pat_add _ _ | exact pat_sub _ _ | exact pat_mul _ _ | exact pat_div _ _ | exact pat_sqrt _ | exact pat_from _ | exact pat_rat _ _ | exact pat_qrt _ | exact pat_qrN _ _ | exact pat_0 | exact pat_1 | exact pat_h) _).mono ?_; rintro e wx ⟨rfl, hbx⟩; have HB : Below w.heap.size w wx := (by first | exact bel HB hbx | exact bel (by go_grown) hbx))
    | (go_at_call 28; refine (f_mul (by with_reducible first | assumption | exact pat_add _ _ | exact pat_sub _ _ | exact pat_mul _ _ | exact pat_div _ _ | exact pat_sqrt _ | exact pat_from _ | exact pat_rat _ _ | exact pat_qrt _ | exact pat_qrN _ _ | exact pat_0 | exact pat_1 | exact pat_h) (by with_reducible first | assumption | exact pat_add _ _ | exact pat_sub _ _ | exact pat_mul _ _ | exact pat_div _ _ | exact pat_sqrt _ | exact pat_from _ | exact pat_rat _ _ | exact pat_qrt _ | exact pat_qrN _ _ | exact pat_0 | exact pat_1 | exact pat_h) _).mono ?_; rintro e wx ⟨rfl, hbx⟩; have HB : Below w.heap.size w wx := (by first | exact bel HB hbx | exact bel (by go_grown) hbx))
    | (go_at_call 27; refine (f_add (by with_reducible first | assumption | exact pat_add _ _ | exact pat_sub _ _ | exact pat_mul _ _ | exact pat_div _ _ | exact pat_sqrt _ | exact pat_from _ | exact pat_rat _ _ | exact pat_qrt _ | exact pat_qrN _ _ | exact pat_0 | exact pat_1 | exact pat_h) (by with_reducible first | assumption | exact pat_add _ _ | exact pat_sub _ _ | exact pat_mul _ _ | exact pat_div _ _ | exact pat_sqrt _ | exact pat_from _ | exact pat_rat _ _ | exact pat_qrt _ | exact pat_qrN _ _ | exact pat_0 | exact pat_1 | exact pat_h) _).mono ?_; rintro e wx ⟨rfl, hbx⟩; have HB : Below w.heap.size w wx := (by first | exact bel HB hbx | exact bel (by go_grown) hbx)))
  go_ret
  exact ⟨rfl, HB⟩

set_option maxRecDepth 100000 in
set_option maxHeartbeats 2000000 in
theorem expo_any (n0 n1 i0 i1 n : Int) (ks : List Sc) (hp : ∀ x ∈ [n0, n1], Pat x) (hn : 0 ≤ n ∧ n ≤ 2147483647) (hs : 1 ≤ i0 ∧ i0 ≤ 2147483647) (hg : 0 ≤ i1 ∧ i1 ≤ 2147483647) (b o : Nat) (w : World) (h : SA w b o ⟨3, [n0, n1], [i0, i1], ks⟩) :
    Calls Try.prog 21 #[.pointer (some ⟨b, o, none⟩), .int .i64 n] w fun e w' => e = .returned (.int .u32 (expoV n0 n1 i0 i1 n)) ∧ Below w.heap.size w w' := by
  have HB : Below w.heap.size w w := bel0 w
  obtain ⟨b1, o1, k1, b2, o2, k2, hc⟩ := cells_2_2 h
  have HC : Hid (∀ v, Below w.heap.size w v → _) := hc
  have pn0 : Pat n0 := hp _ (by simp)
  have pn1 : Pat n1 := hp _ (by simp)
  obtain ⟨c0, c1, c2, d0, d1, g0, g1⟩ := hc w HB
  clear h hc hp
  have w1 : IntKind.i64.wrap (n - i1) = n - i1 := by rw [IntKind.wrap_i64]; omega
  obtain ⟨M, hM⟩ : ∃ M, max (n - i1) 0 = M := ⟨_, rfl⟩
  have hMb : 0 ≤ M ∧ M ≤ 2147483647 := by omega
  have hq1 : Int.tdiv M i0 = M / i0 := Int.tdiv_eq_ediv_of_nonneg hMb.1
  have hq2 : 0 ≤ M / i0 ∧ M / i0 ≤ 2147483647 := ⟨Int.ediv_nonneg hMb.1 (by omega), Int.le_trans (Int.ediv_le_self _ hMb.1) hMb.2⟩
  obtain ⟨Q, hQ⟩ : ∃ Q, M / i0 = Q := ⟨_, rfl⟩
  have HV : Hid (expoV n0 n1 i0 i1 n = fmul n0 (fpow n1 Q)) := by show _ = _; unfold expoV; rw [hM, hQ]
  rw [hQ] at hq1 hq2
  have w2 : IntKind.i64.wrap Q = Q := by rw [IntKind.wrap_i64]; omega
  have z1 : (i0 == 0) = false := by simp; omega
  rw [HV.out]
  clear HV hQ
  have hpw := pat_pow Q pn1
  go_enter Try.func21, Try.ntmps21
  go_wp2
  go_region_held3 (fun w' => w'.cell? ⟨b, o + 1, none⟩ = some (.slice (some ⟨b1, o1, none⟩) 2 k1) ∧ w'.cell? ⟨b, o + 2, none⟩ = some (.slice (some ⟨b2, o2, none⟩) 2 k2) ∧ w'.cell? ⟨b1, o1, none⟩ = some (.int .u32 n0) ∧ w'.cell? ⟨b1, o1 + 1, none⟩ = some (.int .u32 n1) ∧ w'.cell? ⟨b2, o2, none⟩ = some (.int .i64 i0) ∧ w'.cell? ⟨b2, o2 + 1, none⟩ = some (.int .i64 i1)) (go_keep) (fail)
  clear c0 c1 c2 d0 d1 g0 g1
  obtain ⟨c0, c1, c2, d0, d1, g0, g1⟩ := HC.out w.drew (bel_d w)
  go_wp2
  go_region_held3 (fun w' => w'.cell? ⟨b, o + 1, none⟩ = some (.slice (some ⟨b1, o1, none⟩) 2 k1) ∧ w'.cell? ⟨b, o + 2, none⟩ = some (.slice (some ⟨b2, o2, none⟩) 2 k2) ∧ w'.cell? ⟨b1, o1, none⟩ = some (.int .u32 n0) ∧ w'.cell? ⟨b1, o1 + 1, none⟩ = some (.int .u32 n1) ∧ w'.cell? ⟨b2, o2, none⟩ = some (.int .i64 i0) ∧ w'.cell? ⟨b2, o2 + 1, none⟩ = some (.int .i64 i1)) (go_keep) (fail)
  clear c0 c1 c2 d0 d1 g0 g1
  clear HB
  have HB : Below w.heap.size w w.drew.drew := bel (bel_d w) (bel_d _)
  go_wp2_with (first
    | (go_at_call 34; refine (f_pow (by with_reducible first | assumption | exact pat_add _ _ | exact pat_sub _ _ | exact pat_mul _ _ | exact pat_div _ _ | exact pat_sqrt _ | exact pat_from _ | exact pat_rat _ _ | exact pat_qrt _ | exact pat_qrN _ _ | exact pat_0 | exact pat_1 | exact pat_h) (by constructor <;> omega) _).mono ?_; rintro e wx ⟨rfl, hbx⟩; have HB : Below w.heap.size w wx := (by first | exact bel HB hbx | exact bel (by go_grown) hbx))
    | (go_at_call 28; refine (f_mul (by with_reducible first | assumption | exact pat_add _ _ | exact pat_sub _ _ | exact pat_mul _ _ | exact pat_div _ _ | exact pat_sqrt _ | exact pat_from _ | exact pat_rat _ _ | exact pat_qrt _ | exact pat_qrN _ _ | exact pat_0 | exact pat_1 | exact pat_h) (by with_reducible first | assumption | exact pat_add _ _ | exact pat_sub _ _ | exact pat_mul _ _ | exact pat_div _ _ | exact pat_sqrt _ | exact pat_from _ | exact pat_rat _ _ | exact pat_qrt _ | exact pat_qrN _ _ | exact pat_0 | exact pat_1 | exact pat_h) _).mono ?_; rintro e wx ⟨rfl, hbx⟩; have HB : Below w.heap.size w wx := (by first | exact bel HB hbx | exact bel (by go_grown) hbx)))
  go_ret
  exact ⟨rfl, HB⟩

set_option maxRecDepth 100000 in
set_option maxHeartbeats 2000000 in
theorem cos_any (n0 n1 i0 n : Int) (ks : List Sc) (hp : ∀ x ∈ [n0, n1], Pat x) (hn : 0 ≤ n ∧ n ≤ 2147483647) (hs : 1 ≤ i0 ∧ i0 ≤ 2147483647) (b o : Nat) (w : World) (h : SA w b o ⟨4, [n0, n1], [i0], ks⟩) :
    Calls Try.prog 22 #[.pointer (some ⟨b, o, none⟩), .int .i64 n] w fun e w' => e = .returned (.int .u32 (cosV n0 n1 i0 n)) ∧ Below w.heap.size w w' := by
  have HB : Below w.heap.size w w := bel0 w
  obtain ⟨b1, o1, k1, b2, o2, k2, hc⟩ := cells_2_1 h
  have HC : Hid (∀ v, Below w.heap.size w v → _) := hc
  have pn0 : Pat n0 := hp _ (by simp)
  have pn1 : Pat n1 := hp _ (by simp)
  obtain ⟨c0, c1, c2, d0, d1, g0⟩ := hc w HB
  clear h hc hp
  obtain ⟨M, hM⟩ : ∃ M, min n i0 = M := ⟨_, rfl⟩
  have hMb : 0 ≤ M ∧ M ≤ 2147483647 := by omega
  have HV : Hid (cosV n0 n1 i0 n = fmul (fadd (fmul (fsub 1065353216 n1) (fmul 1056964608 (fadd 1065353216 (wave (rat M i0))))) n1) n0) := by show _ = _; unfold cosV; rw [hM]
  rw [HV.out]
  clear HV
  have hpw := pat_wave (pat_rat M i0)
  go_enter Try.func22, Try.ntmps22
  go_wp2
  go_region_held3 (fun w' => w'.cell? ⟨b, o + 1, none⟩ = some (.slice (some ⟨b1, o1, none⟩) 2 k1) ∧ w'.cell? ⟨b, o + 2, none⟩ = some (.slice (some ⟨b2, o2, none⟩) 1 k2) ∧ w'.cell? ⟨b1, o1, none⟩ = some (.int .u32 n0) ∧ w'.cell? ⟨b1, o1 + 1, none⟩ = some (.int .u32 n1) ∧ w'.cell? ⟨b2, o2, none⟩ = some (.int .i64 i0)) (go_keep) (fail)
  clear c0 c1 c2 d0 d1 g0
  obtain ⟨c0, c1, c2, d0, d1, g0⟩ := HC.out w.drew (bel_d w)
  clear HB
  have HB : Below w.heap.size w w.drew := bel_d w
  go_wp2_with (first
    | (go_at_call 33; (refine (ratio_any _ _ (by constructor <;> omega) (by constructor <;> omega) _).mono ?_); rintro e wx ⟨rfl, hbx⟩; have HB : Below w.heap.size w wx := (by first | exact bel HB hbx | exact bel (by go_grown) hbx))
    | (go_at_call 9; refine (wave_any _ (by with_reducible first | assumption | exact pat_add _ _ | exact pat_sub _ _ | exact pat_mul _ _ | exact pat_div _ _ | exact pat_sqrt _ | exact pat_from _ | exact pat_rat _ _ | exact pat_qrt _ | exact pat_qrN _ _ | exact pat_0 | exact pat_1 | exact pat_h) _).mono ?_; rintro e wx ⟨rfl, hbx⟩; have HB : Below w.heap.size w wx := (by first | exact bel HB hbx | exact bel (by go_grown) hbx))
    | (go_at_call 18; refine (f_sub (by with_reducible first | assumption | exact pat_add _ _ | exact pat_sub _ _ | exact pat_mul _ _ | exact pat_div _ _ | exact pat_sqrt _ | exact pat_from _ | exact pat_rat _ _ | exact pat_qrt _ | exact pat_qrN _ _ | exact pat_0 | exact pat_1 | exact pat_h) (by with_reducible first | assumption | exact pat_add _ _ | exact pat_sub _ _ | exact pat_mul _ _ | exact pat_div _ _ | exact pat_sqrt _ | exact pat_from _ | exact pat_rat _ _ | exact pat_qrt _ | exact pat_qrN _ _ | exact pat_0 | exact pat_1 | exact pat_h) _).mono ?_; rintro e wx ⟨rfl, hbx⟩; have HB : Below w.heap.size w wx := (by first | exact bel HB hbx | exact bel (by go_grown) hbx))
    | (go_at_call 28; refine (f_mul (by with_reducible first | assumption | exact pat_add _ _ | exact pat_sub _ _ | exact pat_mul _ _ | exact pat_div _ _ | exact pat_sqrt _ | exact pat_from _ | exact pat_rat _ _ | exact pat_qrt _ | exact pat_qrN _ _ | exact pat_0 | exact pat_1 | exact pat_h) (by with_reducible first | assumption | exact pat_add _ _ | exact pat_sub _ _ | exact pat_mul _ _ | exact pat_div _ _ | exact pat_sqrt _ | exact pat_from _ | exact pat_rat _ _ | exact pat_qrt _ | exact pat_qrN _ _ | exact pat_0 | exact pat_1 | exact pat_h) _).mono ?_; rintro e wx ⟨rfl, hbx⟩; have HB : Below w.heap.size w wx := (by first | exact bel HB hbx | exact bel (by go_grown) hbx))
    | (go_at_call 27; refine (f_add (by with_reducible first | assumption | exact pat_add _ _ | exact pat_sub _ _ | exact pat_mul _ _ | exact pat_div _ _ | exact pat_sqrt _ | exact pat_from _ | exact pat_rat _ _ | exact pat_qrt _ | exact pat_qrN _ _ | exact pat_0 | exact pat_1 | exact pat_h) (by with_reducible first | assumption | exact pat_add _ _ | exact pat_sub _ _ | exact pat_mul _ _ | exact pat_div _ _ | exact pat_sqrt _ | exact pat_from _ | exact pat_rat _ _ | exact pat_qrt _ | exact pat_qrN _ _ | exact pat_0 | exact pat_1 | exact pat_h) _).mono ?_; rintro e wx ⟨rfl, hbx⟩; have HB : Below w.heap.size w wx := (by first | exact bel HB hbx | exact bel (by go_grown) hbx)))
  go_ret
  exact ⟨rfl, HB⟩

set_option maxRecDepth 100000 in
set_option maxHeartbeats 2000000 in
theorem inv_any (n0 i0 n : Int) (ks : List Sc) (hp : ∀ x ∈ [n0], Pat x) (hn : 0 ≤ n ∧ n ≤ 2147483647) (hs : 1 ≤ i0 ∧ i0 ≤ 2147483647) (b o : Nat) (w : World) (h : SA w b o ⟨7, [n0], [i0], ks⟩) :
    Calls Try.prog 25 #[.pointer (some ⟨b, o, none⟩), .int .i64 n] w fun e w' => e = .returned (.int .u32 (invV n0 i0 n)) ∧ Below w.heap.size w w' := by
  have HB : Below w.heap.size w w := bel0 w
  obtain ⟨b1, o1, k1, b2, o2, k2, hc⟩ := cells_1_1 h
  have HC : Hid (∀ v, Below w.heap.size w v → _) := hc
  have pn0 : Pat n0 := hp _ (by simp)
  obtain ⟨c0, c1, c2, d0, g0⟩ := hc w HB
  clear h hc hp
  obtain ⟨M, hM⟩ : ∃ M, max n i0 = M := ⟨_, rfl⟩
  have hMb : 0 ≤ M ∧ M ≤ 2147483647 := by omega
  have HV : Hid (invV n0 i0 n = fmul n0 (fsqrt (rat i0 M))) := by show _ = _; unfold invV; rw [hM]
  rw [HV.out]
  clear HV
  go_enter Try.func25, Try.ntmps25
  go_wp2
  go_region_held3 (fun w' => w'.cell? ⟨b, o + 1, none⟩ = some (.slice (some ⟨b1, o1, none⟩) 1 k1) ∧ w'.cell? ⟨b, o + 2, none⟩ = some (.slice (some ⟨b2, o2, none⟩) 1 k2) ∧ w'.cell? ⟨b1, o1, none⟩ = some (.int .u32 n0) ∧ w'.cell? ⟨b2, o2, none⟩ = some (.int .i64 i0)) (go_keep) (first
    | (go_at_call 33; (refine (ratio_any _ _ (by constructor <;> omega) (by constructor <;> omega) _).mono ?_); rintro e wx ⟨rfl, hbx⟩; have HB : Below w.heap.size w wx := (by first | exact bel HB hbx | exact bel (bel_d _) hbx); obtain ⟨c0, c1, c2, d0, g0⟩ := HC.out wx HB)
    | (go_at_call 35; refine (f_sqrt (by with_reducible first | assumption | exact pat_add _ _ | exact pat_sub _ _ | exact pat_mul _ _ | exact pat_div _ _ | exact pat_sqrt _ | exact pat_from _ | exact pat_rat _ _ | exact pat_qrt _ | exact pat_qrN _ _ | exact pat_0 | exact pat_1 | exact pat_h) _).mono ?_; rintro e wx ⟨rfl, hbx⟩; have HB : Below w.heap.size w wx := (by first | exact bel HB hbx | exact bel (bel_d _) hbx); obtain ⟨c0, c1, c2, d0, g0⟩ := HC.out wx HB)
    | (go_at_call 28; refine (f_mul (by with_reducible first | assumption | exact pat_add _ _ | exact pat_sub _ _ | exact pat_mul _ _ | exact pat_div _ _ | exact pat_sqrt _ | exact pat_from _ | exact pat_rat _ _ | exact pat_qrt _ | exact pat_qrN _ _ | exact pat_0 | exact pat_1 | exact pat_h) (by with_reducible first | assumption | exact pat_add _ _ | exact pat_sub _ _ | exact pat_mul _ _ | exact pat_div _ _ | exact pat_sqrt _ | exact pat_from _ | exact pat_rat _ _ | exact pat_qrt _ | exact pat_qrN _ _ | exact pat_0 | exact pat_1 | exact pat_h) _).mono ?_; rintro e wx ⟨rfl, hbx⟩; have HB : Below w.heap.size w wx := (by first | exact bel HB hbx | exact bel (bel_d _) hbx); obtain ⟨c0, c1, c2, d0, g0⟩ := HC.out wx HB))
  all_goals go_wp2
  all_goals go_ret
  all_goals exact ⟨rfl, HB⟩

end Go.Proofs.Ytnogokikiekcbab
