import Derived.Test.YtnogokikiekcbaaPart7
/- Package sched: fitsRow. -/
namespace Go.Proofs.Ytnogokikiekcbaa
open Go.RowKit
set_option linter.unusedVariables false
set_option linter.unusedSimpArgs false

/-- A schedule's own cells, in every world above. -/
theorem SA.cells {w : World} {b o : Nat} {t : Sc} (h : SA w b o t) : ∃ pn cn pi ci pk ck, ∀ v, Below w.heap.size w v →
    v.cell? ⟨b, o, none⟩ = some (.int .i64 t.op) ∧ v.cell? ⟨b, o + 1, none⟩ = some (.slice pn t.nums.length cn) ∧ v.cell? ⟨b, o + 2, none⟩ = some (.slice pi t.ints.length ci) ∧ v.cell? ⟨b, o + 3, none⟩ = some (.slice pk t.kids.length ck)
    ∧ Row v .u32 (.slice pn t.nums.length cn) t.nums ∧ Row v .i64 (.slice pi t.ints.length ci) t.ints := by
  obtain ⟨e0, ⟨v1, e1, r1⟩, ⟨v2, e2, r2⟩, v3, e3, pk, ck, rfl, r3⟩ := h
  obtain ⟨pn, cn, rfl, q1⟩ := r1
  obtain ⟨pi, ci, rfl, q2⟩ := r2
  have r1 : Row w .u32 (.slice pn t.nums.length cn) t.nums := ⟨pn, cn, rfl, q1⟩
  have r2 : Row w .i64 (.slice pi t.ints.length ci) t.ints := ⟨pi, ci, rfl, q2⟩
  exact ⟨pn, cn, pi, ci, pk, ck, fun v hv => ⟨bcell e0 hv, bcell e1 hv, bcell e2 hv, bcell e3 hv, r1.below hv, r2.below hv⟩⟩
theorem Row.get {w : World} {k : IntKind} {p : Option Addr} {n c : Nat} {l : List Int} (h : Row w k (.slice p n c) l) {i : Nat} (hi : i < l.length) : ∃ b o, p = some ⟨b, o, none⟩ ∧ w.cell? ⟨b, o + i, none⟩ = some (.int k l[i]) := by
  obtain ⟨p', c', e, h⟩ := h
  simp only [Value.slice.injEq] at e
  obtain ⟨rfl, -, rfl⟩ := e
  rcases h with h | ⟨b, o, e, h⟩
  · rw [h] at hi; exact absurd hi (Nat.not_lt_zero _)
  · exact ⟨b, o, e, h i hi⟩
/-- Patterns, whole numbers, lengths of one schedule. -/
def sz (t : Sc) : Prop := (∀ x ∈ t.nums, 0 ≤ x ∧ x < 4294967296) ∧ (∀ x ∈ t.ints, -9223372036854775808 ≤ x ∧ x ≤ 9223372036854775807) ∧ t.nums.length ≤ 35184372087808 ∧ t.ints.length ≤ 17592186043904 ∧ t.kids.length ≤ 17592186043904
theorem sok.sz {t : Sc} (h : sok t) : sz t := h.1.2

set_option maxRecDepth 100000 in
set_option maxHeartbeats 2000000 in
theorem has_any (t : Sc) (b o : Nat) (x y z : Nat) (hz : sz t) (w : World) (h : SA w b o t) :
    Calls Try.prog 76 #[.pointer (some ⟨b, o, none⟩), .int .i64 (x : Int), .int .i64 (y : Int), .int .i64 (z : Int)] w fun e w' => e = .returned (.bool (hasN t x y z)) ∧ Below w.heap.size w w' := by
  obtain ⟨pn, cn, pi, ci, pk, ck, hc⟩ := h.cells
  obtain ⟨c0, c1, c2, c3, r1, r2⟩ := hc w (bel0 w)
  have HW : Hid (Calls Try.prog 89 #[.slice pn t.nums.length cn, .func (.func 90) #[] #[]] w fun e w' => e = .returned (.bool (notFin t.nums)) ∧ Below w.heap.size w w') := contains_any t.nums _ hz.2.2.1 hz.1 w r1
  have hnf := notFin_all t.nums
  obtain ⟨F, hF⟩ : ∃ F, notFin t.nums = F := ⟨_, rfl⟩
  obtain ⟨n1, hn1⟩ : ∃ n, t.nums.length = n := ⟨_, rfl⟩
  obtain ⟨n2, hn2⟩ : ∃ n, t.ints.length = n := ⟨_, rfl⟩
  obtain ⟨n3, hn3⟩ : ∃ n, t.kids.length = n := ⟨_, rfl⟩
  have hfa : t.nums.all ffin = !F := by rw [← hF, hnf]; simp
  have HE : Hid (hasN t x y z = (n1 == x && n2 == y && n3 == z && !F)) := by show _ = _; unfold hasN; rw [hn1, hn2, hn3, hfa]
  rw [HE.out]
  rw [hF, hn1] at HW
  rw [hn1] at c1
  rw [hn2] at c2
  rw [hn3] at c3
  clear hc r1 r2 hnf hF hn1 hn2 hn3 hfa HE h hz c0
  by_cases h1 : n1 = x
  · have e1 : ((n1 : Int) == (x : Int)) = true := by simp [h1]
    by_cases h2 : n2 = y
    · have e2 : ((n2 : Int) == (y : Int)) = true := by simp [h2]
      by_cases h3 : n3 = z
      · have e3 : ((n3 : Int) == (z : Int)) = true := by simp [h3]
        have HX : Hid ((!F) = (n1 == x && n2 == y && n3 == z && !F)) := by show _ = _; simp [h1, h2, h3]
        rw [← HX.out]
        clear HX h1 h2 h3
        go_enter Try.func76, Try.ntmps76
        go_wp2_with (go_at_call 89; (with_reducible refine HW.out.mono ?_); rintro e w1 ⟨rfl, hb1⟩)
        go_ret
        exact ⟨rfl, hb1⟩
      · have e3 : ((n3 : Int) == (z : Int)) = false := by simp; omega
        have HX : Hid (false = (n1 == x && n2 == y && n3 == z && !F)) := by show _ = _; simp [h1, h2, h3]
        rw [← HX.out]
        clear HX h1 h2 h3
        go_enter Try.func76, Try.ntmps76
        go_wp2
        go_ret
        exact ⟨rfl, bel0 w⟩
    · have e2 : ((n2 : Int) == (y : Int)) = false := by simp; omega
      have HX : Hid (false = (n1 == x && n2 == y && n3 == z && !F)) := by show _ = _; simp [h1, h2]
      rw [← HX.out]
      clear HX h1 h2
      go_enter Try.func76, Try.ntmps76
      go_wp2
      go_ret
      exact ⟨rfl, bel0 w⟩
  · have e1 : ((n1 : Int) == (x : Int)) = false := by simp; omega
    have HX : Hid (false = (n1 == x && n2 == y && n3 == z && !F)) := by show _ = _; simp [h1]
    rw [← HX.out]
    clear HX h1
    go_enter Try.func76, Try.ntmps76
    go_wp2
    go_ret
    exact ⟨rfl, bel0 w⟩

theorem hasN_len {t : Sc} {x y z : Nat} (h : hasN t x y z = true) : t.nums.length = x ∧ t.ints.length = y ∧ t.kids.length = z := by
  unfold hasN at h
  simp only [Bool.and_eq_true, beq_iff_eq] at h
  exact ⟨h.1.1.1, h.1.1.2, h.1.2⟩
theorem list1 {l : List Int} (h : l.length = 1) : ∃ a, l = [a] := by
  match l, h with
  | [a], _ => exact ⟨a, rfl⟩
theorem list2 {l : List Int} (h : l.length = 2) : ∃ a b, l = [a, b] := by
  match l, h with
  | [a, b], _ => exact ⟨a, b, rfl⟩
theorem list3 {l : List Int} (h : l.length = 3) : ∃ a b c, l = [a, b, c] := by
  match l, h with
  | [a, b, c], _ => exact ⟨a, b, c, rfl⟩
/-- What package sched says of a row. -/
def FitC (t : Sc) (b o : Nat) (w : World) (r : Bool) : Prop := Calls Try.prog 64 #[.pointer (some ⟨b, o, none⟩)] w fun e w' => e = .returned (.bool r) ∧ Below w.heap.size w w'

set_option maxRecDepth 100000 in
set_option maxHeartbeats 1000000 in
theorem fits_1 (t : Sc) (ho : t.op = 1) (b o : Nat) (hz : sz t) (w : World) (h : SA w b o t) : FitC t b o w (hasN t 1 0 0) := by
  unfold FitC
  have HB : Below w.heap.size w w := bel0 w
  obtain ⟨pn, cn, pi, ci, pk, ck, hc⟩ := h.cells
  obtain ⟨c0, -⟩ := hc w HB
  have HH : Hid (∀ v, Below w.heap.size w v → Calls Try.prog 76 #[.pointer (some ⟨b, o, none⟩), .int .i64 1, .int .i64 0, .int .i64 0] v fun e w' => e = .returned (.bool (hasN t 1 0 0)) ∧ Below v.heap.size v w') := fun v hv => has_any t b o 1 0 0 hz v (h.below hv)
  obtain ⟨R, hR⟩ : ∃ R, hasN t 1 0 0 = R := ⟨_, rfl⟩
  rw [hR] at HH ⊢
  rw [ho] at c0
  clear hc h hR
  go_enter Try.func64, Try.ntmps64
  go_wp2_with ((go_at_call 76; (with_reducible refine (HH.out _ HB).mono ?_); rintro e wx ⟨rfl, hbx⟩; have HB : Below w.heap.size w wx := bel HB hbx))
  go_ret
  exact ⟨rfl, HB⟩

set_option maxRecDepth 100000 in
set_option maxHeartbeats 1000000 in
theorem fits_8 (t : Sc) (ho : t.op = 8) (b o : Nat) (hz : sz t) (w : World) (h : SA w b o t) : FitC t b o w (hasN t 0 0 2) := by
  unfold FitC
  have HB : Below w.heap.size w w := bel0 w
  obtain ⟨pn, cn, pi, ci, pk, ck, hc⟩ := h.cells
  obtain ⟨c0, -⟩ := hc w HB
  have HH : Hid (∀ v, Below w.heap.size w v → Calls Try.prog 76 #[.pointer (some ⟨b, o, none⟩), .int .i64 0, .int .i64 0, .int .i64 2] v fun e w' => e = .returned (.bool (hasN t 0 0 2)) ∧ Below v.heap.size v w') := fun v hv => has_any t b o 0 0 2 hz v (h.below hv)
  obtain ⟨R, hR⟩ : ∃ R, hasN t 0 0 2 = R := ⟨_, rfl⟩
  rw [hR] at HH ⊢
  rw [ho] at c0
  clear hc h hR
  go_enter Try.func64, Try.ntmps64
  go_wp2_with ((go_at_call 76; (with_reducible refine (HH.out _ HB).mono ?_); rintro e wx ⟨rfl, hbx⟩; have HB : Below w.heap.size w wx := bel HB hbx))
  go_ret
  exact ⟨rfl, HB⟩

set_option maxRecDepth 100000 in
set_option maxHeartbeats 1000000 in
theorem fits_9 (t : Sc) (ho : t.op = 9) (b o : Nat) (hz : sz t) (w : World) (h : SA w b o t) : FitC t b o w (hasN t 0 0 2) := by
  unfold FitC
  have HB : Below w.heap.size w w := bel0 w
  obtain ⟨pn, cn, pi, ci, pk, ck, hc⟩ := h.cells
  obtain ⟨c0, -⟩ := hc w HB
  have HH : Hid (∀ v, Below w.heap.size w v → Calls Try.prog 76 #[.pointer (some ⟨b, o, none⟩), .int .i64 0, .int .i64 0, .int .i64 2] v fun e w' => e = .returned (.bool (hasN t 0 0 2)) ∧ Below v.heap.size v w') := fun v hv => has_any t b o 0 0 2 hz v (h.below hv)
  obtain ⟨R, hR⟩ : ∃ R, hasN t 0 0 2 = R := ⟨_, rfl⟩
  rw [hR] at HH ⊢
  rw [ho] at c0
  clear hc h hR
  go_enter Try.func64, Try.ntmps64
  go_wp2_with ((go_at_call 76; (with_reducible refine (HH.out _ HB).mono ?_); rintro e wx ⟨rfl, hbx⟩; have HB : Below w.heap.size w wx := bel HB hbx))
  go_ret
  exact ⟨rfl, HB⟩

set_option maxRecDepth 100000 in
set_option maxHeartbeats 1000000 in
theorem fits_10 (t : Sc) (ho : t.op = 10) (b o : Nat) (hz : sz t) (w : World) (h : SA w b o t) : FitC t b o w (hasN t 0 0 2) := by
  unfold FitC
  have HB : Below w.heap.size w w := bel0 w
  obtain ⟨pn, cn, pi, ci, pk, ck, hc⟩ := h.cells
  obtain ⟨c0, -⟩ := hc w HB
  have HH : Hid (∀ v, Below w.heap.size w v → Calls Try.prog 76 #[.pointer (some ⟨b, o, none⟩), .int .i64 0, .int .i64 0, .int .i64 2] v fun e w' => e = .returned (.bool (hasN t 0 0 2)) ∧ Below v.heap.size v w') := fun v hv => has_any t b o 0 0 2 hz v (h.below hv)
  obtain ⟨R, hR⟩ : ∃ R, hasN t 0 0 2 = R := ⟨_, rfl⟩
  rw [hR] at HH ⊢
  rw [ho] at c0
  clear hc h hR
  go_enter Try.func64, Try.ntmps64
  go_wp2_with ((go_at_call 76; (with_reducible refine (HH.out _ HB).mono ?_); rintro e wx ⟨rfl, hbx⟩; have HB : Below w.heap.size w wx := bel HB hbx))
  go_ret
  exact ⟨rfl, HB⟩

set_option maxRecDepth 100000 in
set_option maxHeartbeats 1000000 in
theorem fits_11 (t : Sc) (ho : t.op = 11) (b o : Nat) (hz : sz t) (w : World) (h : SA w b o t) : FitC t b o w (hasN t 0 0 2) := by
  unfold FitC
  have HB : Below w.heap.size w w := bel0 w
  obtain ⟨pn, cn, pi, ci, pk, ck, hc⟩ := h.cells
  obtain ⟨c0, -⟩ := hc w HB
  have HH : Hid (∀ v, Below w.heap.size w v → Calls Try.prog 76 #[.pointer (some ⟨b, o, none⟩), .int .i64 0, .int .i64 0, .int .i64 2] v fun e w' => e = .returned (.bool (hasN t 0 0 2)) ∧ Below v.heap.size v w') := fun v hv => has_any t b o 0 0 2 hz v (h.below hv)
  obtain ⟨R, hR⟩ : ∃ R, hasN t 0 0 2 = R := ⟨_, rfl⟩
  rw [hR] at HH ⊢
  rw [ho] at c0
  clear hc h hR
  go_enter Try.func64, Try.ntmps64
  go_wp2_with ((go_at_call 76; (with_reducible refine (HH.out _ HB).mono ?_); rintro e wx ⟨rfl, hbx⟩; have HB : Below w.heap.size w wx := bel HB hbx))
  go_ret
  exact ⟨rfl, HB⟩

set_option maxRecDepth 100000 in
set_option maxHeartbeats 2000000 in
theorem fits_2 (t : Sc) (ho : t.op = 2) (b o : Nat) (hz : sz t) (w : World) (h : SA w b o t) : FitC t b o w (hasN t 2 3 0 && isPow (t.ints.getD 0 0) && isStp (t.ints.getD 1 0) && isCnt (t.ints.getD 2 0)) := by
  unfold FitC
  have HB : Below w.heap.size w w := bel0 w
  obtain ⟨pn, cn, pi, ci, pk, ck, hc⟩ := h.cells
  have HH : Hid (∀ v, Below w.heap.size w v → Calls Try.prog 76 #[.pointer (some ⟨b, o, none⟩), .int .i64 2, .int .i64 3, .int .i64 0] v fun e w' => e = .returned (.bool (hasN t 2 3 0)) ∧ Below v.heap.size v w') := fun v hv => has_any t b o 2 3 0 hz v (h.below hv)
  cases hR : hasN t 2 3 0
  · rw [hR] at HH
    obtain ⟨c0, -⟩ := hc w HB
    rw [ho] at c0
    simp only [Bool.false_and]
    clear hc h hR
    go_enter Try.func64, Try.ntmps64
    go_wp2_with ((go_at_call 76; (with_reducible refine (HH.out _ HB).mono ?_); rintro e wx ⟨rfl, hbx⟩; have HB : Below w.heap.size w wx := bel HB hbx))
    go_ret
    exact ⟨rfl, HB⟩
  · rw [hR] at HH
    obtain ⟨l1, l2, l3⟩ := hasN_len hR
    obtain ⟨op, ns, is, ks⟩ := t
    simp only at ho l1 l2 l3 hc
    obtain ⟨n0, n1, rfl⟩ := list2 l1
    obtain ⟨i0, i1, i2, rfl⟩ := list3 l2
    subst ho
    have hpat : ∀ x ∈ [n0, n1], Pat x := fun x hx => hz.1 x hx
    have HC : Hid (∀ v, Below w.heap.size w v → v.cell? ⟨b, o, none⟩ = some (.int .i64 2) ∧ ∃ b1 o1 c1 b2 o2 c2, v.cell? ⟨b, o + 1, none⟩ = some (.slice (some ⟨b1, o1, none⟩) 2 c1) ∧ v.cell? ⟨b, o + 2, none⟩ = some (.slice (some ⟨b2, o2, none⟩) 3 c2) ∧ v.cell? ⟨b1, o1, none⟩ = some (.int .u32 n0) ∧ v.cell? ⟨b1, o1 + 1, none⟩ = some (.int .u32 n1) ∧ v.cell? ⟨b2, o2, none⟩ = some (.int .i64 i0) ∧ v.cell? ⟨b2, o2 + 1, none⟩ = some (.int .i64 i1) ∧ v.cell? ⟨b2, o2 + 2, none⟩ = some (.int .i64 i2)) := fun v hv => by
      obtain ⟨e0, e1, e2, e3, r1, r2⟩ := hc v hv
      obtain ⟨b1, o1, rfl, -⟩ := r1.get (i := 0) (by simp)
      obtain ⟨b2, o2, rfl, -⟩ := r2.get (i := 0) (by simp)
      refine ⟨e0, b1, o1, cn, b2, o2, ci, e1, e2, ?_, ?_, ?_, ?_, ?_⟩
      · obtain ⟨b', o', e, h'⟩ := r1.get (i := 0) (by simp)
        simp only [Option.some.injEq, Addr.mk.injEq] at e
        obtain ⟨rfl, rfl, -⟩ := e
        exact h'
      · obtain ⟨b', o', e, h'⟩ := r1.get (i := 1) (by simp)
        simp only [Option.some.injEq, Addr.mk.injEq] at e
        obtain ⟨rfl, rfl, -⟩ := e
        exact h'
      · obtain ⟨b', o', e, h'⟩ := r2.get (i := 0) (by simp)
        simp only [Option.some.injEq, Addr.mk.injEq] at e
        obtain ⟨rfl, rfl, -⟩ := e
        exact h'
      · obtain ⟨b', o', e, h'⟩ := r2.get (i := 1) (by simp)
        simp only [Option.some.injEq, Addr.mk.injEq] at e
        obtain ⟨rfl, rfl, -⟩ := e
        exact h'
      · obtain ⟨b', o', e, h'⟩ := r2.get (i := 2) (by simp)
        simp only [Option.some.injEq, Addr.mk.injEq] at e
        obtain ⟨rfl, rfl, -⟩ := e
        exact h'
    simp only [List.getD_cons_zero, List.getD_cons_succ, Bool.true_and]
    have pn0 : Pat n0 := hpat _ (by simp)
    have pn1 : Pat n1 := hpat _ (by simp)
    obtain ⟨c0, b1, o1, k1, b2, o2, k2, c1, c2, d0, d1, g0, g1, g2⟩ := HC.out w HB
    clear hc h hR hpat l1 l2 l3 hz HC
    cases q3 : isPow i0
    · simp only [Bool.true_and, Bool.false_and]
      go_enter Try.func64, Try.ntmps64
      go_wp2_with (first
    | (go_at_call 76; (with_reducible refine (HH.out _ HB).mono ?_); rintro e wx ⟨rfl, hbx⟩; have HB : Below w.heap.size w wx := bel HB hbx; have c0 := bcell c0 hbx; have c1 := bcell c1 hbx; have c2 := bcell c2 hbx; have d0 := bcell d0 hbx; have d1 := bcell d1 hbx; have g0 := bcell g0 hbx; have g1 := bcell g1 hbx; have g2 := bcell g2 hbx)
    | (go_at_call 28; (with_reducible refine (isCount_any _ _).mono ?_); rintro e wx ⟨rfl, hbx⟩; have HB : Below w.heap.size w wx := bel HB hbx; have c0 := bcell c0 hbx; have c1 := bcell c1 hbx; have c2 := bcell c2 hbx; have d0 := bcell d0 hbx; have d1 := bcell d1 hbx; have g0 := bcell g0 hbx; have g1 := bcell g1 hbx; have g2 := bcell g2 hbx)
    | (go_at_call 77; (with_reducible refine (isPower_any _ _).mono ?_); rintro e wx ⟨rfl, hbx⟩; have HB : Below w.heap.size w wx := bel HB hbx; have c0 := bcell c0 hbx; have c1 := bcell c1 hbx; have c2 := bcell c2 hbx; have d0 := bcell d0 hbx; have d1 := bcell d1 hbx; have g0 := bcell g0 hbx; have g1 := bcell g1 hbx; have g2 := bcell g2 hbx)
    | (go_at_call 78; (with_reducible refine (isSteps_any _ _).mono ?_); rintro e wx ⟨rfl, hbx⟩; have HB : Below w.heap.size w wx := bel HB hbx; have c0 := bcell c0 hbx; have c1 := bcell c1 hbx; have c2 := bcell c2 hbx; have d0 := bcell d0 hbx; have d1 := bcell d1 hbx; have g0 := bcell g0 hbx; have g1 := bcell g1 hbx; have g2 := bcell g2 hbx))
      go_ret
      exact ⟨rfl, HB⟩
    · cases q2 : isStp i1
      · simp only [Bool.true_and, Bool.false_and]
        go_enter Try.func64, Try.ntmps64
        go_wp2_with (first
    | (go_at_call 76; (with_reducible refine (HH.out _ HB).mono ?_); rintro e wx ⟨rfl, hbx⟩; have HB : Below w.heap.size w wx := bel HB hbx; have c0 := bcell c0 hbx; have c1 := bcell c1 hbx; have c2 := bcell c2 hbx; have d0 := bcell d0 hbx; have d1 := bcell d1 hbx; have g0 := bcell g0 hbx; have g1 := bcell g1 hbx; have g2 := bcell g2 hbx)
    | (go_at_call 28; (with_reducible refine (isCount_any _ _).mono ?_); rintro e wx ⟨rfl, hbx⟩; have HB : Below w.heap.size w wx := bel HB hbx; have c0 := bcell c0 hbx; have c1 := bcell c1 hbx; have c2 := bcell c2 hbx; have d0 := bcell d0 hbx; have d1 := bcell d1 hbx; have g0 := bcell g0 hbx; have g1 := bcell g1 hbx; have g2 := bcell g2 hbx)
    | (go_at_call 77; (with_reducible refine (isPower_any _ _).mono ?_); rintro e wx ⟨rfl, hbx⟩; have HB : Below w.heap.size w wx := bel HB hbx; have c0 := bcell c0 hbx; have c1 := bcell c1 hbx; have c2 := bcell c2 hbx; have d0 := bcell d0 hbx; have d1 := bcell d1 hbx; have g0 := bcell g0 hbx; have g1 := bcell g1 hbx; have g2 := bcell g2 hbx)
    | (go_at_call 78; (with_reducible refine (isSteps_any _ _).mono ?_); rintro e wx ⟨rfl, hbx⟩; have HB : Below w.heap.size w wx := bel HB hbx; have c0 := bcell c0 hbx; have c1 := bcell c1 hbx; have c2 := bcell c2 hbx; have d0 := bcell d0 hbx; have d1 := bcell d1 hbx; have g0 := bcell g0 hbx; have g1 := bcell g1 hbx; have g2 := bcell g2 hbx))
        go_ret
        exact ⟨rfl, HB⟩
      · try simp only [Bool.true_and, Bool.and_true]
        go_enter Try.func64, Try.ntmps64
        go_wp2_with (first
    | (go_at_call 76; (with_reducible refine (HH.out _ HB).mono ?_); rintro e wx ⟨rfl, hbx⟩; have HB : Below w.heap.size w wx := bel HB hbx; have c0 := bcell c0 hbx; have c1 := bcell c1 hbx; have c2 := bcell c2 hbx; have d0 := bcell d0 hbx; have d1 := bcell d1 hbx; have g0 := bcell g0 hbx; have g1 := bcell g1 hbx; have g2 := bcell g2 hbx)
    | (go_at_call 28; (with_reducible refine (isCount_any _ _).mono ?_); rintro e wx ⟨rfl, hbx⟩; have HB : Below w.heap.size w wx := bel HB hbx; have c0 := bcell c0 hbx; have c1 := bcell c1 hbx; have c2 := bcell c2 hbx; have d0 := bcell d0 hbx; have d1 := bcell d1 hbx; have g0 := bcell g0 hbx; have g1 := bcell g1 hbx; have g2 := bcell g2 hbx)
    | (go_at_call 77; (with_reducible refine (isPower_any _ _).mono ?_); rintro e wx ⟨rfl, hbx⟩; have HB : Below w.heap.size w wx := bel HB hbx; have c0 := bcell c0 hbx; have c1 := bcell c1 hbx; have c2 := bcell c2 hbx; have d0 := bcell d0 hbx; have d1 := bcell d1 hbx; have g0 := bcell g0 hbx; have g1 := bcell g1 hbx; have g2 := bcell g2 hbx)
    | (go_at_call 78; (with_reducible refine (isSteps_any _ _).mono ?_); rintro e wx ⟨rfl, hbx⟩; have HB : Below w.heap.size w wx := bel HB hbx; have c0 := bcell c0 hbx; have c1 := bcell c1 hbx; have c2 := bcell c2 hbx; have d0 := bcell d0 hbx; have d1 := bcell d1 hbx; have g0 := bcell g0 hbx; have g1 := bcell g1 hbx; have g2 := bcell g2 hbx))
        go_ret
        exact ⟨rfl, HB⟩

set_option maxRecDepth 100000 in
set_option maxHeartbeats 2000000 in
theorem fits_3 (t : Sc) (ho : t.op = 3) (b o : Nat) (hz : sz t) (w : World) (h : SA w b o t) : FitC t b o w (hasN t 2 2 0 && fless 0 (t.nums.getD 1 0) && isStp (t.ints.getD 0 0) && isCnt (t.ints.getD 1 0)) := by
  unfold FitC
  have HB : Below w.heap.size w w := bel0 w
  obtain ⟨pn, cn, pi, ci, pk, ck, hc⟩ := h.cells
  have HH : Hid (∀ v, Below w.heap.size w v → Calls Try.prog 76 #[.pointer (some ⟨b, o, none⟩), .int .i64 2, .int .i64 2, .int .i64 0] v fun e w' => e = .returned (.bool (hasN t 2 2 0)) ∧ Below v.heap.size v w') := fun v hv => has_any t b o 2 2 0 hz v (h.below hv)
  cases hR : hasN t 2 2 0
  · rw [hR] at HH
    obtain ⟨c0, -⟩ := hc w HB
    rw [ho] at c0
    simp only [Bool.false_and]
    clear hc h hR
    go_enter Try.func64, Try.ntmps64
    go_wp2_with ((go_at_call 76; (with_reducible refine (HH.out _ HB).mono ?_); rintro e wx ⟨rfl, hbx⟩; have HB : Below w.heap.size w wx := bel HB hbx))
    go_ret
    exact ⟨rfl, HB⟩
  · rw [hR] at HH
    obtain ⟨l1, l2, l3⟩ := hasN_len hR
    obtain ⟨op, ns, is, ks⟩ := t
    simp only at ho l1 l2 l3 hc
    obtain ⟨n0, n1, rfl⟩ := list2 l1
    obtain ⟨i0, i1, rfl⟩ := list2 l2
    subst ho
    have hpat : ∀ x ∈ [n0, n1], Pat x := fun x hx => hz.1 x hx
    have HC : Hid (∀ v, Below w.heap.size w v → v.cell? ⟨b, o, none⟩ = some (.int .i64 3) ∧ ∃ b1 o1 c1 b2 o2 c2, v.cell? ⟨b, o + 1, none⟩ = some (.slice (some ⟨b1, o1, none⟩) 2 c1) ∧ v.cell? ⟨b, o + 2, none⟩ = some (.slice (some ⟨b2, o2, none⟩) 2 c2) ∧ v.cell? ⟨b1, o1, none⟩ = some (.int .u32 n0) ∧ v.cell? ⟨b1, o1 + 1, none⟩ = some (.int .u32 n1) ∧ v.cell? ⟨b2, o2, none⟩ = some (.int .i64 i0) ∧ v.cell? ⟨b2, o2 + 1, none⟩ = some (.int .i64 i1)) := fun v hv => by
      obtain ⟨e0, e1, e2, e3, r1, r2⟩ := hc v hv
      obtain ⟨b1, o1, rfl, -⟩ := r1.get (i := 0) (by simp)
      obtain ⟨b2, o2, rfl, -⟩ := r2.get (i := 0) (by simp)
      refine ⟨e0, b1, o1, cn, b2, o2, ci, e1, e2, ?_, ?_, ?_, ?_⟩
      · obtain ⟨b', o', e, h'⟩ := r1.get (i := 0) (by simp)
        simp only [Option.some.injEq, Addr.mk.injEq] at e
        obtain ⟨rfl, rfl, -⟩ := e
        exact h'
      · obtain ⟨b', o', e, h'⟩ := r1.get (i := 1) (by simp)
        simp only [Option.some.injEq, Addr.mk.injEq] at e
        obtain ⟨rfl, rfl, -⟩ := e
        exact h'
      · obtain ⟨b', o', e, h'⟩ := r2.get (i := 0) (by simp)
        simp only [Option.some.injEq, Addr.mk.injEq] at e
        obtain ⟨rfl, rfl, -⟩ := e
        exact h'
      · obtain ⟨b', o', e, h'⟩ := r2.get (i := 1) (by simp)
        simp only [Option.some.injEq, Addr.mk.injEq] at e
        obtain ⟨rfl, rfl, -⟩ := e
        exact h'
    simp only [List.getD_cons_zero, List.getD_cons_succ, Bool.true_and]
    have pn0 : Pat n0 := hpat _ (by simp)
    have pn1 : Pat n1 := hpat _ (by simp)
    obtain ⟨c0, b1, o1, k1, b2, o2, k2, c1, c2, d0, d1, g0, g1⟩ := HC.out w HB
    clear hc h hR hpat l1 l2 l3 hz HC
    cases q3 : fless 0 n1
    · simp only [Bool.true_and, Bool.false_and]
      go_enter Try.func64, Try.ntmps64
      go_wp2_with (first
    | (go_at_call 76; (with_reducible refine (HH.out _ HB).mono ?_); rintro e wx ⟨rfl, hbx⟩; have HB : Below w.heap.size w wx := bel HB hbx; have c0 := bcell c0 hbx; have c1 := bcell c1 hbx; have c2 := bcell c2 hbx; have d0 := bcell d0 hbx; have d1 := bcell d1 hbx; have g0 := bcell g0 hbx; have g1 := bcell g1 hbx)
    | (go_at_call 28; (with_reducible refine (isCount_any _ _).mono ?_); rintro e wx ⟨rfl, hbx⟩; have HB : Below w.heap.size w wx := bel HB hbx; have c0 := bcell c0 hbx; have c1 := bcell c1 hbx; have c2 := bcell c2 hbx; have d0 := bcell d0 hbx; have d1 := bcell d1 hbx; have g0 := bcell g0 hbx; have g1 := bcell g1 hbx)
    | (go_at_call 78; (with_reducible refine (isSteps_any _ _).mono ?_); rintro e wx ⟨rfl, hbx⟩; have HB : Below w.heap.size w wx := bel HB hbx; have c0 := bcell c0 hbx; have c1 := bcell c1 hbx; have c2 := bcell c2 hbx; have d0 := bcell d0 hbx; have d1 := bcell d1 hbx; have g0 := bcell g0 hbx; have g1 := bcell g1 hbx)
    | (go_at_call 36; refine (f_less (by with_reducible first | assumption | exact pat_add _ _ | exact pat_sub _ _ | exact pat_mul _ _ | exact pat_div _ _ | exact pat_sqrt _ | exact pat_from _ | exact pat_rat _ _ | exact pat_qrt _ | exact pat_qrN _ _ | exact pat_0 | exact pat_1 | exact pat_h) (by with_reducible first | assumption | exact pat_add _ _ | exact pat_sub _ _ | exact pat_mul _ _ | exact pat_div _ _ | exact pat_sqrt _ | exact pat_from _ | exact pat_rat _ _ | exact pat_qrt _ | exact pat_qrN _ _ | exact pat_0 | exact pat_1 | exact pat_h) _).mono ?_; rintro e wx ⟨rfl, hbx⟩; have HB : Below w.heap.size w wx := (by first | exact bel HB hbx | exact bel (by go_grown) hbx); have c0 := bcell c0 hbx; have c1 := bcell c1 hbx; have c2 := bcell c2 hbx; have d0 := bcell d0 hbx; have d1 := bcell d1 hbx; have g0 := bcell g0 hbx; have g1 := bcell g1 hbx))
      go_ret
      exact ⟨rfl, HB⟩
    · cases q2 : isStp i0
      · simp only [Bool.true_and, Bool.false_and]
        go_enter Try.func64, Try.ntmps64
        go_wp2_with (first
    | (go_at_call 76; (with_reducible refine (HH.out _ HB).mono ?_); rintro e wx ⟨rfl, hbx⟩; have HB : Below w.heap.size w wx := bel HB hbx; have c0 := bcell c0 hbx; have c1 := bcell c1 hbx; have c2 := bcell c2 hbx; have d0 := bcell d0 hbx; have d1 := bcell d1 hbx; have g0 := bcell g0 hbx; have g1 := bcell g1 hbx)
    | (go_at_call 28; (with_reducible refine (isCount_any _ _).mono ?_); rintro e wx ⟨rfl, hbx⟩; have HB : Below w.heap.size w wx := bel HB hbx; have c0 := bcell c0 hbx; have c1 := bcell c1 hbx; have c2 := bcell c2 hbx; have d0 := bcell d0 hbx; have d1 := bcell d1 hbx; have g0 := bcell g0 hbx; have g1 := bcell g1 hbx)
    | (go_at_call 78; (with_reducible refine (isSteps_any _ _).mono ?_); rintro e wx ⟨rfl, hbx⟩; have HB : Below w.heap.size w wx := bel HB hbx; have c0 := bcell c0 hbx; have c1 := bcell c1 hbx; have c2 := bcell c2 hbx; have d0 := bcell d0 hbx; have d1 := bcell d1 hbx; have g0 := bcell g0 hbx; have g1 := bcell g1 hbx)
    | (go_at_call 36; refine (f_less (by with_reducible first | assumption | exact pat_add _ _ | exact pat_sub _ _ | exact pat_mul _ _ | exact pat_div _ _ | exact pat_sqrt _ | exact pat_from _ | exact pat_rat _ _ | exact pat_qrt _ | exact pat_qrN _ _ | exact pat_0 | exact pat_1 | exact pat_h) (by with_reducible first | assumption | exact pat_add _ _ | exact pat_sub _ _ | exact pat_mul _ _ | exact pat_div _ _ | exact pat_sqrt _ | exact pat_from _ | exact pat_rat _ _ | exact pat_qrt _ | exact pat_qrN _ _ | exact pat_0 | exact pat_1 | exact pat_h) _).mono ?_; rintro e wx ⟨rfl, hbx⟩; have HB : Below w.heap.size w wx := (by first | exact bel HB hbx | exact bel (by go_grown) hbx); have c0 := bcell c0 hbx; have c1 := bcell c1 hbx; have c2 := bcell c2 hbx; have d0 := bcell d0 hbx; have d1 := bcell d1 hbx; have g0 := bcell g0 hbx; have g1 := bcell g1 hbx))
        go_ret
        exact ⟨rfl, HB⟩
      · try simp only [Bool.true_and, Bool.and_true]
        go_enter Try.func64, Try.ntmps64
        go_wp2_with (first
    | (go_at_call 76; (with_reducible refine (HH.out _ HB).mono ?_); rintro e wx ⟨rfl, hbx⟩; have HB : Below w.heap.size w wx := bel HB hbx; have c0 := bcell c0 hbx; have c1 := bcell c1 hbx; have c2 := bcell c2 hbx; have d0 := bcell d0 hbx; have d1 := bcell d1 hbx; have g0 := bcell g0 hbx; have g1 := bcell g1 hbx)
    | (go_at_call 28; (with_reducible refine (isCount_any _ _).mono ?_); rintro e wx ⟨rfl, hbx⟩; have HB : Below w.heap.size w wx := bel HB hbx; have c0 := bcell c0 hbx; have c1 := bcell c1 hbx; have c2 := bcell c2 hbx; have d0 := bcell d0 hbx; have d1 := bcell d1 hbx; have g0 := bcell g0 hbx; have g1 := bcell g1 hbx)
    | (go_at_call 78; (with_reducible refine (isSteps_any _ _).mono ?_); rintro e wx ⟨rfl, hbx⟩; have HB : Below w.heap.size w wx := bel HB hbx; have c0 := bcell c0 hbx; have c1 := bcell c1 hbx; have c2 := bcell c2 hbx; have d0 := bcell d0 hbx; have d1 := bcell d1 hbx; have g0 := bcell g0 hbx; have g1 := bcell g1 hbx)
    | (go_at_call 36; refine (f_less (by with_reducible first | assumption | exact pat_add _ _ | exact pat_sub _ _ | exact pat_mul _ _ | exact pat_div _ _ | exact pat_sqrt _ | exact pat_from _ | exact pat_rat _ _ | exact pat_qrt _ | exact pat_qrN _ _ | exact pat_0 | exact pat_1 | exact pat_h) (by with_reducible first | assumption | exact pat_add _ _ | exact pat_sub _ _ | exact pat_mul _ _ | exact pat_div _ _ | exact pat_sqrt _ | exact pat_from _ | exact pat_rat _ _ | exact pat_qrt _ | exact pat_qrN _ _ | exact pat_0 | exact pat_1 | exact pat_h) _).mono ?_; rintro e wx ⟨rfl, hbx⟩; have HB : Below w.heap.size w wx := (by first | exact bel HB hbx | exact bel (by go_grown) hbx); have c0 := bcell c0 hbx; have c1 := bcell c1 hbx; have c2 := bcell c2 hbx; have d0 := bcell d0 hbx; have d1 := bcell d1 hbx; have g0 := bcell g0 hbx; have g1 := bcell g1 hbx))
        go_ret
        exact ⟨rfl, HB⟩

set_option maxRecDepth 100000 in
set_option maxHeartbeats 2000000 in
theorem fits_4 (t : Sc) (ho : t.op = 4) (b o : Nat) (hz : sz t) (w : World) (h : SA w b o t) : FitC t b o w (hasN t 2 1 0 && isStp (t.ints.getD 0 0)) := by
  unfold FitC
  have HB : Below w.heap.size w w := bel0 w
  obtain ⟨pn, cn, pi, ci, pk, ck, hc⟩ := h.cells
  have HH : Hid (∀ v, Below w.heap.size w v → Calls Try.prog 76 #[.pointer (some ⟨b, o, none⟩), .int .i64 2, .int .i64 1, .int .i64 0] v fun e w' => e = .returned (.bool (hasN t 2 1 0)) ∧ Below v.heap.size v w') := fun v hv => has_any t b o 2 1 0 hz v (h.below hv)
  cases hR : hasN t 2 1 0
  · rw [hR] at HH
    obtain ⟨c0, -⟩ := hc w HB
    rw [ho] at c0
    simp only [Bool.false_and]
    clear hc h hR
    go_enter Try.func64, Try.ntmps64
    go_wp2_with ((go_at_call 76; (with_reducible refine (HH.out _ HB).mono ?_); rintro e wx ⟨rfl, hbx⟩; have HB : Below w.heap.size w wx := bel HB hbx))
    go_ret
    exact ⟨rfl, HB⟩
  · rw [hR] at HH
    obtain ⟨l1, l2, l3⟩ := hasN_len hR
    obtain ⟨op, ns, is, ks⟩ := t
    simp only at ho l1 l2 l3 hc
    obtain ⟨n0, n1, rfl⟩ := list2 l1
    obtain ⟨i0, rfl⟩ := list1 l2
    subst ho
    have hpat : ∀ x ∈ [n0, n1], Pat x := fun x hx => hz.1 x hx
    have HC : Hid (∀ v, Below w.heap.size w v → v.cell? ⟨b, o, none⟩ = some (.int .i64 4) ∧ ∃ b1 o1 c1 b2 o2 c2, v.cell? ⟨b, o + 1, none⟩ = some (.slice (some ⟨b1, o1, none⟩) 2 c1) ∧ v.cell? ⟨b, o + 2, none⟩ = some (.slice (some ⟨b2, o2, none⟩) 1 c2) ∧ v.cell? ⟨b1, o1, none⟩ = some (.int .u32 n0) ∧ v.cell? ⟨b1, o1 + 1, none⟩ = some (.int .u32 n1) ∧ v.cell? ⟨b2, o2, none⟩ = some (.int .i64 i0)) := fun v hv => by
      obtain ⟨e0, e1, e2, e3, r1, r2⟩ := hc v hv
      obtain ⟨b1, o1, rfl, -⟩ := r1.get (i := 0) (by simp)
      obtain ⟨b2, o2, rfl, -⟩ := r2.get (i := 0) (by simp)
      refine ⟨e0, b1, o1, cn, b2, o2, ci, e1, e2, ?_, ?_, ?_⟩
      · obtain ⟨b', o', e, h'⟩ := r1.get (i := 0) (by simp)
        simp only [Option.some.injEq, Addr.mk.injEq] at e
        obtain ⟨rfl, rfl, -⟩ := e
        exact h'
      · obtain ⟨b', o', e, h'⟩ := r1.get (i := 1) (by simp)
        simp only [Option.some.injEq, Addr.mk.injEq] at e
        obtain ⟨rfl, rfl, -⟩ := e
        exact h'
      · obtain ⟨b', o', e, h'⟩ := r2.get (i := 0) (by simp)
        simp only [Option.some.injEq, Addr.mk.injEq] at e
        obtain ⟨rfl, rfl, -⟩ := e
        exact h'
    simp only [List.getD_cons_zero, List.getD_cons_succ, Bool.true_and]
    have pn0 : Pat n0 := hpat _ (by simp)
    have pn1 : Pat n1 := hpat _ (by simp)
    obtain ⟨c0, b1, o1, k1, b2, o2, k2, c1, c2, d0, d1, g0⟩ := HC.out w HB
    clear hc h hR hpat l1 l2 l3 hz HC
    try simp only [Bool.true_and, Bool.and_true]
    go_enter Try.func64, Try.ntmps64
    go_wp2_with (first
    | (go_at_call 76; (with_reducible refine (HH.out _ HB).mono ?_); rintro e wx ⟨rfl, hbx⟩; have HB : Below w.heap.size w wx := bel HB hbx; have c0 := bcell c0 hbx; have c1 := bcell c1 hbx; have c2 := bcell c2 hbx; have d0 := bcell d0 hbx; have d1 := bcell d1 hbx; have g0 := bcell g0 hbx)
    | (go_at_call 78; (with_reducible refine (isSteps_any _ _).mono ?_); rintro e wx ⟨rfl, hbx⟩; have HB : Below w.heap.size w wx := bel HB hbx; have c0 := bcell c0 hbx; have c1 := bcell c1 hbx; have c2 := bcell c2 hbx; have d0 := bcell d0 hbx; have d1 := bcell d1 hbx; have g0 := bcell g0 hbx))
    go_ret
    exact ⟨rfl, HB⟩

set_option maxRecDepth 100000 in
set_option maxHeartbeats 2000000 in
theorem fits_7 (t : Sc) (ho : t.op = 7) (b o : Nat) (hz : sz t) (w : World) (h : SA w b o t) : FitC t b o w (hasN t 1 1 0 && isStp (t.ints.getD 0 0)) := by
  unfold FitC
  have HB : Below w.heap.size w w := bel0 w
  obtain ⟨pn, cn, pi, ci, pk, ck, hc⟩ := h.cells
  have HH : Hid (∀ v, Below w.heap.size w v → Calls Try.prog 76 #[.pointer (some ⟨b, o, none⟩), .int .i64 1, .int .i64 1, .int .i64 0] v fun e w' => e = .returned (.bool (hasN t 1 1 0)) ∧ Below v.heap.size v w') := fun v hv => has_any t b o 1 1 0 hz v (h.below hv)
  cases hR : hasN t 1 1 0
  · rw [hR] at HH
    obtain ⟨c0, -⟩ := hc w HB
    rw [ho] at c0
    simp only [Bool.false_and]
    clear hc h hR
    go_enter Try.func64, Try.ntmps64
    go_wp2_with ((go_at_call 76; (with_reducible refine (HH.out _ HB).mono ?_); rintro e wx ⟨rfl, hbx⟩; have HB : Below w.heap.size w wx := bel HB hbx))
    go_ret
    exact ⟨rfl, HB⟩
  · rw [hR] at HH
    obtain ⟨l1, l2, l3⟩ := hasN_len hR
    obtain ⟨op, ns, is, ks⟩ := t
    simp only at ho l1 l2 l3 hc
    obtain ⟨n0, rfl⟩ := list1 l1
    obtain ⟨i0, rfl⟩ := list1 l2
    subst ho
    have hpat : ∀ x ∈ [n0], Pat x := fun x hx => hz.1 x hx
    have HC : Hid (∀ v, Below w.heap.size w v → v.cell? ⟨b, o, none⟩ = some (.int .i64 7) ∧ ∃ b1 o1 c1 b2 o2 c2, v.cell? ⟨b, o + 1, none⟩ = some (.slice (some ⟨b1, o1, none⟩) 1 c1) ∧ v.cell? ⟨b, o + 2, none⟩ = some (.slice (some ⟨b2, o2, none⟩) 1 c2) ∧ v.cell? ⟨b1, o1, none⟩ = some (.int .u32 n0) ∧ v.cell? ⟨b2, o2, none⟩ = some (.int .i64 i0)) := fun v hv => by
      obtain ⟨e0, e1, e2, e3, r1, r2⟩ := hc v hv
      obtain ⟨b1, o1, rfl, -⟩ := r1.get (i := 0) (by simp)
      obtain ⟨b2, o2, rfl, -⟩ := r2.get (i := 0) (by simp)
      refine ⟨e0, b1, o1, cn, b2, o2, ci, e1, e2, ?_, ?_⟩
      · obtain ⟨b', o', e, h'⟩ := r1.get (i := 0) (by simp)
        simp only [Option.some.injEq, Addr.mk.injEq] at e
        obtain ⟨rfl, rfl, -⟩ := e
        exact h'
      · obtain ⟨b', o', e, h'⟩ := r2.get (i := 0) (by simp)
        simp only [Option.some.injEq, Addr.mk.injEq] at e
        obtain ⟨rfl, rfl, -⟩ := e
        exact h'
    simp only [List.getD_cons_zero, List.getD_cons_succ, Bool.true_and]
    have pn0 : Pat n0 := hpat _ (by simp)
    obtain ⟨c0, b1, o1, k1, b2, o2, k2, c1, c2, d0, g0⟩ := HC.out w HB
    clear hc h hR hpat l1 l2 l3 hz HC
    try simp only [Bool.true_and, Bool.and_true]
    go_enter Try.func64, Try.ntmps64
    go_wp2_with (first
    | (go_at_call 76; (with_reducible refine (HH.out _ HB).mono ?_); rintro e wx ⟨rfl, hbx⟩; have HB : Below w.heap.size w wx := bel HB hbx; have c0 := bcell c0 hbx; have c1 := bcell c1 hbx; have c2 := bcell c2 hbx; have d0 := bcell d0 hbx; have g0 := bcell g0 hbx)
    | (go_at_call 78; (with_reducible refine (isSteps_any _ _).mono ?_); rintro e wx ⟨rfl, hbx⟩; have HB : Below w.heap.size w wx := bel HB hbx; have c0 := bcell c0 hbx; have c1 := bcell c1 hbx; have c2 := bcell c2 hbx; have d0 := bcell d0 hbx; have g0 := bcell g0 hbx))
    go_ret
    exact ⟨rfl, HB⟩

set_option maxRecDepth 100000 in
set_option maxHeartbeats 2000000 in
theorem fits_12 (t : Sc) (ho : t.op = 12) (b o : Nat) (hz : sz t) (w : World) (h : SA w b o t) : FitC t b o w (hasN t 0 1 1 && isCnt (t.ints.getD 0 0)) := by
  unfold FitC
  have HB : Below w.heap.size w w := bel0 w
  obtain ⟨pn, cn, pi, ci, pk, ck, hc⟩ := h.cells
  have HH : Hid (∀ v, Below w.heap.size w v → Calls Try.prog 76 #[.pointer (some ⟨b, o, none⟩), .int .i64 0, .int .i64 1, .int .i64 1] v fun e w' => e = .returned (.bool (hasN t 0 1 1)) ∧ Below v.heap.size v w') := fun v hv => has_any t b o 0 1 1 hz v (h.below hv)
  cases hR : hasN t 0 1 1
  · rw [hR] at HH
    obtain ⟨c0, -⟩ := hc w HB
    rw [ho] at c0
    simp only [Bool.false_and]
    clear hc h hR
    go_enter Try.func64, Try.ntmps64
    go_wp2_with ((go_at_call 76; (with_reducible refine (HH.out _ HB).mono ?_); rintro e wx ⟨rfl, hbx⟩; have HB : Below w.heap.size w wx := bel HB hbx))
    go_ret
    exact ⟨rfl, HB⟩
  · rw [hR] at HH
    obtain ⟨l1, l2, l3⟩ := hasN_len hR
    obtain ⟨op, ns, is, ks⟩ := t
    simp only at ho l1 l2 l3 hc
    obtain rfl : ns = [] := List.length_eq_zero_iff.1 l1
    obtain ⟨i0, rfl⟩ := list1 l2
    subst ho
    have hpat : ∀ x ∈ [], Pat x := fun x hx => hz.1 x hx
    have HC : Hid (∀ v, Below w.heap.size w v → v.cell? ⟨b, o, none⟩ = some (.int .i64 12) ∧ ∃ b1 o1 c1 b2 o2 c2, v.cell? ⟨b, o + 1, none⟩ = some (.slice pn 0 c1) ∧ v.cell? ⟨b, o + 2, none⟩ = some (.slice (some ⟨b2, o2, none⟩) 1 c2) ∧ True ∧ v.cell? ⟨b2, o2, none⟩ = some (.int .i64 i0)) := fun v hv => by
      obtain ⟨e0, e1, e2, e3, r1, r2⟩ := hc v hv
      have b1 := 0; have o1 := 0
      obtain ⟨b2, o2, rfl, -⟩ := r2.get (i := 0) (by simp)
      refine ⟨e0, b1, o1, cn, b2, o2, ci, e1, e2, trivial, ?_⟩
      · obtain ⟨b', o', e, h'⟩ := r2.get (i := 0) (by simp)
        simp only [Option.some.injEq, Addr.mk.injEq] at e
        obtain ⟨rfl, rfl, -⟩ := e
        exact h'
    simp only [List.getD_cons_zero, List.getD_cons_succ, Bool.true_and]
    obtain ⟨c0, b1, o1, k1, b2, o2, k2, c1, c2, -, g0⟩ := HC.out w HB
    clear hc h hR hpat l1 l2 l3 hz HC
    try simp only [Bool.true_and, Bool.and_true]
    go_enter Try.func64, Try.ntmps64
    go_wp2_with (first
    | (go_at_call 76; (with_reducible refine (HH.out _ HB).mono ?_); rintro e wx ⟨rfl, hbx⟩; have HB : Below w.heap.size w wx := bel HB hbx; have c0 := bcell c0 hbx; have c1 := bcell c1 hbx; have c2 := bcell c2 hbx; have g0 := bcell g0 hbx)
    | (go_at_call 28; (with_reducible refine (isCount_any _ _).mono ?_); rintro e wx ⟨rfl, hbx⟩; have HB : Below w.heap.size w wx := bel HB hbx; have c0 := bcell c0 hbx; have c1 := bcell c1 hbx; have c2 := bcell c2 hbx; have g0 := bcell g0 hbx))
    go_ret
    exact ⟨rfl, HB⟩

set_option maxRecDepth 100000 in
set_option maxHeartbeats 2000000 in
theorem fits_13 (t : Sc) (ho : t.op = 13) (b o : Nat) (hz : sz t) (w : World) (h : SA w b o t) : FitC t b o w (hasN t 0 1 1 && isCnt (t.ints.getD 0 0)) := by
  unfold FitC
  have HB : Below w.heap.size w w := bel0 w
  obtain ⟨pn, cn, pi, ci, pk, ck, hc⟩ := h.cells
  have HH : Hid (∀ v, Below w.heap.size w v → Calls Try.prog 76 #[.pointer (some ⟨b, o, none⟩), .int .i64 0, .int .i64 1, .int .i64 1] v fun e w' => e = .returned (.bool (hasN t 0 1 1)) ∧ Below v.heap.size v w') := fun v hv => has_any t b o 0 1 1 hz v (h.below hv)
  cases hR : hasN t 0 1 1
  · rw [hR] at HH
    obtain ⟨c0, -⟩ := hc w HB
    rw [ho] at c0
    simp only [Bool.false_and]
    clear hc h hR
    go_enter Try.func64, Try.ntmps64
    go_wp2_with ((go_at_call 76; (with_reducible refine (HH.out _ HB).mono ?_); rintro e wx ⟨rfl, hbx⟩; have HB : Below w.heap.size w wx := bel HB hbx))
    go_ret
    exact ⟨rfl, HB⟩
  · rw [hR] at HH
    obtain ⟨l1, l2, l3⟩ := hasN_len hR
    obtain ⟨op, ns, is, ks⟩ := t
    simp only at ho l1 l2 l3 hc
    obtain rfl : ns = [] := List.length_eq_zero_iff.1 l1
    obtain ⟨i0, rfl⟩ := list1 l2
    subst ho
    have hpat : ∀ x ∈ [], Pat x := fun x hx => hz.1 x hx
    have HC : Hid (∀ v, Below w.heap.size w v → v.cell? ⟨b, o, none⟩ = some (.int .i64 13) ∧ ∃ b1 o1 c1 b2 o2 c2, v.cell? ⟨b, o + 1, none⟩ = some (.slice pn 0 c1) ∧ v.cell? ⟨b, o + 2, none⟩ = some (.slice (some ⟨b2, o2, none⟩) 1 c2) ∧ True ∧ v.cell? ⟨b2, o2, none⟩ = some (.int .i64 i0)) := fun v hv => by
      obtain ⟨e0, e1, e2, e3, r1, r2⟩ := hc v hv
      have b1 := 0; have o1 := 0
      obtain ⟨b2, o2, rfl, -⟩ := r2.get (i := 0) (by simp)
      refine ⟨e0, b1, o1, cn, b2, o2, ci, e1, e2, trivial, ?_⟩
      · obtain ⟨b', o', e, h'⟩ := r2.get (i := 0) (by simp)
        simp only [Option.some.injEq, Addr.mk.injEq] at e
        obtain ⟨rfl, rfl, -⟩ := e
        exact h'
    simp only [List.getD_cons_zero, List.getD_cons_succ, Bool.true_and]
    obtain ⟨c0, b1, o1, k1, b2, o2, k2, c1, c2, -, g0⟩ := HC.out w HB
    clear hc h hR hpat l1 l2 l3 hz HC
    try simp only [Bool.true_and, Bool.and_true]
    go_enter Try.func64, Try.ntmps64
    go_wp2_with (first
    | (go_at_call 76; (with_reducible refine (HH.out _ HB).mono ?_); rintro e wx ⟨rfl, hbx⟩; have HB : Below w.heap.size w wx := bel HB hbx; have c0 := bcell c0 hbx; have c1 := bcell c1 hbx; have c2 := bcell c2 hbx; have g0 := bcell g0 hbx)
    | (go_at_call 28; (with_reducible refine (isCount_any _ _).mono ?_); rintro e wx ⟨rfl, hbx⟩; have HB : Below w.heap.size w wx := bel HB hbx; have c0 := bcell c0 hbx; have c1 := bcell c1 hbx; have c2 := bcell c2 hbx; have g0 := bcell g0 hbx))
    go_ret
    exact ⟨rfl, HB⟩

set_option maxRecDepth 100000 in
set_option maxHeartbeats 2000000 in
theorem fits_5 (t : Sc) (ho : t.op = 5) (b o : Nat) (hz : sz t) (w : World) (h : SA w b o t) : FitC t b o w (hasN t (t.ints.length + 1) t.ints.length 0 && bnds t.ints) := by
  unfold FitC
  have HB : Below w.heap.size w w := bel0 w
  obtain ⟨pn, cn, pi, ci, pk, ck, hc⟩ := h.cells
  obtain ⟨n, hn⟩ : ∃ n, t.ints.length = n := ⟨_, rfl⟩
  have HH : Hid (∀ v, Below w.heap.size w v → Calls Try.prog 76 #[.pointer (some ⟨b, o, none⟩), .int .i64 ((n : Int) + 1), .int .i64 (n : Int), .int .i64 (0)] v fun e w' => e = .returned (.bool (hasN t (n + 1) n (0))) ∧ Below v.heap.size v w') := fun v hv => has_any t b o (n + 1) n (0) hz v (h.below hv)
  have HA : Hid (∀ v, Below w.heap.size w v → Calls Try.prog 79 #[.slice pi n ci] v fun e w' => e = .returned (.bool (bnds t.ints)) ∧ Below v.heap.size v w') := fun v hv => by
    have := bounds_any t.ints (.slice pi t.ints.length ci) hz.2.2.2.1 v (hc v hv).2.2.2.2.2
    rw [hn] at this; exact this
  have HC : Hid (∀ v, Below w.heap.size w v → v.cell? ⟨b, o + 2, none⟩ = some (.slice pi n ci)) := fun v hv => by have := (hc v hv).2.2.1; rw [hn] at this; exact this
  have hnl : n ≤ 17592186043904 := by rw [← hn]; exact hz.2.2.2.1
  have w1 : IntKind.i64.wrap ((n : Int) + 1) = (n : Int) + 1 := by rw [IntKind.wrap_i64]; omega
  obtain ⟨c0, -⟩ := hc w HB
  rw [ho] at c0
  rw [hn]
  have c2 := HC.out w HB
  obtain ⟨B, hB⟩ : ∃ B, bnds t.ints = B := ⟨_, rfl⟩
  rw [hB] at HA ⊢
  cases hR : hasN t (n + 1) n (0)
  · rw [hR] at HH
    clear hc h hR hB hz
    simp only [Bool.false_and]
    go_enter Try.func64, Try.ntmps64
    go_wp2
    refine wp_region_held_drew (S := (fun w' => w'.cell? ⟨b, o + 2, none⟩ = some (.slice pi n ci))) (by kernel_rfl) ?_ (fun hHeld => ?_)
    · ((try dsimp only); go_keep)
    refine wpAnyH_take (i := 0) (v := ?_) (by simp only [List.getElem?_toArray, List.getElem?_cons_succ, List.getElem?_cons_zero]; rfl) (by kernel_rfl) (by kernel_rfl) (by kernel_rfl) (by exact fun _ _ _ h => h) (Or.inl ⟨by rfl, ?_⟩) (by assumption) ?_
    rotate_left 1
    · (intro wS hSw; (try dsimp only at hSw); go_simp; try (with_reducible rfl))
    try simp only [Act.put, List.setIfInBounds_toArray, List.set_cons_zero, List.set_cons_succ]
    refine wpAnyH_take (i := 1) (v := ?_) (by simp only [List.getElem?_toArray, List.getElem?_cons_succ, List.getElem?_cons_zero]; rfl) (by kernel_rfl) (by kernel_rfl) (by kernel_rfl) (by exact fun _ _ _ h => h) (Or.inl ⟨by rfl, ?_⟩) (by assumption) ?_
    rotate_left 1
    · (intro wS hSw; (try dsimp only at hSw); go_simp; try (with_reducible rfl))
    try simp only [Act.put, List.setIfInBounds_toArray, List.set_cons_zero, List.set_cons_succ]
    refine wpAnyH_take (i := 2) (v := ?_) (by simp only [List.getElem?_toArray, List.getElem?_cons_succ, List.getElem?_cons_zero]; rfl) (by kernel_rfl) (by kernel_rfl) (by kernel_rfl) (by exact fun _ _ _ h => h) (Or.inl ⟨by rfl, ?_⟩) (by assumption) ?_
    rotate_left 1
    · (intro wS hSw; (try dsimp only at hSw); go_simp; try (with_reducible rfl))
    try simp only [Act.put, List.setIfInBounds_toArray, List.set_cons_zero, List.set_cons_succ]
    refine wpAnyH_take (i := 3) (v := ?_) (by simp only [List.getElem?_toArray, List.getElem?_cons_succ, List.getElem?_cons_zero]; rfl) (by kernel_rfl) (by kernel_rfl) (by kernel_rfl) (by exact fun _ _ _ h => h) (Or.inl ⟨by rfl, ?_⟩) (by assumption) ?_
    rotate_left 1
    · (intro wS hSw; (try dsimp only at hSw); go_simp; try (with_reducible rfl))
    try simp only [Act.put, List.setIfInBounds_toArray, List.set_cons_zero, List.set_cons_succ]
    refine wpAnyH_take (i := 4) (v := ?_) (by simp only [List.getElem?_toArray, List.getElem?_cons_succ, List.getElem?_cons_zero]; rfl) (by kernel_rfl) (by kernel_rfl) (by kernel_rfl) (by exact fun _ _ _ h => h) (Or.inl ⟨by rfl, ?_⟩) (by assumption) ?_
    rotate_left 1
    · (intro wS hSw; (try dsimp only at hSw); go_simp; try (with_reducible rfl))
    try simp only [Act.put, List.setIfInBounds_toArray, List.set_cons_zero, List.set_cons_succ]
    refine wpAnyH_take (i := 7) (v := ?_) (by simp only [List.getElem?_toArray, List.getElem?_cons_succ, List.getElem?_cons_zero]; rfl) (by kernel_rfl) (by kernel_rfl) (by kernel_rfl) (by exact fun _ _ _ h => h) (Or.inl ⟨by rfl, ?_⟩) (by assumption) ?_
    rotate_left 1
    · (intro wS hSw; (try dsimp only at hSw); go_simp; try (with_reducible rfl))
    try simp only [Act.put, List.setIfInBounds_toArray, List.set_cons_zero, List.set_cons_succ]
    refine wpAnyH_take (i := 8) (v := ?_) (by simp only [List.getElem?_toArray, List.getElem?_cons_succ, List.getElem?_cons_zero]; rfl) (by kernel_rfl) (by kernel_rfl) (by kernel_rfl) (by exact fun _ _ _ h => h) (Or.inl ⟨by rfl, ?_⟩) (by assumption) ?_
    rotate_left 1
    · (intro wS hSw; (try dsimp only at hSw); go_simp; try (with_reducible rfl))
    try simp only [Act.put, List.setIfInBounds_toArray, List.set_cons_zero, List.set_cons_succ]
    refine wpAnyH_take (i := 9) (v := ?_) (by simp only [List.getElem?_toArray, List.getElem?_cons_succ, List.getElem?_cons_zero]; rfl) (by kernel_rfl) (by kernel_rfl) (by kernel_rfl) (by exact fun _ _ _ h => h) (Or.inl ⟨by rfl, ?_⟩) (by assumption) ?_
    rotate_left 1
    · (intro wS hSw; (try dsimp only at hSw); go_simp; try (with_reducible rfl))
    try simp only [Act.put, List.setIfInBounds_toArray, List.set_cons_zero, List.set_cons_succ]
    refine wpAnyH_take (i := 10) (v := ?_) (by simp only [List.getElem?_toArray, List.getElem?_cons_succ, List.getElem?_cons_zero]; rfl) (by kernel_rfl) (by kernel_rfl) (by kernel_rfl) (by exact fun _ _ _ h => h) (Or.inl ⟨by rfl, ?_⟩) (by assumption) ?_
    rotate_left 1
    · (intro wS hSw; (try dsimp only at hSw); go_simp; try (with_reducible rfl))
    try simp only [Act.put, List.setIfInBounds_toArray, List.set_cons_zero, List.set_cons_succ]
    clear hHeld
    refine wpAnyH_ready (rs := [5, 11]) (by kernel_rfl) (by simp) ?_
    refine AllReadyH.cons (i := 5) (by simp only [List.getElem?_toArray, List.getElem?_cons_succ, List.getElem?_cons_zero]; rfl) (fun K hK => ?_) ?_
    · go_simp
      refine hK.out _ _ ?_ (fun hHeld => ?_)
      · ((try dsimp only); go_keep)
      clear hK K
      try simp only [Act.put, List.setIfInBounds_toArray, List.set_cons_zero, List.set_cons_succ]
      refine wpAnyH_take (i := 6) (v := ?_) (by simp only [List.getElem?_toArray, List.getElem?_cons_succ, List.getElem?_cons_zero]; rfl) (by kernel_rfl) (by kernel_rfl) (by kernel_rfl) (by exact fun _ _ _ h => h) (Or.inl ⟨by rfl, ?_⟩) (by assumption) ?_
      rotate_left 1
      · (intro wS hSw; (try dsimp only at hSw); go_simp; try (with_reducible rfl))
      try simp only [Act.put, List.setIfInBounds_toArray, List.set_cons_zero, List.set_cons_succ]
      clear hHeld
      refine wpAnyH_ready (rs := [11]) (by kernel_rfl) (by simp) ?_
      refine AllReadyH.cons (i := 11) (by simp only [List.getElem?_toArray, List.getElem?_cons_succ, List.getElem?_cons_zero]; rfl) (fun K hK => ?_) AllReadyH.nil
      go_simp
      refine hK.out _ _ ?_ (fun hHeld => ?_)
      · ((try dsimp only); go_keep)
      clear hK K
      try simp only [Act.put, List.setIfInBounds_toArray, List.set_cons_zero, List.set_cons_succ]
      clear hHeld
      refine wpAnyH_ready (rs := [12]) (by kernel_rfl) (by simp) ?_
      refine AllReadyH.cons (i := 12) (by simp only [List.getElem?_toArray, List.getElem?_cons_succ, List.getElem?_cons_zero]; rfl) (fun K hK => ?_) AllReadyH.nil
      go_simp
      go_at_call 76
      (with_reducible refine (HH.out _ (bel_d _)).mono ?_)
      rintro e wx ⟨rfl, hbx⟩
      have HB : Below w.heap.size w wx := bel (bel_d _) hbx
      have c2 := HC.out wx HB
      try (go_wp2_with fail)
      refine hK.out _ _ ?_ (fun hHeld => ?_)
      · ((try dsimp only); go_keep)
      clear hK K
      try simp only [Act.put, List.setIfInBounds_toArray, List.set_cons_zero, List.set_cons_succ]
      refine wpAnyH_take (i := 13) (v := ?_) (by simp only [List.getElem?_toArray, List.getElem?_cons_succ, List.getElem?_cons_zero]; rfl) (by kernel_rfl) (by kernel_rfl) (by kernel_rfl) (by exact fun _ _ _ h => h) (Or.inl ⟨by rfl, ?_⟩) (by assumption) ?_
      rotate_left 1
      · (intro wS hSw; (try dsimp only at hSw); go_simp; try (with_reducible rfl))
      try simp only [Act.put, List.setIfInBounds_toArray, List.set_cons_zero, List.set_cons_succ]
      refine wpAnyH_take (i := 14) (v := undef) (by simp only [List.getElem?_toArray, List.getElem?_cons_succ, List.getElem?_cons_zero]; rfl) (by kernel_rfl) (by kernel_rfl) (by kernel_rfl) (by exact fun _ _ _ h => h) (Or.inr ⟨by rfl, rfl⟩) (by assumption) ?_
      try simp only [Act.put, List.setIfInBounds_toArray, List.set_cons_zero, List.set_cons_succ]
      refine wpAnyH_take (i := 15) (v := undef) (by simp only [List.getElem?_toArray, List.getElem?_cons_succ, List.getElem?_cons_zero]; rfl) (by kernel_rfl) (by kernel_rfl) (by kernel_rfl) (by exact fun _ _ _ h => h) (Or.inr ⟨by rfl, rfl⟩) (by assumption) ?_
      try simp only [Act.put, List.setIfInBounds_toArray, List.set_cons_zero, List.set_cons_succ]
      refine wpAnyH_take (i := 16) (v := undef) (by simp only [List.getElem?_toArray, List.getElem?_cons_succ, List.getElem?_cons_zero]; rfl) (by kernel_rfl) (by kernel_rfl) (by kernel_rfl) (by exact fun _ _ _ h => h) (Or.inr ⟨by rfl, rfl⟩) (by assumption) ?_
      try simp only [Act.put, List.setIfInBounds_toArray, List.set_cons_zero, List.set_cons_succ]
      refine wpAnyH_take (i := 17) (v := undef) (by simp only [List.getElem?_toArray, List.getElem?_cons_succ, List.getElem?_cons_zero]; rfl) (by kernel_rfl) (by kernel_rfl) (by kernel_rfl) (by exact fun _ _ _ h => h) (Or.inr ⟨by rfl, rfl⟩) (by assumption) ?_
      try simp only [Act.put, List.setIfInBounds_toArray, List.set_cons_zero, List.set_cons_succ]
      refine wpAnyH_take (i := 18) (v := undef) (by simp only [List.getElem?_toArray, List.getElem?_cons_succ, List.getElem?_cons_zero]; rfl) (by kernel_rfl) (by kernel_rfl) (by kernel_rfl) (by exact fun _ _ _ h => h) (Or.inr ⟨by rfl, rfl⟩) (by assumption) ?_
      try simp only [Act.put, List.setIfInBounds_toArray, List.set_cons_zero, List.set_cons_succ]
      refine wpAnyH_take (i := 19) (v := ?_) (by simp only [List.getElem?_toArray, List.getElem?_cons_succ, List.getElem?_cons_zero]; rfl) (by kernel_rfl) (by kernel_rfl) (by kernel_rfl) (by exact fun _ _ _ h => h) (Or.inl ⟨by rfl, ?_⟩) (by assumption) ?_
      rotate_left 1
      · (intro wS hSw; (try dsimp only at hSw); go_simp; try (with_reducible rfl))
      try simp only [Act.put, List.setIfInBounds_toArray, List.set_cons_zero, List.set_cons_succ]
      refine wpAnyH_take (i := 20) (v := ?_) (by simp only [List.getElem?_toArray, List.getElem?_cons_succ, List.getElem?_cons_zero]; rfl) (by kernel_rfl) (by kernel_rfl) (by kernel_rfl) (by exact fun _ _ _ h => h) (Or.inl ⟨by rfl, ?_⟩) (by assumption) ?_
      rotate_left 1
      · (intro wS hSw; (try dsimp only at hSw); go_simp; try (with_reducible rfl))
      try simp only [Act.put, List.setIfInBounds_toArray, List.set_cons_zero, List.set_cons_succ]
      refine wpAnyH_done (by kernel_rfl) ?_ _
      go_wp2
      go_ret
      exact ⟨rfl, HB⟩
    refine AllReadyH.cons (i := 11) (by simp only [List.getElem?_toArray, List.getElem?_cons_succ, List.getElem?_cons_zero]; rfl) (fun K hK => ?_) AllReadyH.nil
    go_simp
    refine hK.out _ _ ?_ (fun hHeld => ?_)
    · ((try dsimp only); go_keep)
    clear hK K
    try simp only [Act.put, List.setIfInBounds_toArray, List.set_cons_zero, List.set_cons_succ]
    clear hHeld
    refine wpAnyH_ready (rs := [5]) (by kernel_rfl) (by simp) ?_
    refine AllReadyH.cons (i := 5) (by simp only [List.getElem?_toArray, List.getElem?_cons_succ, List.getElem?_cons_zero]; rfl) (fun K hK => ?_) AllReadyH.nil
    go_simp
    refine hK.out _ _ ?_ (fun hHeld => ?_)
    · ((try dsimp only); go_keep)
    clear hK K
    try simp only [Act.put, List.setIfInBounds_toArray, List.set_cons_zero, List.set_cons_succ]
    refine wpAnyH_take (i := 6) (v := ?_) (by simp only [List.getElem?_toArray, List.getElem?_cons_succ, List.getElem?_cons_zero]; rfl) (by kernel_rfl) (by kernel_rfl) (by kernel_rfl) (by exact fun _ _ _ h => h) (Or.inl ⟨by rfl, ?_⟩) (by assumption) ?_
    rotate_left 1
    · (intro wS hSw; (try dsimp only at hSw); go_simp; try (with_reducible rfl))
    try simp only [Act.put, List.setIfInBounds_toArray, List.set_cons_zero, List.set_cons_succ]
    clear hHeld
    refine wpAnyH_ready (rs := [12]) (by kernel_rfl) (by simp) ?_
    refine AllReadyH.cons (i := 12) (by simp only [List.getElem?_toArray, List.getElem?_cons_succ, List.getElem?_cons_zero]; rfl) (fun K hK => ?_) AllReadyH.nil
    go_simp
    go_at_call 76
    (with_reducible refine (HH.out _ (bel_d _)).mono ?_)
    rintro e wx ⟨rfl, hbx⟩
    have HB : Below w.heap.size w wx := bel (bel_d _) hbx
    have c2 := HC.out wx HB
    try (go_wp2_with fail)
    refine hK.out _ _ ?_ (fun hHeld => ?_)
    · ((try dsimp only); go_keep)
    clear hK K
    try simp only [Act.put, List.setIfInBounds_toArray, List.set_cons_zero, List.set_cons_succ]
    refine wpAnyH_take (i := 13) (v := ?_) (by simp only [List.getElem?_toArray, List.getElem?_cons_succ, List.getElem?_cons_zero]; rfl) (by kernel_rfl) (by kernel_rfl) (by kernel_rfl) (by exact fun _ _ _ h => h) (Or.inl ⟨by rfl, ?_⟩) (by assumption) ?_
    rotate_left 1
    · (intro wS hSw; (try dsimp only at hSw); go_simp; try (with_reducible rfl))
    try simp only [Act.put, List.setIfInBounds_toArray, List.set_cons_zero, List.set_cons_succ]
    refine wpAnyH_take (i := 14) (v := undef) (by simp only [List.getElem?_toArray, List.getElem?_cons_succ, List.getElem?_cons_zero]; rfl) (by kernel_rfl) (by kernel_rfl) (by kernel_rfl) (by exact fun _ _ _ h => h) (Or.inr ⟨by rfl, rfl⟩) (by assumption) ?_
    try simp only [Act.put, List.setIfInBounds_toArray, List.set_cons_zero, List.set_cons_succ]
    refine wpAnyH_take (i := 15) (v := undef) (by simp only [List.getElem?_toArray, List.getElem?_cons_succ, List.getElem?_cons_zero]; rfl) (by kernel_rfl) (by kernel_rfl) (by kernel_rfl) (by exact fun _ _ _ h => h) (Or.inr ⟨by rfl, rfl⟩) (by assumption) ?_
    try simp only [Act.put, List.setIfInBounds_toArray, List.set_cons_zero, List.set_cons_succ]
    refine wpAnyH_take (i := 16) (v := undef) (by simp only [List.getElem?_toArray, List.getElem?_cons_succ, List.getElem?_cons_zero]; rfl) (by kernel_rfl) (by kernel_rfl) (by kernel_rfl) (by exact fun _ _ _ h => h) (Or.inr ⟨by rfl, rfl⟩) (by assumption) ?_
    try simp only [Act.put, List.setIfInBounds_toArray, List.set_cons_zero, List.set_cons_succ]
    refine wpAnyH_take (i := 17) (v := undef) (by simp only [List.getElem?_toArray, List.getElem?_cons_succ, List.getElem?_cons_zero]; rfl) (by kernel_rfl) (by kernel_rfl) (by kernel_rfl) (by exact fun _ _ _ h => h) (Or.inr ⟨by rfl, rfl⟩) (by assumption) ?_
    try simp only [Act.put, List.setIfInBounds_toArray, List.set_cons_zero, List.set_cons_succ]
    refine wpAnyH_take (i := 18) (v := undef) (by simp only [List.getElem?_toArray, List.getElem?_cons_succ, List.getElem?_cons_zero]; rfl) (by kernel_rfl) (by kernel_rfl) (by kernel_rfl) (by exact fun _ _ _ h => h) (Or.inr ⟨by rfl, rfl⟩) (by assumption) ?_
    try simp only [Act.put, List.setIfInBounds_toArray, List.set_cons_zero, List.set_cons_succ]
    refine wpAnyH_take (i := 19) (v := ?_) (by simp only [List.getElem?_toArray, List.getElem?_cons_succ, List.getElem?_cons_zero]; rfl) (by kernel_rfl) (by kernel_rfl) (by kernel_rfl) (by exact fun _ _ _ h => h) (Or.inl ⟨by rfl, ?_⟩) (by assumption) ?_
    rotate_left 1
    · (intro wS hSw; (try dsimp only at hSw); go_simp; try (with_reducible rfl))
    try simp only [Act.put, List.setIfInBounds_toArray, List.set_cons_zero, List.set_cons_succ]
    refine wpAnyH_take (i := 20) (v := ?_) (by simp only [List.getElem?_toArray, List.getElem?_cons_succ, List.getElem?_cons_zero]; rfl) (by kernel_rfl) (by kernel_rfl) (by kernel_rfl) (by exact fun _ _ _ h => h) (Or.inl ⟨by rfl, ?_⟩) (by assumption) ?_
    rotate_left 1
    · (intro wS hSw; (try dsimp only at hSw); go_simp; try (with_reducible rfl))
    try simp only [Act.put, List.setIfInBounds_toArray, List.set_cons_zero, List.set_cons_succ]
    refine wpAnyH_done (by kernel_rfl) ?_ _
    go_wp2
    go_ret
    exact ⟨rfl, HB⟩
  · rw [hR] at HH
    clear hc h hR hB hz
    simp only [Bool.true_and]
    go_enter Try.func64, Try.ntmps64
    go_wp2
    go_region_held3 (fun w' => w'.cell? ⟨b, o + 2, none⟩ = some (.slice pi n ci)) (go_keep) (first
      | (go_at_call 76; (with_reducible refine (HH.out _ (bel_d _)).mono ?_); rintro e wx ⟨rfl, hbx⟩; have HB : Below w.heap.size w wx := bel (bel_d _) hbx; have c2 := HC.out wx HB)
      | (go_at_call 79; (with_reducible refine (HA.out _ HB).mono ?_); rintro e wy ⟨rfl, hby⟩; have HB : Below w.heap.size w wy := bel HB hby; have c2 := HC.out wy HB))
    all_goals go_wp2
    all_goals go_ret
    all_goals exact ⟨rfl, HB⟩

set_option maxRecDepth 100000 in
set_option maxHeartbeats 2000000 in
theorem fits_6 (t : Sc) (ho : t.op = 6) (b o : Nat) (hz : sz t) (w : World) (h : SA w b o t) : FitC t b o w (hasN t 0 t.ints.length (t.ints.length + 1) && bnds t.ints) := by
  unfold FitC
  have HB : Below w.heap.size w w := bel0 w
  obtain ⟨pn, cn, pi, ci, pk, ck, hc⟩ := h.cells
  obtain ⟨n, hn⟩ : ∃ n, t.ints.length = n := ⟨_, rfl⟩
  have HH : Hid (∀ v, Below w.heap.size w v → Calls Try.prog 76 #[.pointer (some ⟨b, o, none⟩), .int .i64 (0), .int .i64 (n : Int), .int .i64 ((n : Int) + 1)] v fun e w' => e = .returned (.bool (hasN t (0) n (n + 1))) ∧ Below v.heap.size v w') := fun v hv => has_any t b o (0) n (n + 1) hz v (h.below hv)
  have HA : Hid (∀ v, Below w.heap.size w v → Calls Try.prog 79 #[.slice pi n ci] v fun e w' => e = .returned (.bool (bnds t.ints)) ∧ Below v.heap.size v w') := fun v hv => by
    have := bounds_any t.ints (.slice pi t.ints.length ci) hz.2.2.2.1 v (hc v hv).2.2.2.2.2
    rw [hn] at this; exact this
  have HC : Hid (∀ v, Below w.heap.size w v → v.cell? ⟨b, o + 2, none⟩ = some (.slice pi n ci)) := fun v hv => by have := (hc v hv).2.2.1; rw [hn] at this; exact this
  have hnl : n ≤ 17592186043904 := by rw [← hn]; exact hz.2.2.2.1
  have w1 : IntKind.i64.wrap ((n : Int) + 1) = (n : Int) + 1 := by rw [IntKind.wrap_i64]; omega
  obtain ⟨c0, -⟩ := hc w HB
  rw [ho] at c0
  rw [hn]
  have c2 := HC.out w HB
  obtain ⟨B, hB⟩ : ∃ B, bnds t.ints = B := ⟨_, rfl⟩
  rw [hB] at HA ⊢
  cases hR : hasN t (0) n (n + 1)
  · rw [hR] at HH
    clear hc h hR hB hz
    simp only [Bool.false_and]
    go_enter Try.func64, Try.ntmps64
    go_wp2
    refine wp_region_held_drew (S := (fun w' => w'.cell? ⟨b, o + 2, none⟩ = some (.slice pi n ci))) (by kernel_rfl) ?_ (fun hHeld => ?_)
    · ((try dsimp only); go_keep)
    refine wpAnyH_take (i := 0) (v := ?_) (by simp only [List.getElem?_toArray, List.getElem?_cons_succ, List.getElem?_cons_zero]; rfl) (by kernel_rfl) (by kernel_rfl) (by kernel_rfl) (by exact fun _ _ _ h => h) (Or.inl ⟨by rfl, ?_⟩) (by assumption) ?_
    rotate_left 1
    · (intro wS hSw; (try dsimp only at hSw); go_simp; try (with_reducible rfl))
    try simp only [Act.put, List.setIfInBounds_toArray, List.set_cons_zero, List.set_cons_succ]
    refine wpAnyH_take (i := 1) (v := ?_) (by simp only [List.getElem?_toArray, List.getElem?_cons_succ, List.getElem?_cons_zero]; rfl) (by kernel_rfl) (by kernel_rfl) (by kernel_rfl) (by exact fun _ _ _ h => h) (Or.inl ⟨by rfl, ?_⟩) (by assumption) ?_
    rotate_left 1
    · (intro wS hSw; (try dsimp only at hSw); go_simp; try (with_reducible rfl))
    try simp only [Act.put, List.setIfInBounds_toArray, List.set_cons_zero, List.set_cons_succ]
    refine wpAnyH_take (i := 2) (v := ?_) (by simp only [List.getElem?_toArray, List.getElem?_cons_succ, List.getElem?_cons_zero]; rfl) (by kernel_rfl) (by kernel_rfl) (by kernel_rfl) (by exact fun _ _ _ h => h) (Or.inl ⟨by rfl, ?_⟩) (by assumption) ?_
    rotate_left 1
    · (intro wS hSw; (try dsimp only at hSw); go_simp; try (with_reducible rfl))
    try simp only [Act.put, List.setIfInBounds_toArray, List.set_cons_zero, List.set_cons_succ]
    refine wpAnyH_take (i := 3) (v := ?_) (by simp only [List.getElem?_toArray, List.getElem?_cons_succ, List.getElem?_cons_zero]; rfl) (by kernel_rfl) (by kernel_rfl) (by kernel_rfl) (by exact fun _ _ _ h => h) (Or.inl ⟨by rfl, ?_⟩) (by assumption) ?_
    rotate_left 1
    · (intro wS hSw; (try dsimp only at hSw); go_simp; try (with_reducible rfl))
    try simp only [Act.put, List.setIfInBounds_toArray, List.set_cons_zero, List.set_cons_succ]
    refine wpAnyH_take (i := 4) (v := ?_) (by simp only [List.getElem?_toArray, List.getElem?_cons_succ, List.getElem?_cons_zero]; rfl) (by kernel_rfl) (by kernel_rfl) (by kernel_rfl) (by exact fun _ _ _ h => h) (Or.inl ⟨by rfl, ?_⟩) (by assumption) ?_
    rotate_left 1
    · (intro wS hSw; (try dsimp only at hSw); go_simp; try (with_reducible rfl))
    try simp only [Act.put, List.setIfInBounds_toArray, List.set_cons_zero, List.set_cons_succ]
    refine wpAnyH_take (i := 6) (v := ?_) (by simp only [List.getElem?_toArray, List.getElem?_cons_succ, List.getElem?_cons_zero]; rfl) (by kernel_rfl) (by kernel_rfl) (by kernel_rfl) (by exact fun _ _ _ h => h) (Or.inl ⟨by rfl, ?_⟩) (by assumption) ?_
    rotate_left 1
    · (intro wS hSw; (try dsimp only at hSw); go_simp; try (with_reducible rfl))
    try simp only [Act.put, List.setIfInBounds_toArray, List.set_cons_zero, List.set_cons_succ]
    refine wpAnyH_take (i := 7) (v := ?_) (by simp only [List.getElem?_toArray, List.getElem?_cons_succ, List.getElem?_cons_zero]; rfl) (by kernel_rfl) (by kernel_rfl) (by kernel_rfl) (by exact fun _ _ _ h => h) (Or.inl ⟨by rfl, ?_⟩) (by assumption) ?_
    rotate_left 1
    · (intro wS hSw; (try dsimp only at hSw); go_simp; try (with_reducible rfl))
    try simp only [Act.put, List.setIfInBounds_toArray, List.set_cons_zero, List.set_cons_succ]
    refine wpAnyH_take (i := 8) (v := ?_) (by simp only [List.getElem?_toArray, List.getElem?_cons_succ, List.getElem?_cons_zero]; rfl) (by kernel_rfl) (by kernel_rfl) (by kernel_rfl) (by exact fun _ _ _ h => h) (Or.inl ⟨by rfl, ?_⟩) (by assumption) ?_
    rotate_left 1
    · (intro wS hSw; (try dsimp only at hSw); go_simp; try (with_reducible rfl))
    try simp only [Act.put, List.setIfInBounds_toArray, List.set_cons_zero, List.set_cons_succ]
    refine wpAnyH_take (i := 9) (v := ?_) (by simp only [List.getElem?_toArray, List.getElem?_cons_succ, List.getElem?_cons_zero]; rfl) (by kernel_rfl) (by kernel_rfl) (by kernel_rfl) (by exact fun _ _ _ h => h) (Or.inl ⟨by rfl, ?_⟩) (by assumption) ?_
    rotate_left 1
    · (intro wS hSw; (try dsimp only at hSw); go_simp; try (with_reducible rfl))
    try simp only [Act.put, List.setIfInBounds_toArray, List.set_cons_zero, List.set_cons_succ]
    clear hHeld
    refine wpAnyH_ready (rs := [5, 10]) (by kernel_rfl) (by simp) ?_
    refine AllReadyH.cons (i := 5) (by simp only [List.getElem?_toArray, List.getElem?_cons_succ, List.getElem?_cons_zero]; rfl) (fun K hK => ?_) ?_
    · go_simp
      refine hK.out _ _ ?_ (fun hHeld => ?_)
      · ((try dsimp only); go_keep)
      clear hK K
      try simp only [Act.put, List.setIfInBounds_toArray, List.set_cons_zero, List.set_cons_succ]
      clear hHeld
      refine wpAnyH_ready (rs := [10]) (by kernel_rfl) (by simp) ?_
      refine AllReadyH.cons (i := 10) (by simp only [List.getElem?_toArray, List.getElem?_cons_succ, List.getElem?_cons_zero]; rfl) (fun K hK => ?_) AllReadyH.nil
      go_simp
      refine hK.out _ _ ?_ (fun hHeld => ?_)
      · ((try dsimp only); go_keep)
      clear hK K
      try simp only [Act.put, List.setIfInBounds_toArray, List.set_cons_zero, List.set_cons_succ]
      refine wpAnyH_take (i := 11) (v := ?_) (by simp only [List.getElem?_toArray, List.getElem?_cons_succ, List.getElem?_cons_zero]; rfl) (by kernel_rfl) (by kernel_rfl) (by kernel_rfl) (by exact fun _ _ _ h => h) (Or.inl ⟨by rfl, ?_⟩) (by assumption) ?_
      rotate_left 1
      · (intro wS hSw; (try dsimp only at hSw); go_simp; try (with_reducible rfl))
      try simp only [Act.put, List.setIfInBounds_toArray, List.set_cons_zero, List.set_cons_succ]
      clear hHeld
      refine wpAnyH_ready (rs := [12]) (by kernel_rfl) (by simp) ?_
      refine AllReadyH.cons (i := 12) (by simp only [List.getElem?_toArray, List.getElem?_cons_succ, List.getElem?_cons_zero]; rfl) (fun K hK => ?_) AllReadyH.nil
      go_simp
      go_at_call 76
      (with_reducible refine (HH.out _ (bel_d _)).mono ?_)
      rintro e wx ⟨rfl, hbx⟩
      have HB : Below w.heap.size w wx := bel (bel_d _) hbx
      have c2 := HC.out wx HB
      try (go_wp2_with fail)
      refine hK.out _ _ ?_ (fun hHeld => ?_)
      · ((try dsimp only); go_keep)
      clear hK K
      try simp only [Act.put, List.setIfInBounds_toArray, List.set_cons_zero, List.set_cons_succ]
      refine wpAnyH_take (i := 13) (v := ?_) (by simp only [List.getElem?_toArray, List.getElem?_cons_succ, List.getElem?_cons_zero]; rfl) (by kernel_rfl) (by kernel_rfl) (by kernel_rfl) (by exact fun _ _ _ h => h) (Or.inl ⟨by rfl, ?_⟩) (by assumption) ?_
      rotate_left 1
      · (intro wS hSw; (try dsimp only at hSw); go_simp; try (with_reducible rfl))
      try simp only [Act.put, List.setIfInBounds_toArray, List.set_cons_zero, List.set_cons_succ]
      refine wpAnyH_take (i := 14) (v := undef) (by simp only [List.getElem?_toArray, List.getElem?_cons_succ, List.getElem?_cons_zero]; rfl) (by kernel_rfl) (by kernel_rfl) (by kernel_rfl) (by exact fun _ _ _ h => h) (Or.inr ⟨by rfl, rfl⟩) (by assumption) ?_
      try simp only [Act.put, List.setIfInBounds_toArray, List.set_cons_zero, List.set_cons_succ]
      refine wpAnyH_take (i := 15) (v := undef) (by simp only [List.getElem?_toArray, List.getElem?_cons_succ, List.getElem?_cons_zero]; rfl) (by kernel_rfl) (by kernel_rfl) (by kernel_rfl) (by exact fun _ _ _ h => h) (Or.inr ⟨by rfl, rfl⟩) (by assumption) ?_
      try simp only [Act.put, List.setIfInBounds_toArray, List.set_cons_zero, List.set_cons_succ]
      refine wpAnyH_take (i := 16) (v := undef) (by simp only [List.getElem?_toArray, List.getElem?_cons_succ, List.getElem?_cons_zero]; rfl) (by kernel_rfl) (by kernel_rfl) (by kernel_rfl) (by exact fun _ _ _ h => h) (Or.inr ⟨by rfl, rfl⟩) (by assumption) ?_
      try simp only [Act.put, List.setIfInBounds_toArray, List.set_cons_zero, List.set_cons_succ]
      refine wpAnyH_take (i := 17) (v := undef) (by simp only [List.getElem?_toArray, List.getElem?_cons_succ, List.getElem?_cons_zero]; rfl) (by kernel_rfl) (by kernel_rfl) (by kernel_rfl) (by exact fun _ _ _ h => h) (Or.inr ⟨by rfl, rfl⟩) (by assumption) ?_
      try simp only [Act.put, List.setIfInBounds_toArray, List.set_cons_zero, List.set_cons_succ]
      refine wpAnyH_take (i := 18) (v := undef) (by simp only [List.getElem?_toArray, List.getElem?_cons_succ, List.getElem?_cons_zero]; rfl) (by kernel_rfl) (by kernel_rfl) (by kernel_rfl) (by exact fun _ _ _ h => h) (Or.inr ⟨by rfl, rfl⟩) (by assumption) ?_
      try simp only [Act.put, List.setIfInBounds_toArray, List.set_cons_zero, List.set_cons_succ]
      refine wpAnyH_take (i := 19) (v := ?_) (by simp only [List.getElem?_toArray, List.getElem?_cons_succ, List.getElem?_cons_zero]; rfl) (by kernel_rfl) (by kernel_rfl) (by kernel_rfl) (by exact fun _ _ _ h => h) (Or.inl ⟨by rfl, ?_⟩) (by assumption) ?_
      rotate_left 1
      · (intro wS hSw; (try dsimp only at hSw); go_simp; try (with_reducible rfl))
      try simp only [Act.put, List.setIfInBounds_toArray, List.set_cons_zero, List.set_cons_succ]
      refine wpAnyH_take (i := 20) (v := ?_) (by simp only [List.getElem?_toArray, List.getElem?_cons_succ, List.getElem?_cons_zero]; rfl) (by kernel_rfl) (by kernel_rfl) (by kernel_rfl) (by exact fun _ _ _ h => h) (Or.inl ⟨by rfl, ?_⟩) (by assumption) ?_
      rotate_left 1
      · (intro wS hSw; (try dsimp only at hSw); go_simp; try (with_reducible rfl))
      try simp only [Act.put, List.setIfInBounds_toArray, List.set_cons_zero, List.set_cons_succ]
      refine wpAnyH_done (by kernel_rfl) ?_ _
      go_wp2
      go_ret
      exact ⟨rfl, HB⟩
    refine AllReadyH.cons (i := 10) (by simp only [List.getElem?_toArray, List.getElem?_cons_succ, List.getElem?_cons_zero]; rfl) (fun K hK => ?_) AllReadyH.nil
    go_simp
    refine hK.out _ _ ?_ (fun hHeld => ?_)
    · ((try dsimp only); go_keep)
    clear hK K
    try simp only [Act.put, List.setIfInBounds_toArray, List.set_cons_zero, List.set_cons_succ]
    refine wpAnyH_take (i := 11) (v := ?_) (by simp only [List.getElem?_toArray, List.getElem?_cons_succ, List.getElem?_cons_zero]; rfl) (by kernel_rfl) (by kernel_rfl) (by kernel_rfl) (by exact fun _ _ _ h => h) (Or.inl ⟨by rfl, ?_⟩) (by assumption) ?_
    rotate_left 1
    · (intro wS hSw; (try dsimp only at hSw); go_simp; try (with_reducible rfl))
    try simp only [Act.put, List.setIfInBounds_toArray, List.set_cons_zero, List.set_cons_succ]
    clear hHeld
    refine wpAnyH_ready (rs := [5]) (by kernel_rfl) (by simp) ?_
    refine AllReadyH.cons (i := 5) (by simp only [List.getElem?_toArray, List.getElem?_cons_succ, List.getElem?_cons_zero]; rfl) (fun K hK => ?_) AllReadyH.nil
    go_simp
    refine hK.out _ _ ?_ (fun hHeld => ?_)
    · ((try dsimp only); go_keep)
    clear hK K
    try simp only [Act.put, List.setIfInBounds_toArray, List.set_cons_zero, List.set_cons_succ]
    clear hHeld
    refine wpAnyH_ready (rs := [12]) (by kernel_rfl) (by simp) ?_
    refine AllReadyH.cons (i := 12) (by simp only [List.getElem?_toArray, List.getElem?_cons_succ, List.getElem?_cons_zero]; rfl) (fun K hK => ?_) AllReadyH.nil
    go_simp
    go_at_call 76
    (with_reducible refine (HH.out _ (bel_d _)).mono ?_)
    rintro e wx ⟨rfl, hbx⟩
    have HB : Below w.heap.size w wx := bel (bel_d _) hbx
    have c2 := HC.out wx HB
    try (go_wp2_with fail)
    refine hK.out _ _ ?_ (fun hHeld => ?_)
    · ((try dsimp only); go_keep)
    clear hK K
    try simp only [Act.put, List.setIfInBounds_toArray, List.set_cons_zero, List.set_cons_succ]
    refine wpAnyH_take (i := 13) (v := ?_) (by simp only [List.getElem?_toArray, List.getElem?_cons_succ, List.getElem?_cons_zero]; rfl) (by kernel_rfl) (by kernel_rfl) (by kernel_rfl) (by exact fun _ _ _ h => h) (Or.inl ⟨by rfl, ?_⟩) (by assumption) ?_
    rotate_left 1
    · (intro wS hSw; (try dsimp only at hSw); go_simp; try (with_reducible rfl))
    try simp only [Act.put, List.setIfInBounds_toArray, List.set_cons_zero, List.set_cons_succ]
    refine wpAnyH_take (i := 14) (v := undef) (by simp only [List.getElem?_toArray, List.getElem?_cons_succ, List.getElem?_cons_zero]; rfl) (by kernel_rfl) (by kernel_rfl) (by kernel_rfl) (by exact fun _ _ _ h => h) (Or.inr ⟨by rfl, rfl⟩) (by assumption) ?_
    try simp only [Act.put, List.setIfInBounds_toArray, List.set_cons_zero, List.set_cons_succ]
    refine wpAnyH_take (i := 15) (v := undef) (by simp only [List.getElem?_toArray, List.getElem?_cons_succ, List.getElem?_cons_zero]; rfl) (by kernel_rfl) (by kernel_rfl) (by kernel_rfl) (by exact fun _ _ _ h => h) (Or.inr ⟨by rfl, rfl⟩) (by assumption) ?_
    try simp only [Act.put, List.setIfInBounds_toArray, List.set_cons_zero, List.set_cons_succ]
    refine wpAnyH_take (i := 16) (v := undef) (by simp only [List.getElem?_toArray, List.getElem?_cons_succ, List.getElem?_cons_zero]; rfl) (by kernel_rfl) (by kernel_rfl) (by kernel_rfl) (by exact fun _ _ _ h => h) (Or.inr ⟨by rfl, rfl⟩) (by assumption) ?_
    try simp only [Act.put, List.setIfInBounds_toArray, List.set_cons_zero, List.set_cons_succ]
    refine wpAnyH_take (i := 17) (v := undef) (by simp only [List.getElem?_toArray, List.getElem?_cons_succ, List.getElem?_cons_zero]; rfl) (by kernel_rfl) (by kernel_rfl) (by kernel_rfl) (by exact fun _ _ _ h => h) (Or.inr ⟨by rfl, rfl⟩) (by assumption) ?_
    try simp only [Act.put, List.setIfInBounds_toArray, List.set_cons_zero, List.set_cons_succ]
    refine wpAnyH_take (i := 18) (v := undef) (by simp only [List.getElem?_toArray, List.getElem?_cons_succ, List.getElem?_cons_zero]; rfl) (by kernel_rfl) (by kernel_rfl) (by kernel_rfl) (by exact fun _ _ _ h => h) (Or.inr ⟨by rfl, rfl⟩) (by assumption) ?_
    try simp only [Act.put, List.setIfInBounds_toArray, List.set_cons_zero, List.set_cons_succ]
    refine wpAnyH_take (i := 19) (v := ?_) (by simp only [List.getElem?_toArray, List.getElem?_cons_succ, List.getElem?_cons_zero]; rfl) (by kernel_rfl) (by kernel_rfl) (by kernel_rfl) (by exact fun _ _ _ h => h) (Or.inl ⟨by rfl, ?_⟩) (by assumption) ?_
    rotate_left 1
    · (intro wS hSw; (try dsimp only at hSw); go_simp; try (with_reducible rfl))
    try simp only [Act.put, List.setIfInBounds_toArray, List.set_cons_zero, List.set_cons_succ]
    refine wpAnyH_take (i := 20) (v := ?_) (by simp only [List.getElem?_toArray, List.getElem?_cons_succ, List.getElem?_cons_zero]; rfl) (by kernel_rfl) (by kernel_rfl) (by kernel_rfl) (by exact fun _ _ _ h => h) (Or.inl ⟨by rfl, ?_⟩) (by assumption) ?_
    rotate_left 1
    · (intro wS hSw; (try dsimp only at hSw); go_simp; try (with_reducible rfl))
    try simp only [Act.put, List.setIfInBounds_toArray, List.set_cons_zero, List.set_cons_succ]
    refine wpAnyH_done (by kernel_rfl) ?_ _
    go_wp2
    go_ret
    exact ⟨rfl, HB⟩
  · rw [hR] at HH
    clear hc h hR hB hz
    simp only [Bool.true_and]
    go_enter Try.func64, Try.ntmps64
    go_wp2
    go_region_held3 (fun w' => w'.cell? ⟨b, o + 2, none⟩ = some (.slice pi n ci)) (go_keep) (first
      | (go_at_call 76; (with_reducible refine (HH.out _ (bel_d _)).mono ?_); rintro e wx ⟨rfl, hbx⟩; have HB : Below w.heap.size w wx := bel (bel_d _) hbx; have c2 := HC.out wx HB)
      | (go_at_call 79; (with_reducible refine (HA.out _ HB).mono ?_); rintro e wy ⟨rfl, hby⟩; have HB : Below w.heap.size w wy := bel HB hby; have c2 := HC.out wy HB))
    all_goals go_wp2
    all_goals go_ret
    all_goals exact ⟨rfl, HB⟩

/-- No row. -/
theorem fits_none (t : Sc) (ho : t.op < 1 ∨ 13 < t.op) (b o : Nat) (w : World) (h : SA w b o t) : FitC t b o w false := by
  unfold FitC
  have HB : Below w.heap.size w w := bel0 w
  obtain ⟨pn, cn, pi, ci, pk, ck, hc⟩ := h.cells
  obtain ⟨c0, -⟩ := hc w HB
  have z1 : (t.op == 1) = false := by simp; omega
  have z2 : (t.op == 2) = false := by simp; omega
  have z3 : (t.op == 3) = false := by simp; omega
  have z4 : (t.op == 4) = false := by simp; omega
  have z5 : (t.op == 5) = false := by simp; omega
  have z6 : (t.op == 6) = false := by simp; omega
  have z7 : (t.op == 7) = false := by simp; omega
  have z8 : (t.op == 8) = false := by simp; omega
  have z9 : (t.op == 9) = false := by simp; omega
  have z10 : (t.op == 10) = false := by simp; omega
  have z11 : (t.op == 11) = false := by simp; omega
  have z12 : (t.op == 12) = false := by simp; omega
  have z13 : (t.op == 13) = false := by simp; omega
  clear hc h ho
  go_enter Try.func64, Try.ntmps64
  go_wp2
  go_ret
  exact ⟨rfl, HB⟩

theorem fitsRow_any (t : Sc) (b o : Nat) (hz : sz t) (w : World) (h : SA w b o t) : FitC t b o w (fitsP t) := by
  unfold fitsP
  by_cases h1 : t.op = 1
  · rw [if_pos h1]; exact fits_1 t h1 b o hz w h
  rw [if_neg h1]
  by_cases h2 : t.op = 2
  · rw [if_pos h2]; exact fits_2 t h2 b o hz w h
  rw [if_neg h2]
  by_cases h3 : t.op = 3
  · rw [if_pos h3]; exact fits_3 t h3 b o hz w h
  rw [if_neg h3]
  by_cases h4 : t.op = 4
  · rw [if_pos h4]; exact fits_4 t h4 b o hz w h
  rw [if_neg h4]
  by_cases h5 : t.op = 5
  · rw [if_pos h5]; exact fits_5 t h5 b o hz w h
  rw [if_neg h5]
  by_cases h6 : t.op = 6
  · rw [if_pos h6]; exact fits_6 t h6 b o hz w h
  rw [if_neg h6]
  by_cases h7 : t.op = 7
  · rw [if_pos h7]; exact fits_7 t h7 b o hz w h
  rw [if_neg h7]
  by_cases h8 : t.op = 8 ∨ t.op = 9 ∨ t.op = 10 ∨ t.op = 11
  · rw [if_pos h8]
    rcases h8 with h | h | h | h
    · exact fits_8 t h b o hz w (by assumption)
    · exact fits_9 t h b o hz w (by assumption)
    · exact fits_10 t h b o hz w (by assumption)
    · exact fits_11 t h b o hz w (by assumption)
  rw [if_neg h8]
  by_cases h12 : t.op = 12 ∨ t.op = 13
  · rw [if_pos h12]
    rcases h12 with h | h
    · exact fits_12 t h b o hz w (by assumption)
    · exact fits_13 t h b o hz w (by assumption)
  rw [if_neg h12]
  exact fits_none t (by omega) b o w h

end Go.Proofs.Ytnogokikiekcbaa
