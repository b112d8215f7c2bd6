import Derived.Test.YtnogokikiekcbaaPart9
/- Package sched: at, Value. -/
namespace Go.Proofs.Ytnogokikiekcbaa
open Go.RowKit
set_option linter.unusedVariables false
set_option linter.unusedSimpArgs false

theorem isPow_iff {n : Int} (h : isPow n = true) : 1 ≤ n ∧ n ≤ 1024 := by unfold isPow at h; simpa using h
theorem isStp_iff {n : Int} (h : isStp n = true) : 1 ≤ n ∧ n ≤ 2147483647 := by unfold isStp at h; simpa using h
theorem isCnt_iff {n : Int} (h : isCnt n = true) : 0 ≤ n ∧ n ≤ 2147483647 := by unfold isCnt at h; simpa using h
theorem list0 {l : List Int} (h : l.length = 0) : l = [] := List.length_eq_zero_iff.1 h
theorem kids0 {l : List Sc} (h : l.length = 0) : l = [] := List.length_eq_zero_iff.1 h
theorem kids1 {l : List Sc} (h : l.length = 1) : ∃ a, l = [a] := by
  match l, h with
  | [a], _ => exact ⟨a, rfl⟩
theorem kids2 {l : List Sc} (h : l.length = 2) : ∃ a b, l = [a, b] := by
  match l, h with
  | [a, b], _ => exact ⟨a, b, rfl⟩
/-- What a row that fits is. -/
theorem inv_1 {ns is : List Int} {ks : List Sc} (h : fitsP ⟨1, ns, is, ks⟩ = true) : ∃ a, ns = [a] ∧ is = [] ∧ ks = [] := by
  have h : hasN ⟨1, ns, is, ks⟩ 1 0 0 = true := h
  obtain ⟨l1, l2, l3⟩ := hasN_len h
  obtain ⟨a, e⟩ := list1 l1
  exact ⟨a, e, list0 l2, kids0 l3⟩
theorem inv_2 {ns is : List Int} {ks : List Sc} (h : fitsP ⟨2, ns, is, ks⟩ = true) : ∃ a b p s g, ns = [a, b] ∧ is = [p, s, g] ∧ ks = [] ∧ (1 ≤ p ∧ p ≤ 1024) ∧ (1 ≤ s ∧ s ≤ 2147483647) ∧ (0 ≤ g ∧ g ≤ 2147483647) := by
  have h : (hasN ⟨2, ns, is, ks⟩ 2 3 0 && isPow (is.getD 0 0) && isStp (is.getD 1 0) && isCnt (is.getD 2 0)) = true := h
  simp only [Bool.and_eq_true] at h
  obtain ⟨⟨⟨h, q1⟩, q2⟩, q3⟩ := h
  obtain ⟨l1, l2, l3⟩ := hasN_len h
  obtain ⟨a, b, rfl⟩ := list2 l1
  obtain ⟨p, s, g, rfl⟩ := list3 l2
  exact ⟨a, b, p, s, g, rfl, rfl, kids0 l3, isPow_iff q1, isStp_iff q2, isCnt_iff q3⟩
theorem inv_3 {ns is : List Int} {ks : List Sc} (h : fitsP ⟨3, ns, is, ks⟩ = true) : ∃ a b s g, ns = [a, b] ∧ is = [s, g] ∧ ks = [] ∧ (1 ≤ s ∧ s ≤ 2147483647) ∧ (0 ≤ g ∧ g ≤ 2147483647) := by
  have h : (hasN ⟨3, ns, is, ks⟩ 2 2 0 && fless 0 (ns.getD 1 0) && isStp (is.getD 0 0) && isCnt (is.getD 1 0)) = true := h
  simp only [Bool.and_eq_true] at h
  obtain ⟨⟨⟨h, q1⟩, q2⟩, q3⟩ := h
  obtain ⟨l1, l2, l3⟩ := hasN_len h
  obtain ⟨a, b, rfl⟩ := list2 l1
  obtain ⟨s, g, rfl⟩ := list2 l2
  exact ⟨a, b, s, g, rfl, rfl, kids0 l3, isStp_iff q2, isCnt_iff q3⟩
theorem inv_4 {ns is : List Int} {ks : List Sc} (h : fitsP ⟨4, ns, is, ks⟩ = true) : ∃ a b s, ns = [a, b] ∧ is = [s] ∧ ks = [] ∧ (1 ≤ s ∧ s ≤ 2147483647) := by
  have h : (hasN ⟨4, ns, is, ks⟩ 2 1 0 && isStp (is.getD 0 0)) = true := h
  simp only [Bool.and_eq_true] at h
  obtain ⟨h, q2⟩ := h
  obtain ⟨l1, l2, l3⟩ := hasN_len h
  obtain ⟨a, b, rfl⟩ := list2 l1
  obtain ⟨s, rfl⟩ := list1 l2
  exact ⟨a, b, s, rfl, rfl, kids0 l3, isStp_iff q2⟩
theorem inv_5 {ns is : List Int} {ks : List Sc} (h : fitsP ⟨5, ns, is, ks⟩ = true) : ∃ a ss, ns = a :: ss ∧ is.length = ss.length ∧ ks = [] ∧ risesA 0 is = true ∧ is ≠ [] := by
  have h : (hasN ⟨5, ns, is, ks⟩ (is.length + 1) is.length 0 && bnds is) = true := h
  simp only [Bool.and_eq_true] at h
  obtain ⟨h, q2⟩ := h
  obtain ⟨l1, l2, l3⟩ := hasN_len h
  unfold bnds at q2
  simp only [Bool.and_eq_true] at q2
  cases ns with
  | nil => simp at l1
  | cons a ss => exact ⟨a, ss, rfl, by simpa using l1.symm, kids0 l3, q2.1, by intro e; rw [e] at q2; simp at q2⟩
theorem inv_6 {ns is : List Int} {ks : List Sc} (h : fitsP ⟨6, ns, is, ks⟩ = true) : ns = [] ∧ ks.length = is.length + 1 ∧ risesA 0 is = true ∧ is ≠ [] := by
  have h : (hasN ⟨6, ns, is, ks⟩ 0 is.length (is.length + 1) && bnds is) = true := h
  simp only [Bool.and_eq_true] at h
  obtain ⟨h, q2⟩ := h
  obtain ⟨l1, l2, l3⟩ := hasN_len h
  unfold bnds at q2
  simp only [Bool.and_eq_true] at q2
  exact ⟨list0 l1, l3, q2.1, by intro e; rw [e] at q2; simp at q2⟩
theorem inv_7 {ns is : List Int} {ks : List Sc} (h : fitsP ⟨7, ns, is, ks⟩ = true) : ∃ a s, ns = [a] ∧ is = [s] ∧ ks = [] ∧ (1 ≤ s ∧ s ≤ 2147483647) := by
  have h : (hasN ⟨7, ns, is, ks⟩ 1 1 0 && isStp (is.getD 0 0)) = true := h
  simp only [Bool.and_eq_true] at h
  obtain ⟨h, q2⟩ := h
  obtain ⟨l1, l2, l3⟩ := hasN_len h
  obtain ⟨a, rfl⟩ := list1 l1
  obtain ⟨s, rfl⟩ := list1 l2
  exact ⟨a, s, rfl, rfl, kids0 l3, isStp_iff q2⟩
theorem inv_8 {ns is : List Int} {ks : List Sc} (h : fitsP ⟨8, ns, is, ks⟩ = true) : ∃ k l, ns = [] ∧ is = [] ∧ ks = [k, l] := by
  have h : hasN ⟨8, ns, is, ks⟩ 0 0 2 = true := h
  obtain ⟨l1, l2, l3⟩ := hasN_len h
  obtain ⟨k, l, e⟩ := kids2 l3
  exact ⟨k, l, list0 l1, list0 l2, e⟩
theorem inv_9 {ns is : List Int} {ks : List Sc} (h : fitsP ⟨9, ns, is, ks⟩ = true) : ∃ k l, ns = [] ∧ is = [] ∧ ks = [k, l] := by
  have h : hasN ⟨9, ns, is, ks⟩ 0 0 2 = true := h
  obtain ⟨l1, l2, l3⟩ := hasN_len h
  obtain ⟨k, l, e⟩ := kids2 l3
  exact ⟨k, l, list0 l1, list0 l2, e⟩
theorem inv_10 {ns is : List Int} {ks : List Sc} (h : fitsP ⟨10, ns, is, ks⟩ = true) : ∃ k l, ns = [] ∧ is = [] ∧ ks = [k, l] := by
  have h : hasN ⟨10, ns, is, ks⟩ 0 0 2 = true := h
  obtain ⟨l1, l2, l3⟩ := hasN_len h
  obtain ⟨k, l, e⟩ := kids2 l3
  exact ⟨k, l, list0 l1, list0 l2, e⟩
theorem inv_11 {ns is : List Int} {ks : List Sc} (h : fitsP ⟨11, ns, is, ks⟩ = true) : ∃ k l, ns = [] ∧ is = [] ∧ ks = [k, l] := by
  have h : hasN ⟨11, ns, is, ks⟩ 0 0 2 = true := h
  obtain ⟨l1, l2, l3⟩ := hasN_len h
  obtain ⟨k, l, e⟩ := kids2 l3
  exact ⟨k, l, list0 l1, list0 l2, e⟩
theorem inv_12 {ns is : List Int} {ks : List Sc} (h : fitsP ⟨12, ns, is, ks⟩ = true) : ∃ g k, ns = [] ∧ is = [g] ∧ ks = [k] ∧ (0 ≤ g ∧ g ≤ 2147483647) := by
  have h : (hasN ⟨12, ns, is, ks⟩ 0 1 1 && isCnt (is.getD 0 0)) = true := h
  simp only [Bool.and_eq_true] at h
  obtain ⟨h, q2⟩ := h
  obtain ⟨l1, l2, l3⟩ := hasN_len h
  obtain ⟨k, e⟩ := kids1 l3
  obtain ⟨g, rfl⟩ := list1 l2
  exact ⟨g, k, list0 l1, rfl, e, isCnt_iff q2⟩
theorem inv_13 {ns is : List Int} {ks : List Sc} (h : fitsP ⟨13, ns, is, ks⟩ = true) : ∃ g k, ns = [] ∧ is = [g] ∧ ks = [k] ∧ (0 ≤ g ∧ g ≤ 2147483647) := by
  have h : (hasN ⟨13, ns, is, ks⟩ 0 1 1 && isCnt (is.getD 0 0)) = true := h
  simp only [Bool.and_eq_true] at h
  obtain ⟨h, q2⟩ := h
  obtain ⟨l1, l2, l3⟩ := hasN_len h
  obtain ⟨k, e⟩ := kids1 l3
  obtain ⟨g, rfl⟩ := list1 l2
  exact ⟨g, k, list0 l1, rfl, e, isCnt_iff q2⟩
theorem inv_op {op : Int} {ns is : List Int} {ks : List Sc} (h : fitsP ⟨op, ns, is, ks⟩ = true) : 1 ≤ op ∧ op ≤ 13 := by
  unfold fitsP at h
  simp only at h
  repeat' split at h
  all_goals first | omega | cases h
theorem SA.kid {w : World} {b o : Nat} {op : Int} {ns is : List Int} {k : Sc} {r : List Sc} (h : SA w b o ⟨op, ns, is, k :: r⟩) : ∃ b3 o3 c3, (∀ v, Below w.heap.size w v → v.cell? ⟨b, o + 3, none⟩ = some (.slice (some ⟨b3, o3, none⟩) (r.length + 1) c3)) ∧ ∀ i (hi : i < (k :: r).length), SA w b3 (o3 + i * 4) (k :: r)[i] := by
  obtain ⟨-, -, -, -, pk', ck', -, -, -, e3, -, -, k3⟩ := h.open
  obtain ⟨b3, o3, rfl, -⟩ := k3 0 (by simp)
  refine ⟨b3, o3, ck', fun v hv => bcell e3 hv, fun i hi => ?_⟩
  obtain ⟨b', o', e, h'⟩ := k3 i hi
  simp only [Option.some.injEq, Addr.mk.injEq] at e
  obtain ⟨rfl, rfl, -⟩ := e
  exact h'
theorem vt_8 (k l : Sc) (n : Int) : valT ⟨8, [], [], [k, l]⟩ n = fadd (valT k n) (valT l n) := by
  show rowV ⟨8, [], [], [k, l]⟩ (valsL [k, l]) n = _
  rw [valsL_map]; rfl
theorem vt_9 (k l : Sc) (n : Int) : valT ⟨9, [], [], [k, l]⟩ n = fmul (valT k n) (valT l n) := by
  show rowV ⟨9, [], [], [k, l]⟩ (valsL [k, l]) n = _
  rw [valsL_map]; rfl
theorem vt_10 (k l : Sc) (n : Int) : valT ⟨10, [], [], [k, l]⟩ n = fmin (valT k n) (valT l n) := by
  show rowV ⟨10, [], [], [k, l]⟩ (valsL [k, l]) n = _
  rw [valsL_map]; rfl
theorem vt_11 (k l : Sc) (n : Int) : valT ⟨11, [], [], [k, l]⟩ n = fmax (valT k n) (valT l n) := by
  show rowV ⟨11, [], [], [k, l]⟩ (valsL [k, l]) n = _
  rw [valsL_map]; rfl
theorem vt_12 (k : Sc) (g n : Int) : valT ⟨12, [], [g], [k]⟩ n = valT k (max (n - g) 0) := by
  show rowV ⟨12, [], [g], [k]⟩ (valsL [k]) n = _
  rw [valsL_map]; rfl
theorem vt_13 (k : Sc) (g n : Int) : valT ⟨13, [], [g], [k]⟩ n = valT k (min n g) := by
  show rowV ⟨13, [], [g], [k]⟩ (valsL [k]) n = _
  rw [valsL_map]; rfl
theorem pat_val : ∀ t : Sc, sok t → allT t → ∀ n, Pat (valT t n) := by
  apply stree
  intro t ih hok hall n
  obtain ⟨op, ns, is, ks⟩ := t
  have hop := inv_op hall.1
  have hpn : ∀ x ∈ ns, Pat x := hok.1.2.1
  have hks := (sokL_iff _).1 hok.2
  have hka := (allF_iff _).1 hall.2
  have ih' : ∀ k ∈ ks, ∀ n, Pat (valT k n) := fun k hk => ih k hk (hks k hk) (hka k hk)
  have hc : op = 1 ∨ op = 2 ∨ op = 3 ∨ op = 4 ∨ op = 5 ∨ op = 6 ∨ op = 7 ∨ op = 8 ∨ op = 9 ∨ op = 10 ∨ op = 11 ∨ op = 12 ∨ op = 13 := by omega
  have hf := hall.1
  rcases hc with rfl | rfl | rfl | rfl | rfl | rfl | rfl | rfl | rfl | rfl | rfl | rfl | rfl
  · obtain ⟨a, rfl, rfl, rfl⟩ := inv_1 hf
    exact hpn a (by simp)
  · exact pat_add _ _
  · exact pat_mul _ _
  · exact pat_mul _ _
  · obtain ⟨a, ss, rfl, hl, -⟩ := inv_5 hf
    show Pat (pieceV n a is ss)
    rw [piece_take n is ss a hl]
    exact pat_pmul (hpn a (by simp)) ss _ (by rw [← hl]; exact kid_le n is)
  · obtain ⟨rfl, hl, -⟩ := inv_6 hf
    show Pat ((valsL ks).getD (kidOf n is) id (n - fromOf is (kidOf n is)))
    have hk := kid_le n is
    have hlt : kidOf n is < ks.length := by omega
    rw [vals_at ⟨6, [], is, ks⟩ hlt]
    exact ih' _ (List.getElem_mem _) _
  · exact pat_mul _ _
  · exact pat_add _ _
  · exact pat_mul _ _
  · obtain ⟨k, l, rfl, rfl, rfl⟩ := inv_10 hf
    rw [vt_10]
    exact pat_min (ih' k (by simp) n) (ih' l (by simp) n)
  · obtain ⟨k, l, rfl, rfl, rfl⟩ := inv_11 hf
    rw [vt_11]
    exact pat_max (ih' k (by simp) n) (ih' l (by simp) n)
  · obtain ⟨g, k, rfl, rfl, rfl, -⟩ := inv_12 hf
    rw [vt_12]
    exact ih' k (by simp) _
  · obtain ⟨g, k, rfl, rfl, rfl, -⟩ := inv_13 hf
    rw [vt_13]
    exact ih' k (by simp) _

/-- at, one row. -/
def AtC (w : World) (b o : Nat) (n : Int) (V : Int) : Prop := Calls Try.prog 29 #[.pointer (some ⟨b, o, none⟩), .int .i64 n] w fun e w' => e = .returned (.int .u32 V) ∧ Below w.heap.size w w'

theorem at_2 (n V : Int) (b o : Nat) (w : World) (c0 : w.cell? ⟨b, o, none⟩ = some (.int .i64 2)) (h : Calls Try.prog 51 #[.pointer (some ⟨b, o, none⟩), .int .i64 n] w fun e w' => e = .returned (.int .u32 V) ∧ Below w.heap.size w w') : AtC w b o n V := by
  unfold AtC
  have HW : Hid (Calls Try.prog 51 #[.pointer (some ⟨b, o, none⟩), .int .i64 n] w fun e w' => e = .returned (.int .u32 V) ∧ Below w.heap.size w w') := h
  clear h
  go_enter Try.func29, Try.ntmps29
  go_wp2_with (go_at_call 51; (with_reducible refine HW.out.mono ?_); rintro e w1 ⟨rfl, hb1⟩)
  go_ret
  exact ⟨rfl, hb1⟩

theorem at_3 (n V : Int) (b o : Nat) (w : World) (c0 : w.cell? ⟨b, o, none⟩ = some (.int .i64 3)) (h : Calls Try.prog 52 #[.pointer (some ⟨b, o, none⟩), .int .i64 n] w fun e w' => e = .returned (.int .u32 V) ∧ Below w.heap.size w w') : AtC w b o n V := by
  unfold AtC
  have HW : Hid (Calls Try.prog 52 #[.pointer (some ⟨b, o, none⟩), .int .i64 n] w fun e w' => e = .returned (.int .u32 V) ∧ Below w.heap.size w w') := h
  clear h
  go_enter Try.func29, Try.ntmps29
  go_wp2_with (go_at_call 52; (with_reducible refine HW.out.mono ?_); rintro e w1 ⟨rfl, hb1⟩)
  go_ret
  exact ⟨rfl, hb1⟩

theorem at_4 (n V : Int) (b o : Nat) (w : World) (c0 : w.cell? ⟨b, o, none⟩ = some (.int .i64 4)) (h : Calls Try.prog 53 #[.pointer (some ⟨b, o, none⟩), .int .i64 n] w fun e w' => e = .returned (.int .u32 V) ∧ Below w.heap.size w w') : AtC w b o n V := by
  unfold AtC
  have HW : Hid (Calls Try.prog 53 #[.pointer (some ⟨b, o, none⟩), .int .i64 n] w fun e w' => e = .returned (.int .u32 V) ∧ Below w.heap.size w w') := h
  clear h
  go_enter Try.func29, Try.ntmps29
  go_wp2_with (go_at_call 53; (with_reducible refine HW.out.mono ?_); rintro e w1 ⟨rfl, hb1⟩)
  go_ret
  exact ⟨rfl, hb1⟩

theorem at_5 (n V : Int) (b o : Nat) (w : World) (c0 : w.cell? ⟨b, o, none⟩ = some (.int .i64 5)) (h : Calls Try.prog 54 #[.pointer (some ⟨b, o, none⟩), .int .i64 n] w fun e w' => e = .returned (.int .u32 V) ∧ Below w.heap.size w w') : AtC w b o n V := by
  unfold AtC
  have HW : Hid (Calls Try.prog 54 #[.pointer (some ⟨b, o, none⟩), .int .i64 n] w fun e w' => e = .returned (.int .u32 V) ∧ Below w.heap.size w w') := h
  clear h
  go_enter Try.func29, Try.ntmps29
  go_wp2_with (go_at_call 54; (with_reducible refine HW.out.mono ?_); rintro e w1 ⟨rfl, hb1⟩)
  go_ret
  exact ⟨rfl, hb1⟩

theorem at_6 (n V : Int) (b o : Nat) (w : World) (c0 : w.cell? ⟨b, o, none⟩ = some (.int .i64 6)) (h : Calls Try.prog 55 #[.pointer (some ⟨b, o, none⟩), .int .i64 n] w fun e w' => e = .returned (.int .u32 V) ∧ Below w.heap.size w w') : AtC w b o n V := by
  unfold AtC
  have HW : Hid (Calls Try.prog 55 #[.pointer (some ⟨b, o, none⟩), .int .i64 n] w fun e w' => e = .returned (.int .u32 V) ∧ Below w.heap.size w w') := h
  clear h
  go_enter Try.func29, Try.ntmps29
  go_wp2_with (go_at_call 55; (with_reducible refine HW.out.mono ?_); rintro e w1 ⟨rfl, hb1⟩)
  go_ret
  exact ⟨rfl, hb1⟩

theorem at_7 (n V : Int) (b o : Nat) (w : World) (c0 : w.cell? ⟨b, o, none⟩ = some (.int .i64 7)) (h : Calls Try.prog 56 #[.pointer (some ⟨b, o, none⟩), .int .i64 n] w fun e w' => e = .returned (.int .u32 V) ∧ Below w.heap.size w w') : AtC w b o n V := by
  unfold AtC
  have HW : Hid (Calls Try.prog 56 #[.pointer (some ⟨b, o, none⟩), .int .i64 n] w fun e w' => e = .returned (.int .u32 V) ∧ Below w.heap.size w w') := h
  clear h
  go_enter Try.func29, Try.ntmps29
  go_wp2_with (go_at_call 56; (with_reducible refine HW.out.mono ?_); rintro e w1 ⟨rfl, hb1⟩)
  go_ret
  exact ⟨rfl, hb1⟩

theorem at_8 (n V : Int) (b o : Nat) (w : World) (c0 : w.cell? ⟨b, o, none⟩ = some (.int .i64 8)) (h : Calls Try.prog 57 #[.pointer (some ⟨b, o, none⟩), .int .i64 n, .func (.func 58) #[] #[]] w fun e w' => e = .returned (.int .u32 V) ∧ Below w.heap.size w w') : AtC w b o n V := by
  unfold AtC
  have HW : Hid (Calls Try.prog 57 #[.pointer (some ⟨b, o, none⟩), .int .i64 n, .func (.func 58) #[] #[]] w fun e w' => e = .returned (.int .u32 V) ∧ Below w.heap.size w w') := h
  clear h
  go_enter Try.func29, Try.ntmps29
  go_wp2_with (go_at_call 57; (with_reducible refine HW.out.mono ?_); rintro e w1 ⟨rfl, hb1⟩)
  go_ret
  exact ⟨rfl, hb1⟩

theorem at_9 (n V : Int) (b o : Nat) (w : World) (c0 : w.cell? ⟨b, o, none⟩ = some (.int .i64 9)) (h : Calls Try.prog 57 #[.pointer (some ⟨b, o, none⟩), .int .i64 n, .func (.func 59) #[] #[]] w fun e w' => e = .returned (.int .u32 V) ∧ Below w.heap.size w w') : AtC w b o n V := by
  unfold AtC
  have HW : Hid (Calls Try.prog 57 #[.pointer (some ⟨b, o, none⟩), .int .i64 n, .func (.func 59) #[] #[]] w fun e w' => e = .returned (.int .u32 V) ∧ Below w.heap.size w w') := h
  clear h
  go_enter Try.func29, Try.ntmps29
  go_wp2_with (go_at_call 57; (with_reducible refine HW.out.mono ?_); rintro e w1 ⟨rfl, hb1⟩)
  go_ret
  exact ⟨rfl, hb1⟩

theorem at_10 (n V : Int) (b o : Nat) (w : World) (c0 : w.cell? ⟨b, o, none⟩ = some (.int .i64 10)) (h : Calls Try.prog 57 #[.pointer (some ⟨b, o, none⟩), .int .i64 n, .func (.func 34) #[] #[]] w fun e w' => e = .returned (.int .u32 V) ∧ Below w.heap.size w w') : AtC w b o n V := by
  unfold AtC
  have HW : Hid (Calls Try.prog 57 #[.pointer (some ⟨b, o, none⟩), .int .i64 n, .func (.func 34) #[] #[]] w fun e w' => e = .returned (.int .u32 V) ∧ Below w.heap.size w w') := h
  clear h
  go_enter Try.func29, Try.ntmps29
  go_wp2_with (go_at_call 57; (with_reducible refine HW.out.mono ?_); rintro e w1 ⟨rfl, hb1⟩)
  go_ret
  exact ⟨rfl, hb1⟩

theorem at_11 (n V : Int) (b o : Nat) (w : World) (c0 : w.cell? ⟨b, o, none⟩ = some (.int .i64 11)) (h : Calls Try.prog 57 #[.pointer (some ⟨b, o, none⟩), .int .i64 n, .func (.func 35) #[] #[]] w fun e w' => e = .returned (.int .u32 V) ∧ Below w.heap.size w w') : AtC w b o n V := by
  unfold AtC
  have HW : Hid (Calls Try.prog 57 #[.pointer (some ⟨b, o, none⟩), .int .i64 n, .func (.func 35) #[] #[]] w fun e w' => e = .returned (.int .u32 V) ∧ Below w.heap.size w w') := h
  clear h
  go_enter Try.func29, Try.ntmps29
  go_wp2_with (go_at_call 57; (with_reducible refine HW.out.mono ?_); rintro e w1 ⟨rfl, hb1⟩)
  go_ret
  exact ⟨rfl, hb1⟩

theorem at_1 (n a : Int) (b o : Nat) (w : World) (h : SA w b o ⟨1, [a], [], []⟩) : AtC w b o n a := by
  unfold AtC
  obtain ⟨pn, cn, pi, ci, pk, ck, hc⟩ := h.cells
  obtain ⟨c0, c1, -, -, r1, -⟩ := hc w (bel0 w)
  obtain ⟨b1, o1, rfl, d0⟩ := r1.get (i := 0) (by simp)
  simp only [List.length_cons, List.length_nil, Nat.zero_add] at c1 c0
  simp only [List.getElem_cons_zero, Nat.add_zero] at d0
  clear hc r1 h
  go_enter Try.func29, Try.ntmps29
  go_wp2
  go_ret
  exact ⟨rfl, bel0 w⟩

set_option maxRecDepth 100000 in
set_option maxHeartbeats 1000000 in
theorem at_12 (n g V : Int) (k : Sc) (hn : 0 ≤ n ∧ n ≤ 2147483647) (hg : 0 ≤ g ∧ g ≤ 2147483647) (b o b3 o3 ck : Nat) (w : World) (h : SA w b o ⟨12, [], [g], [k]⟩) (c3 : w.cell? ⟨b, o + 3, none⟩ = some (.slice (some ⟨b3, o3, none⟩) 1 ck))
    (hk : ∀ v, Below w.heap.size w v → Calls Try.prog 29 #[.pointer (some ⟨b3, o3, none⟩), .int .i64 (max (n - g) 0)] v fun e w' => e = .returned (.int .u32 V) ∧ Below v.heap.size v w') : AtC w b o n V := by
  unfold AtC
  obtain ⟨pn, cn, pi, ci, pk, ck', hc⟩ := h.cells
  obtain ⟨c0, -, c2, -, -, r2⟩ := hc w (bel0 w)
  obtain ⟨b2, o2, rfl, d0⟩ := r2.get (i := 0) (by simp)
  simp only [List.length_cons, List.length_nil, Nat.zero_add] at c2 c0
  simp only [List.getElem_cons_zero, Nat.add_zero] at d0
  have w1 : IntKind.i64.wrap (n - g) = n - g := by rw [IntKind.wrap_i64]; omega
  have HK : Hid (∀ v, Below w.heap.size w v → Calls Try.prog 29 #[.pointer (some ⟨b3, o3, none⟩), .int .i64 (max (n - g) 0)] v fun e w' => e = .returned (.int .u32 V) ∧ Below v.heap.size v w') := hk
  clear hc r2 h hk
  go_enter Try.func29, Try.ntmps29
  go_wp2
  go_region_held3 (fun w' => w'.cell? ⟨b, o + 3, none⟩ = some (.slice (some ⟨b3, o3, none⟩) 1 ck) ∧ w'.cell? ⟨b, o + 2, none⟩ = some (.slice (some ⟨b2, o2, none⟩) 1 ci) ∧ w'.cell? ⟨b2, o2, none⟩ = some (.int .i64 g)) (go_keep) (first
    | (go_at_call 29; (with_reducible refine (HK.out _ (bel_d _)).mono ?_); rintro e w1 ⟨rfl, hb1⟩; have HB : Below w.heap.size w w1 := bel (bel_d _) hb1; have k1 := bcell c3 HB; have k2 := bcell c2 HB; have k3 := bcell d0 HB))
  all_goals go_wp2
  all_goals go_ret
  all_goals exact ⟨rfl, HB⟩

set_option maxRecDepth 100000 in
set_option maxHeartbeats 1000000 in
theorem at_13 (n g V : Int) (k : Sc) (hn : 0 ≤ n ∧ n ≤ 2147483647) (hg : 0 ≤ g ∧ g ≤ 2147483647) (b o b3 o3 ck : Nat) (w : World) (h : SA w b o ⟨13, [], [g], [k]⟩) (c3 : w.cell? ⟨b, o + 3, none⟩ = some (.slice (some ⟨b3, o3, none⟩) 1 ck))
    (hk : ∀ v, Below w.heap.size w v → Calls Try.prog 29 #[.pointer (some ⟨b3, o3, none⟩), .int .i64 (min n g)] v fun e w' => e = .returned (.int .u32 V) ∧ Below v.heap.size v w') : AtC w b o n V := by
  unfold AtC
  obtain ⟨pn, cn, pi, ci, pk, ck', hc⟩ := h.cells
  obtain ⟨c0, -, c2, -, -, r2⟩ := hc w (bel0 w)
  obtain ⟨b2, o2, rfl, d0⟩ := r2.get (i := 0) (by simp)
  simp only [List.length_cons, List.length_nil, Nat.zero_add] at c2 c0
  simp only [List.getElem_cons_zero, Nat.add_zero] at d0
  have HK : Hid (∀ v, Below w.heap.size w v → Calls Try.prog 29 #[.pointer (some ⟨b3, o3, none⟩), .int .i64 (min n g)] v fun e w' => e = .returned (.int .u32 V) ∧ Below v.heap.size v w') := hk
  clear hc r2 h hk
  go_enter Try.func29, Try.ntmps29
  go_wp2
  go_region_held3 (fun w' => w'.cell? ⟨b, o + 3, none⟩ = some (.slice (some ⟨b3, o3, none⟩) 1 ck) ∧ w'.cell? ⟨b, o + 2, none⟩ = some (.slice (some ⟨b2, o2, none⟩) 1 ci) ∧ w'.cell? ⟨b2, o2, none⟩ = some (.int .i64 g)) (go_keep) (first
    | (go_at_call 29; (with_reducible refine (HK.out _ (bel_d _)).mono ?_); rintro e w1 ⟨rfl, hb1⟩; have HB : Below w.heap.size w w1 := bel (bel_d _) hb1; have k1 := bcell c3 HB; have k2 := bcell c2 HB; have k3 := bcell d0 HB))
  all_goals go_wp2
  all_goals go_ret
  all_goals exact ⟨rfl, HB⟩

theorem at_to : ∀ t, AtA t := by
  apply stree
  intro t ih n b o w h0 h1 hok hall h
  show AtC w b o n (valT t n)
  obtain ⟨op, ns, is, ks⟩ := t
  have hop := inv_op hall.1
  have hpn : ∀ x ∈ ns, Pat x := hok.1.2.1
  have hf := hall.1
  have c0 : w.cell? ⟨b, o, none⟩ = some (.int .i64 op) := h.1
  have hsk := (sokL_iff _).1 hok.2
  have hak := (allF_iff _).1 hall.2
  have hc : op = 1 ∨ op = 2 ∨ op = 3 ∨ op = 4 ∨ op = 5 ∨ op = 6 ∨ op = 7 ∨ op = 8 ∨ op = 9 ∨ op = 10 ∨ op = 11 ∨ op = 12 ∨ op = 13 := by omega
  rcases hc with rfl | rfl | rfl | rfl | rfl | rfl | rfl | rfl | rfl | rfl | rfl | rfl | rfl
  · obtain ⟨a, rfl, rfl, rfl⟩ := inv_1 hf
    exact at_1 n a b o w h
  · obtain ⟨a, b', p, s, g, rfl, rfl, rfl, hp, hs, hg⟩ := inv_2 hf
    exact at_2 n _ b o w c0 (poly_any a b' p s g n [] hpn ⟨h0, h1⟩ hp hs hg b o w h)
  · obtain ⟨a, b', s, g, rfl, rfl, rfl, hs, hg⟩ := inv_3 hf
    exact at_3 n _ b o w c0 (expo_any a b' s g n [] hpn ⟨h0, h1⟩ hs hg b o w h)
  · obtain ⟨a, b', s, rfl, rfl, rfl, hs⟩ := inv_4 hf
    exact at_4 n _ b o w c0 (cos_any a b' s n [] hpn ⟨h0, h1⟩ hs b o w h)
  · obtain ⟨a, ss, rfl, hl, rfl, hr, -⟩ := inv_5 hf
    exact at_5 n _ b o w c0 (piece_any a n ss is [] (hpn a (by simp)) (fun x hx => hpn x (by simp [hx])) hl (by have := risesA_len is 0 hr (by decide); omega) b o w h)
  · obtain ⟨rfl, hl, hr, -⟩ := inv_6 hf
    exact at_6 n _ b o w c0 (join_any n ⟨6, [], is, ks⟩ ⟨h0, h1⟩ hr hl hok hall.2 ih b o w h)
  · obtain ⟨a, s, rfl, rfl, rfl, hs⟩ := inv_7 hf
    exact at_7 n _ b o w c0 (inv_any a s n [] hpn ⟨h0, h1⟩ hs b o w h)
  · obtain ⟨k, l, rfl, rfl, rfl⟩ := inv_8 hf
    obtain ⟨b3, o3, c3, hc3, hk3⟩ := h.kid
    have mk : k ∈ [k, l] := by simp
    have ml : l ∈ [k, l] := by simp
    rw [vt_8]
    refine at_8 n _ b o w c0 (both_any 58 (enters_of Try.func58 (by kernel_rfl) rfl) fadd (fun a b v ha hb => f_add ha hb v) n ⟨8, [], [], [k, l]⟩ (valT k n) (valT l n) (pat_val k (hsk k mk) (hak k mk) n) (pat_val l (hsk l ml) (hak l ml) n) b o b3 o3 c3 w (hc3 w (bel0 w)) (fun v hv => ih k mk n b3 o3 v h0 h1 (hsk k mk) (hak k mk) ?_) (fun v hv => ih l ml n b3 (o3 + 4) v h0 h1 (hsk l ml) (hak l ml) ?_))
    · have := hk3 0 (by simp); exact SA.below (by simpa using this) hv
    · have := hk3 1 (by simp); exact SA.below (by simpa using this) hv
  · obtain ⟨k, l, rfl, rfl, rfl⟩ := inv_9 hf
    obtain ⟨b3, o3, c3, hc3, hk3⟩ := h.kid
    have mk : k ∈ [k, l] := by simp
    have ml : l ∈ [k, l] := by simp
    rw [vt_9]
    refine at_9 n _ b o w c0 (both_any 59 (enters_of Try.func59 (by kernel_rfl) rfl) fmul (fun a b v ha hb => f_mul ha hb v) n ⟨9, [], [], [k, l]⟩ (valT k n) (valT l n) (pat_val k (hsk k mk) (hak k mk) n) (pat_val l (hsk l ml) (hak l ml) n) b o b3 o3 c3 w (hc3 w (bel0 w)) (fun v hv => ih k mk n b3 o3 v h0 h1 (hsk k mk) (hak k mk) ?_) (fun v hv => ih l ml n b3 (o3 + 4) v h0 h1 (hsk l ml) (hak l ml) ?_))
    · have := hk3 0 (by simp); exact SA.below (by simpa using this) hv
    · have := hk3 1 (by simp); exact SA.below (by simpa using this) hv
  · obtain ⟨k, l, rfl, rfl, rfl⟩ := inv_10 hf
    obtain ⟨b3, o3, c3, hc3, hk3⟩ := h.kid
    have mk : k ∈ [k, l] := by simp
    have ml : l ∈ [k, l] := by simp
    rw [vt_10]
    refine at_10 n _ b o w c0 (both_any 34 (enters_of Try.func34 (by kernel_rfl) rfl) fmin (fun a b v ha hb => f_min ha hb v) n ⟨10, [], [], [k, l]⟩ (valT k n) (valT l n) (pat_val k (hsk k mk) (hak k mk) n) (pat_val l (hsk l ml) (hak l ml) n) b o b3 o3 c3 w (hc3 w (bel0 w)) (fun v hv => ih k mk n b3 o3 v h0 h1 (hsk k mk) (hak k mk) ?_) (fun v hv => ih l ml n b3 (o3 + 4) v h0 h1 (hsk l ml) (hak l ml) ?_))
    · have := hk3 0 (by simp); exact SA.below (by simpa using this) hv
    · have := hk3 1 (by simp); exact SA.below (by simpa using this) hv
  · obtain ⟨k, l, rfl, rfl, rfl⟩ := inv_11 hf
    obtain ⟨b3, o3, c3, hc3, hk3⟩ := h.kid
    have mk : k ∈ [k, l] := by simp
    have ml : l ∈ [k, l] := by simp
    rw [vt_11]
    refine at_11 n _ b o w c0 (both_any 35 (enters_of Try.func35 (by kernel_rfl) rfl) fmax (fun a b v ha hb => f_max ha hb v) n ⟨11, [], [], [k, l]⟩ (valT k n) (valT l n) (pat_val k (hsk k mk) (hak k mk) n) (pat_val l (hsk l ml) (hak l ml) n) b o b3 o3 c3 w (hc3 w (bel0 w)) (fun v hv => ih k mk n b3 o3 v h0 h1 (hsk k mk) (hak k mk) ?_) (fun v hv => ih l ml n b3 (o3 + 4) v h0 h1 (hsk l ml) (hak l ml) ?_))
    · have := hk3 0 (by simp); exact SA.below (by simpa using this) hv
    · have := hk3 1 (by simp); exact SA.below (by simpa using this) hv
  · obtain ⟨g, k, rfl, rfl, rfl, hg⟩ := inv_12 hf
    obtain ⟨b3, o3, c3, hc3, hk3⟩ := h.kid
    have mk : k ∈ [k] := by simp
    rw [vt_12]
    refine at_12 n g _ k ⟨h0, h1⟩ hg b o b3 o3 c3 w h (hc3 w (bel0 w)) (fun v hv => ih k mk (max (n - g) 0) b3 o3 v (by omega) (by omega) (hsk k mk) (hak k mk) ?_)
    have := hk3 0 (by simp); exact SA.below (by simpa using this) hv
  · obtain ⟨g, k, rfl, rfl, rfl, hg⟩ := inv_13 hf
    obtain ⟨b3, o3, c3, hc3, hk3⟩ := h.kid
    have mk : k ∈ [k] := by simp
    rw [vt_13]
    refine at_13 n g _ k ⟨h0, h1⟩ hg b o b3 o3 c3 w h (hc3 w (bel0 w)) (fun v hv => ih k mk (min n g) b3 o3 v (by omega) (by omega) (hsk k mk) (hak k mk) ?_)
    have := hk3 0 (by simp); exact SA.below (by simpa using this) hv

/-- The value, or nothing. -/
def valueP (t : Sc) (n : Int) : Int × Int := if isCnt n = true ∧ okS t = true then (valT t n, 0) else (0, 1)
theorem okS_all {t : Sc} (h : okS t = true) : allT t := by
  unfold okS at h
  obtain ⟨m, hm⟩ := Option.isSome_iff_exists.1 h
  exact may_all hm

set_option maxRecDepth 100000 in
set_option maxHeartbeats 1000000 in
theorem value_to (t : Sc) (n : Int) (a c d : Value) (hok : sok t) (w : World) (h : SV w t a c d) :
    Calls Try.prog 12 #[.agg #[.int .i64 t.op, a, c, d], .int .i64 n] w fun e w' => e = .returned (.tuple #[.int .u32 (valueP t n).1, .int .i64 (valueP t n).2]) ∧ Below w.heap.size w w' := by
  have hbx := h.box
  have hb0 := bel_alloc w (.cells #[.int .i64 t.op, a, c, d] 26)
  obtain ⟨W, hW⟩ : ∃ W, w.alloc (.cells #[.int .i64 t.op, a, c, d] 26) = W := ⟨_, rfl⟩
  have hx := box_heap w (.cells #[.int .i64 t.op, a, c, d] 26)
  rw [hW] at hbx hb0 hx
  have HBX : Hid (SA W w.heap.size 0 t) := hbx
  have HCK : Hid (∀ v, Below W.heap.size W v → Calls Try.prog 14 #[.agg #[.int .i64 t.op, a, c, d]] v fun e w' => e = .returned (.int .i64 (if okS t = true then 0 else 1)) ∧ Below v.heap.size v w') := fun v hv => check_any t a c d hok v ((h.below hb0).below hv)
  have HX : Hid (∀ v, Below W.heap.size W v → v.cell? ⟨w.heap.size, 0, none⟩ = some (.int .i64 t.op) ∧ v.cell? ⟨w.heap.size, 1, none⟩ = some a ∧ v.cell? ⟨w.heap.size, 2, none⟩ = some c ∧ v.cell? ⟨w.heap.size, 3, none⟩ = some d) := fun v hv =>
    ⟨bcell (cell_heap hx 0) hv, bcell (cell_heap hx 1) hv, bcell (cell_heap hx 2) hv, bcell (cell_heap hx 3) hv⟩
  have HAT : Hid (isCnt n = true → okS t = true → ∀ v, Below W.heap.size W v → Calls Try.prog 29 #[.pointer (some ⟨w.heap.size, 0, none⟩), .int .i64 n] v fun e w' => e = .returned (.int .u32 (valT t n)) ∧ Below v.heap.size v w') := fun h1 h2 v hv =>
    at_to t n w.heap.size 0 v (isCnt_iff h1).1 (isCnt_iff h1).2 hok (okS_all h2) (HBX.out.below hv)
  have HB0 : Hid (Below w.heap.size w W) := hb0
  have HV : Hid (valueP t n = if isCnt n = true ∧ okS t = true then (valT t n, 0) else (0, 1)) := rfl
  obtain ⟨V, hV⟩ : ∃ V, valueP t n = V := ⟨_, rfl⟩
  rw [hV] at HV ⊢
  obtain ⟨C, hC⟩ : ∃ C, isCnt n = C := ⟨_, rfl⟩
  have HI : Hid (∀ v : World, Calls Try.prog 28 #[.int .i64 n] v fun e w' => e = .returned (.bool C) ∧ Below v.heap.size v w') := fun v => by rw [← hC]; exact isCount_any n v
  obtain ⟨K, hK⟩ : ∃ K, okS t = K := ⟨_, rfl⟩
  rw [hC, hK] at HV HAT
  rw [hK] at HCK
  clear h hbx hb0 hx HBX hV hC hK
  cases C
  · rw [if_neg (by simp)] at HV
    obtain rfl : V = (0, 1) := HV.out
    simp only
    go_enter Try.func12, Try.ntmps12
    go_wp2_with (go_at_call 28; (with_reducible refine (HI.out _).mono ?_); rintro e w1 ⟨rfl, hb1⟩)
    go_returns
    exact ⟨rfl, bel HB0.out hb1⟩
  · cases K
    · rw [if_neg (by simp)] at HV
      obtain rfl : V = (0, 1) := HV.out
      simp only
      simp only [Bool.false_eq_true, if_false] at HCK
      go_enter Try.func12, Try.ntmps12
      go_wp2_with (first
        | (go_at_call 28; (with_reducible refine (HI.out _).mono ?_); rintro e w1 ⟨rfl, hb1⟩; obtain ⟨x0, x1, x2, x3⟩ := HX.out w1 hb1)
        | (go_at_call 14; (with_reducible refine (HCK.out _ hb1).mono ?_); rintro e w2 ⟨rfl, hb2⟩))
      go_returns
      exact ⟨rfl, bel (bel HB0.out hb1) hb2⟩
    · rw [if_pos (by simp)] at HV
      obtain rfl : V = (valT t n, 0) := HV.out
      simp only
      simp only [if_true] at HCK
      have HA2 := HAT.out rfl rfl
      obtain ⟨R, hR⟩ : ∃ R, valT t n = R := ⟨_, rfl⟩
      rw [hR] at HA2 ⊢
      have HA : Hid (∀ v, Below W.heap.size W v → Calls Try.prog 29 #[.pointer (some ⟨w.heap.size, 0, none⟩), .int .i64 n] v fun e w' => e = .returned (.int .u32 R) ∧ Below v.heap.size v w') := HA2
      clear HA2 HAT HV
      go_enter Try.func12, Try.ntmps12
      go_wp2_with (first
        | (go_at_call 28; (with_reducible refine (HI.out _).mono ?_); rintro e w1 ⟨rfl, hb1⟩; obtain ⟨x0, x1, x2, x3⟩ := HX.out w1 hb1)
        | (go_at_call 14; (with_reducible refine (HCK.out _ hb1).mono ?_); rintro e w2 ⟨rfl, hb2⟩; have hb3 := bel hb1 hb2)
        | (go_at_call 29; (with_reducible refine (HA.out _ hb3).mono ?_); rintro e w3 ⟨rfl, hb4⟩))
      go_returns
      exact ⟨rfl, bel HB0.out (bel hb3 hb4)⟩

end Go.Proofs.Ytnogokikiekcbaa
/- The statements' own works, count, great. -/
namespace Go.Proofs.Ytnogokikiekcbaa
open Go.RowKit
set_option linter.unusedVariables false
set_option linter.unusedSimpArgs false

def sureT : Sc := ⟨2, [1065353216, 0], [1, 4, 2], []⟩
theorem sure_ok : okS sureT = true := by
  unfold okS
  rw [may_go 64 4096 sureT (by decide) (by decide) (by decide +kernel)]
  show (mayL 63 4095 []).isSome = true
  rw [mayL_nil]; rfl
theorem sure_sok : sok sureT := by
  refine ⟨⟨⟨by decide, by decide⟩, ?_, ?_, by decide, by decide, by decide⟩, sokL_nil⟩
  · intro x hx
    simp only [sureT, List.mem_cons, List.not_mem_nil, or_false] at hx
    rcases hx with rfl | rfl <;> decide
  · intro x hx
    simp only [sureT, List.mem_cons, List.not_mem_nil, or_false] at hx
    rcases hx with rfl | rfl | rfl <;> decide
theorem sure_3 : valueP sureT 3 = (1061158912, 0) := by
  unfold valueP
  rw [if_pos ⟨by decide, sure_ok⟩]
  show (polyV 1065353216 0 1 4 2 3, (0 : Int)) = _
  rw [show polyV 1065353216 0 1 4 2 3 = 1061158912 by decide +kernel]
theorem sure_9 : valueP sureT 9 = (0, 0) := by
  unfold valueP
  rw [if_pos ⟨by decide, sure_ok⟩]
  show (polyV 1065353216 0 1 4 2 9, (0 : Int)) = _
  rw [show polyV 1065353216 0 1 4 2 9 = 0 by decide +kernel]
theorem sure_m : valueP sureT (-1) = (0, 1) := by
  unfold valueP
  rw [if_neg (fun h => absurd h.1 (by decide))]
theorem sure_w : wave 1048576000 = 1060439284 := by decide +kernel

set_option maxRecDepth 100000 in
set_option maxHeartbeats 2000000 in
theorem works_any14 (w : World) : Calls Try.prog 10 #[] w fun e w' => e = .returned (.bool true) ∧ Below w.heap.size w w' := by
  obtain ⟨W, hW⟩ : ∃ W, ((w.alloc (.cells #[.int .u32 1065353216, .int .u32 0] 31)).alloc (.cells #[.int .i64 1, .int .i64 4, .int .i64 2] 3)).alloc (.cells #[.int .i64 2, .slice (some ⟨w.heap.size, 0, none⟩) 2 2, .slice (some ⟨w.heap.size + 1, 0, none⟩) 3 3, .slice none 0 0] 26) = W := ⟨_, rfl⟩
  have hB : Below w.heap.size w W := by rw [← hW]; exact bel (bel (bel_alloc _ _) (bel_alloc _ _)) (bel_alloc _ _)
  have hS : SV W sureT (.slice (some ⟨w.heap.size, 0, none⟩) 2 2) (.slice (some ⟨w.heap.size + 1, 0, none⟩) 3 3) (.slice none 0 0) := by
    refine ⟨⟨_, _, rfl, .inr ⟨_, _, rfl, fun i hi => ?_⟩⟩, ⟨_, _, rfl, .inr ⟨_, _, rfl, fun i hi => ?_⟩⟩, ⟨_, _, rfl, .inl rfl⟩⟩
    · have hi2 : i < 2 := hi
      rw [← hW]
      match i, hi2 with
      | 0, _ => simp [go_sem]; rfl
      | 1, _ => simp [go_sem]; rfl
    · have hi2 : i < 3 := hi
      rw [← hW]
      match i, hi2 with
      | 0, _ => simp [go_sem]; rfl
      | 1, _ => simp [go_sem]; rfl
      | 2, _ => simp [go_sem]; rfl
  have hX : W.heap[w.heap.size + 1 + 1]? = some (.cells #[.int .i64 2, .slice (some ⟨w.heap.size, 0, none⟩) 2 2, .slice (some ⟨w.heap.size + 1, 0, none⟩) 3 3, .slice none 0 0] 26) := by
    rw [← hW]
    have := box_heap ((w.alloc (.cells #[.int .u32 1065353216, .int .u32 0] 31)).alloc (.cells #[.int .i64 1, .int .i64 4, .int .i64 2] 3)) (.cells #[.int .i64 2, .slice (some ⟨w.heap.size, 0, none⟩) 2 2, .slice (some ⟨w.heap.size + 1, 0, none⟩) 3 3, .slice none 0 0] 26)
    rwa [show ((w.alloc (.cells #[.int .u32 1065353216, .int .u32 0] 31)).alloc (.cells #[.int .i64 1, .int .i64 4, .int .i64 2] 3)).heap.size = w.heap.size + 1 + 1 by simp] at this
  have HX : Hid (∀ v, Below W.heap.size W v → v.cell? ⟨w.heap.size + 1 + 1, 0, none⟩ = some (.int .i64 2) ∧ v.cell? ⟨w.heap.size + 1 + 1, 1, none⟩ = some (.slice (some ⟨w.heap.size, 0, none⟩) 2 2) ∧ v.cell? ⟨w.heap.size + 1 + 1, 2, none⟩ = some (.slice (some ⟨w.heap.size + 1, 0, none⟩) 3 3) ∧ v.cell? ⟨w.heap.size + 1 + 1, 3, none⟩ = some (.slice none 0 0)) := fun v hv =>
    ⟨bcell (cell_heap hX 0) hv, bcell (cell_heap hX 1) hv, bcell (cell_heap hX 2) hv, bcell (cell_heap hX 3) hv⟩
  have HV : Hid (∀ (n : Int) v, Below W.heap.size W v → Calls Try.prog 12 #[.agg #[.int .i64 2, .slice (some ⟨w.heap.size, 0, none⟩) 2 2, .slice (some ⟨w.heap.size + 1, 0, none⟩) 3 3, .slice none 0 0], .int .i64 n] v fun e w' => e = .returned (.tuple #[.int .u32 (valueP sureT n).1, .int .i64 (valueP sureT n).2]) ∧ Below v.heap.size v w') := fun n v hv =>
    value_to sureT n _ _ _ sure_sok v (hS.below hv)
  have HV3 := HV.out 3
  have HV9 := HV.out 9
  have HVm := HV.out (-1)
  rw [sure_3] at HV3
  rw [sure_9] at HV9
  rw [sure_m] at HVm
  simp only at HV3 HV9 HVm
  have H3 : Hid (∀ v, Below W.heap.size W v → Calls Try.prog 12 #[.agg #[.int .i64 2, .slice (some ⟨w.heap.size, 0, none⟩) 2 2, .slice (some ⟨w.heap.size + 1, 0, none⟩) 3 3, .slice none 0 0], .int .i64 3] v fun e w' => e = .returned (.tuple #[.int .u32 1061158912, .int .i64 0]) ∧ Below v.heap.size v w') := HV3
  have H9 : Hid (∀ v, Below W.heap.size W v → Calls Try.prog 12 #[.agg #[.int .i64 2, .slice (some ⟨w.heap.size, 0, none⟩) 2 2, .slice (some ⟨w.heap.size + 1, 0, none⟩) 3 3, .slice none 0 0], .int .i64 9] v fun e w' => e = .returned (.tuple #[.int .u32 0, .int .i64 0]) ∧ Below v.heap.size v w') := HV9
  have Hm : Hid (∀ v, Below W.heap.size W v → Calls Try.prog 12 #[.agg #[.int .i64 2, .slice (some ⟨w.heap.size, 0, none⟩) 2 2, .slice (some ⟨w.heap.size + 1, 0, none⟩) 3 3, .slice none 0 0], .int .i64 (-1)] v fun e w' => e = .returned (.tuple #[.int .u32 0, .int .i64 1]) ∧ Below v.heap.size v w') := HVm
  have HW : Hid (∀ v : World, Calls Try.prog 17 #[.int .u32 1048576000] v fun e w' => e = .returned (.int .u32 1060439284) ∧ Below v.heap.size v w') := fun v => by
    have := wave_any 1048576000 ⟨by decide, by decide⟩ v
    rw [sure_w] at this; exact this
  have HB0 : Hid (Below w.heap.size w W) := hB
  have hb0 : Below W.heap.size W W := bel0 W
  obtain ⟨x0, x1, x2, x3⟩ := HX.out W hb0
  have HWE : Hid (((w.alloc (.cells #[.int .u32 1065353216, .int .u32 0] 31)).alloc (.cells #[.int .i64 1, .int .i64 4, .int .i64 2] 3)).alloc (.cells #[.int .i64 2, .slice (some ⟨w.heap.size, 0, none⟩) 2 2, .slice (some ⟨w.heap.size + 1, 0, none⟩) 3 3, .slice none 0 0] 26) = W) := hW
  clear hS hX HV HV3 HV9 HVm hB hW x0 x1 x2 x3
  go_enter Try.func10, Try.ntmps10
  go_wp2_with (first
    | (go_at_call 12; rw [HWE.out]; (with_reducible refine (H3.out _ hb0).mono ?_); rintro e w1 ⟨rfl, hb1⟩; obtain ⟨x0, x1, x2, x3⟩ := HX.out w1 hb1)
    | (go_at_call 12; (with_reducible refine (H9.out _ hb1).mono ?_); rintro e w2 ⟨rfl, hb2⟩; have hb2 := bel hb1 hb2; obtain ⟨x0, x1, x2, x3⟩ := HX.out w2 hb2)
    | (go_at_call 12; (with_reducible refine (Hm.out _ hb2).mono ?_); rintro e w3 ⟨rfl, hb3⟩; have hb3 := bel hb2 hb3)
    | (go_at_call 17; (with_reducible refine (HW.out _).mono ?_); rintro e w4 ⟨rfl, hb4⟩))
  go_ret
  exact ⟨rfl, bel HB0.out (bel hb3 hb4)⟩

theorem scntL_take {l : List Sc} {j : Nat} (hj : j < l.length) : scntL (l.take (j + 1)) = scntL (l.take j) + scnt l[j] := by
  induction l generalizing j with
  | nil => exact absurd hj (Nat.not_lt_zero _)
  | cons t r ih =>
    cases j with
    | zero => simp [scntL_cons, scntL_nil]
    | succ j =>
      simp only [List.take_succ_cons, scntL_cons, List.getElem_cons_succ]
      rw [ih (by simpa using hj)]
      omega
theorem scntL_take_le (l : List Sc) (j : Nat) : scntL (l.take j) ≤ scntL l := by
  induction l generalizing j with
  | nil => simp [scntL_nil]
  | cons t r ih =>
    cases j with
    | zero => simp [scntL_nil]
    | succ j => simp only [List.take_succ_cons, scntL_cons]; have := ih j; omega

def CountA (t : Sc) : Prop := ∀ (m : Nat) (a c d : Value) (w : World), m ≤ 9000 → sok t → SV w t a c d →
  Calls Try.prog 27 #[.agg #[.int .i64 t.op, a, c, d], .int .i64 m] w fun e w' => e = .returned (.int .i64 (min (scnt t) (m + 1) : Nat)) ∧ Below w.heap.size w w'
set_option maxRecDepth 100000 in
set_option maxHeartbeats 2000000 in
theorem countA_to : ∀ t, CountA t := by
  apply stree
  intro t ih m a c d w hm hok hS
  have HIH : Hid (∀ k ∈ t.kids, CountA k) := ih
  have HOK : Hid (sok t) := hok
  have hbox := hS.box
  have hb0 := bel_alloc w (.cells #[.int .i64 t.op, a, c, d] 26)
  obtain ⟨pk, ck, rfl, hk⟩ := hS.kids
  have HK : Hid (t.kids = [] ∨ ∃ b o, pk = some ⟨b, o, none⟩ ∧ SL w b o t.kids) := hk
  have hx := box_heap w (.cells #[.int .i64 t.op, a, c, .slice pk t.kids.length ck] 26)
  obtain ⟨n, hn⟩ : ∃ n, t.kids.length = n := ⟨_, rfl⟩
  have HN : Hid (t.kids.length = n) := hn
  rw [hn] at hb0 hx ⊢
  obtain ⟨W, hW⟩ : ∃ W, w.alloc (.cells #[.int .i64 t.op, a, c, .slice pk n ck] 26) = W := ⟨_, rfl⟩
  rw [hW] at hb0 hx
  have HX : Hid (W.cell? ⟨w.heap.size, 3, none⟩ = some (.slice pk n ck)) := cell_heap hx 3
  have HB0 : Hid (Below w.heap.size w W) := hb0
  obtain ⟨D, hD⟩ : ∃ D, min (scnt t) (m + 1) = D := ⟨_, rfl⟩
  have HD : Hid (min (1 + scntL t.kids) (m + 1) = D) := hD
  rw [hD]
  clear hn hk ih hD hS hbox hx hb0 hok
  go_enter Try.func27, Try.ntmps27
  go_wp2
  go_loopw [5, 6] (fun kv iv wr => Below W.heap.size W wr ∧ ∃ (j k : Nat), j ≤ n ∧ iv = .int .i64 j ∧ kv = .int .i64 k ∧ j + 1 ≤ k ∧ k ≤ m + 1 ∧ Hid (k = min (1 + scntL (t.kids.take j)) (m + 1))) (fun _ iv _ => n - (intOf iv).toNat)
  case atStart => exact ⟨bel0 W, 0, 1, Nat.zero_le _, rfl, rfl, Nat.le_refl _, by omega, (by show 1 = _; rw [List.take_zero, scntL_nil]; omega)⟩
  case round =>
    obtain ⟨hb, j, k, hj, rfl, rfl, hjk, hkm, HS⟩ := hrel
    have h5 := bcell HX.out hb
    by_cases hlt0 : j < n
    · have hll : j < t.kids.length := by rw [HN.out]; exact hlt0
      have j1 : (j : Int) < (n : Int) := by omega
      by_cases hkl : k ≤ m
      · have k1 : (k : Int) ≤ (m : Int) := by omega
        obtain ⟨b1, o1, rfl, hsl⟩ : ∃ b o, pk = some ⟨b, o, none⟩ ∧ SL w b o t.kids := by
          rcases HK.out with h | h
          · rw [h] at hll; exact absurd hll (Nat.not_lt_zero _)
          · exact h
        obtain ⟨a1, a2, a3, x0, x1, x2, x3, hv⟩ := ((SL_get hsl hll).below (bel HB0.out hb)).val
        have hcl := HIH.out t.kids[j] (List.getElem_mem hll) (m - k) a1 a2 a3 wr (by omega) (sok_kid HOK.out hll) hv
        have hct := scntL_take hll
        obtain ⟨C, hC⟩ : ∃ C, min (scnt t.kids[j]) (m - k + 1) = C := ⟨_, rfl⟩
        have hC1 : 1 ≤ C := by rw [← hC]; have : 1 ≤ scnt t.kids[j] := (by unfold scnt; omega); omega
        have hC2 : k + C ≤ m + 1 := by rw [← hC]; omega
        have HS2 : Hid (k + C = min (1 + scntL (t.kids.take (j + 1))) (m + 1)) := by
          show _ = _
          have := HS.out
          rw [hct, ← hC]
          omega
        rw [hC] at hcl
        have hmk : ((m - k : Nat) : Int) = (m : Int) - (k : Int) := by omega
        rw [hmk] at hcl
        have HW : Hid (Calls Try.prog 27 #[.agg #[.int .i64 t.kids[j].op, a1, a2, a3], .int .i64 ((m : Int) - (k : Int))] wr fun e v' => e = .returned (.int .i64 (C : Nat)) ∧ Below wr.heap.size wr v') := hcl
        have w1 : IntKind.i64.wrap ((m : Int) - (k : Int)) = (m : Int) - (k : Int) := by rw [IntKind.wrap_i64]; omega
        have w2 : IntKind.i64.wrap ((k : Int) + (C : Int)) = (k : Int) + (C : Int) := by rw [IntKind.wrap_i64]; omega
        have i1 : (0 : Int) ≤ (j : Int) := by omega
        clear hcl hv HIH HS hC hmk hct hsl HK
        go_wp2_with (go_at_call 27; (with_reducible refine HW.out.mono ?_); rintro e w3 ⟨rfl, hb3⟩)
        go_roundw
        case rel => exact ⟨bel hb hb3, j + 1, k + C, by omega, by go_num, by go_num, by omega, by omega, HS2.out⟩
        case measure => simp [intOf]; omega
      · have k1 : ¬ (k : Int) ≤ (m : Int) := by omega
        have HE : Hid ((k : Int) = (D : Int)) := by
          show (k : Int) = D
          have h1 := HS.out
          have h2 := HD.out
          have h3 := scntL_take_le t.kids j
          omega
        clear HS HIH HD HK
        go_wp2
        go_ret
        exact ⟨ret_int HE.out, bel HB0.out hb⟩
    · have : j = n := by omega
      subst this
      have HE : Hid ((k : Int) = (D : Int)) := by
        show (k : Int) = D
        have h1 := HS.out
        have h2 := HD.out
        rw [List.take_of_length_le (by rw [HN.out]; exact Nat.le_refl _)] at h1
        omega
      clear HS HIH HD HK
      go_wp2
      go_ret
      exact ⟨ret_int HE.out, bel HB0.out hb⟩

set_option maxRecDepth 100000 in
set_option maxHeartbeats 1000000 in
theorem great_any (t : Sc) (a c d : Value) (w : World) (hok : sok t) (hS : SV w t a c d) :
    Calls Try.prog 9 #[.agg #[.int .i64 t.op, a, c, d]] w fun e w' => e = .returned (.bool (decide (9000 < scnt t))) ∧ Below w.heap.size w w' := by
  have hbx := box_heap w (.cells #[.int .i64 t.op, a, c, d] 26)
  have hb0 := bel_alloc w (.cells #[.int .i64 t.op, a, c, d] 26)
  obtain ⟨W, hW⟩ : ∃ W, w.alloc (.cells #[.int .i64 t.op, a, c, d] 26) = W := ⟨_, rfl⟩
  rw [hW] at hbx hb0
  have hcl := countA_to t 9000 a c d W (Nat.le_refl _) hok (hS.below hb0)
  obtain ⟨C, hC⟩ : ∃ C, min (scnt t) (9000 + 1) = C := ⟨_, rfl⟩
  rw [hC] at hcl
  have HC : Hid (decide ((9000 : Int) < (C : Int)) = decide (9000 < scnt t)) := by
    show _ = _
    rw [decide_eq_decide]
    omega
  have HW : Hid (Calls Try.prog 27 #[.agg #[.int .i64 t.op, a, c, d], .int .i64 9000] W fun e v' => e = .returned (.int .i64 (C : Nat)) ∧ Below W.heap.size W v') := hcl
  have g0 := cell_heap hbx 0
  have g1 := cell_heap hbx 1
  have g2 := cell_heap hbx 2
  have g3 := cell_heap hbx 3
  rw [← HC.out]
  clear hcl hC hS hbx HC
  go_enter Try.func9, Try.ntmps9
  go_wp2_with (go_at_call 27; (with_reducible refine HW.out.mono ?_); rintro e w3 ⟨rfl, hb3⟩)
  go_ret
  exact ⟨rfl, bel hb0 hb3⟩

end Go.Proofs.Ytnogokikiekcbaa
