import Derived.Test.YtnogokikiekcbabSchWave
/- Package sched: which rows fit. -/
namespace Go.Proofs.Ytnogokikiekcbab
open Go.RowKit
set_option linter.unusedVariables false
set_option linter.unusedSimpArgs false

theorem isPower_any (n : Int) (w : World) : Calls Try.prog 40 #[.int .i64 n] w fun e w' => e = .returned (.bool (isPow n)) ∧ Below w.heap.size w w' := by
  unfold isPow
  by_cases h1 : (1 : Int) ≤ n
  · go_enter Try.func40, Try.ntmps40
    go_wp2
    go_ret
    exact ⟨by simp [h1], bel0 w⟩
  · go_enter Try.func40, Try.ntmps40
    go_wp2
    go_ret
    exact ⟨by rw [decide_eq_false (show ¬ (1 : Int) ≤ n by omega)]; rfl, bel0 w⟩

theorem isSteps_any (n : Int) (w : World) : Calls Try.prog 41 #[.int .i64 n] w fun e w' => e = .returned (.bool (isStp n)) ∧ Below w.heap.size w w' := by
  unfold isStp
  by_cases h1 : (1 : Int) ≤ n
  · go_enter Try.func41, Try.ntmps41
    go_wp2
    go_ret
    exact ⟨by simp [h1], bel0 w⟩
  · go_enter Try.func41, Try.ntmps41
    go_wp2
    go_ret
    exact ⟨by rw [decide_eq_false (show ¬ (1 : Int) ≤ n by omega)]; rfl, bel0 w⟩

theorem isCount_any (n : Int) (w : World) : Calls Try.prog 10 #[.int .i64 n] w fun e w' => e = .returned (.bool (isCnt n)) ∧ Below w.heap.size w w' := by
  unfold isCnt
  by_cases h1 : (0 : Int) ≤ n
  · go_enter Try.func10, Try.ntmps10
    go_wp2
    go_ret
    exact ⟨by simp [h1], bel0 w⟩
  · go_enter Try.func10, Try.ntmps10
    go_wp2
    go_ret
    exact ⟨by rw [decide_eq_false (show ¬ (0 : Int) ≤ n by omega)]; rfl, bel0 w⟩

theorem isNot_any (a : Int) (h : Pat a) (w : World) : Calls Try.prog 49 #[.int .u32 a] w fun e w' => e = .returned (.bool (!ffin a)) ∧ Below w.heap.size w w' := by
  have HB : Below w.heap.size w w := bel0 w
  go_enter Try.func49, Try.ntmps49
  go_wp2_with ((go_at_call 54; refine (f_fin (by with_reducible first | assumption | exact pat_add _ _ | exact pat_sub _ _ | exact pat_mul _ _ | exact pat_div _ _ | exact pat_sqrt _ | exact pat_from _ | exact pat_rat _ _ | exact pat_qrt _ | exact pat_qrN _ _ | exact pat_0 | exact pat_1 | exact pat_h) _).mono ?_; rintro e wx ⟨rfl, hbx⟩; have HB : Below w.heap.size w wx := (by first | exact bel HB hbx | exact bel (by go_grown) hbx)))
  go_ret
  exact ⟨rfl, HB⟩

/-- The last of a row of boundaries up to a place, or 0. -/
def lastB (l : List Int) (j : Nat) : Int := if j = 0 then 0 else l.getD (j - 1) 0
theorem risesA_take : ∀ (l : List Int) (a : Int) (j : Nat) (hj : j < l.length), risesA a (l.take j) = true → (risesA a (l.take (j + 1)) = true ↔ ((if j = 0 then a else l.getD (j - 1) 0) < l[j] ∧ l[j] ≤ 2147483647))
  | [], a, j, hj, _ => absurd hj (Nat.not_lt_zero _)
  | n :: r, a, 0, hj, _ => by simp [risesA]
  | n :: r, a, j + 1, hj, h => by
    simp only [List.take_succ_cons, risesA, Bool.and_eq_true, decide_eq_true_eq] at h ⊢
    have := risesA_take r n j (by simpa using hj) h.2
    rw [this]
    cases j with
    | zero => simp [h.1]
    | succ j => simp [h.1]
theorem risesA_part : ∀ (l : List Int) (a : Int) (j : Nat), risesA a l = true → risesA a (l.take j) = true
  | [], a, j, _ => by simp [risesA]
  | n :: r, a, 0, _ => by simp [risesA]
  | n :: r, a, j + 1, h => by
    simp only [List.take_succ_cons, risesA, Bool.and_eq_true, decide_eq_true_eq] at h ⊢
    exact ⟨h.1, risesA_part r n j h.2⟩
theorem lastB_at (l : List Int) (j : Nat) (h : j < l.length) : lastB l (j + 1) = l[j] := by simp [lastB, h]
theorem lastB_pos (l : List Int) (h : risesA 0 l = true) : decide (0 < lastB l l.length) = !l.isEmpty := by
  cases l with
  | nil => rfl
  | cons n r =>
    have := risesA_get (n :: r) 0 h r.length (by simp)
    rw [show (n :: r).length = r.length + 1 from rfl, lastB_at (n :: r) r.length (by simp)]
    simp [this.1]

set_option maxRecDepth 100000 in
set_option maxHeartbeats 1000000 in
theorem bounds_any (l : List Int) (v : Value) (hl : l.length ≤ 17592186043904) (w : World) (hv : Row w .i64 v l) : Calls Try.prog 42 #[v] w fun e w' => e = .returned (.bool (bnds l)) ∧ Below w.heap.size w w' := by
  obtain ⟨p, c, rfl, hr⟩ := hv
  have HR : Hid (l = [] ∨ ∃ b o, p = some ⟨b, o, none⟩ ∧ ∀ i (h : i < l.length), w.cell? ⟨b, o + i, none⟩ = some (.int .i64 l[i])) := hr
  obtain ⟨n, hn⟩ : ∃ n, l.length = n := ⟨_, rfl⟩
  have HN : Hid (l.length = n) := hn
  rw [hn] at hl ⊢
  obtain ⟨R, hRd⟩ : ∃ R, bnds l = R := ⟨_, rfl⟩
  have HRd : Hid ((risesA 0 l && !l.isEmpty) = R) := hRd
  rw [hRd]
  clear hr hn hRd
  go_enter Try.func42, Try.ntmps42
  go_wp2
  go_loopw [3, 8] (fun av iv wr => wr = w ∧ ∃ j : Nat, j ≤ n ∧ iv = .int .i64 j ∧ av = .int .i64 (lastB l j) ∧ Hid (risesA 0 (l.take j) = true)) (fun _ iv _ => n - (intOf iv).toNat)
  case atStart => exact ⟨rfl, 0, Nat.zero_le _, rfl, rfl, (by show _ = _; simp [risesA])⟩
  case round =>
    obtain ⟨rfl, j, hj, rfl, rfl, HT⟩ := hrel
    by_cases hlt0 : j < n
    · have hll : j < l.length := by rw [HN.out]; exact hlt0
      obtain ⟨b, o, rfl, c1⟩ : ∃ b o, p = some ⟨b, o, none⟩ ∧ wr.cell? ⟨b, o + j, none⟩ = some (.int .i64 l[j]) := by
        rcases HR.out with h | ⟨b, o, e, h⟩
        · rw [h] at hll; exact absurd hll (Nat.not_lt_zero _)
        · exact ⟨b, o, e, h j hll⟩
      have hiff := risesA_take l 0 j hll HT.out
      rw [show (if j = 0 then 0 else l.getD (j - 1) 0) = lastB l j from rfl] at hiff
      have hat := lastB_at l j hll
      obtain ⟨x, hx⟩ : ∃ x, l[j] = x := ⟨_, rfl⟩
      obtain ⟨a, ha⟩ : ∃ a, lastB l j = a := ⟨_, rfl⟩
      rw [hx] at c1 hiff hat
      rw [ha] at hiff ⊢
      have i1 : (0 : Int) ≤ (j : Int) := by omega
      have i2 : (j : Int) < (n : Int) := by omega
      have HI : Hid (risesA 0 (l.take (j + 1)) = true ↔ a < x ∧ x ≤ 2147483647) := hiff
      have HA : Hid (lastB l (j + 1) = x) := hat
      clear hiff hat ha hx
      by_cases ho : a < x ∧ x ≤ 2147483647
      · have o1 : ¬ x ≤ a := by omega
        have o2 : ¬ 2147483647 < x := by omega
        go_wp2
        go_roundw
        case rel => exact ⟨trivial, j + 1, by omega, by go_num, by rw [HA.out], HI.out.2 ho⟩
        case measure => simp [intOf]; omega
      · have HF : Hid (false = R) := by
          show false = R
          rw [← HRd.out]
          cases hq : risesA 0 l
          · rfl
          · exact absurd (HI.out.1 (risesA_part l 0 (j + 1) hq)) ho
        clear HRd HI HA HT HR
        by_cases o1 : x ≤ a
        · go_wp2
          go_ret
          exact ⟨ret_bool HF.out, bel0 _⟩
        · have o2 : 2147483647 < x := by omega
          go_wp2
          go_ret
          exact ⟨ret_bool HF.out, bel0 _⟩
    · have : j = n := by omega
      subst this
      have HF : Hid (decide (0 < lastB l j) = R) := by
        show _ = R
        have h1 := HT.out
        rw [← HN.out, List.take_length] at h1
        rw [← HN.out, lastB_pos l h1, ← HRd.out, h1]
        rfl
      clear HRd HT HR
      go_wp2
      go_ret
      exact ⟨ret_bool HF.out, bel0 _⟩

/-- The first number that is not finite. -/
def notFin (l : List Int) : Bool := l.any fun a => !ffin a
theorem notFin_all (l : List Int) : notFin l = !l.all ffin := by
  unfold notFin
  induction l with
  | nil => rfl
  | cons a r ih => simp only [List.any_cons, List.all_cons, ih]; cases ffin a <;> simp

set_option maxRecDepth 100000 in
set_option maxHeartbeats 1000000 in
theorem index_any (l : List Int) (v : Value) (hl : l.length ≤ 35184372087808) (hp : ∀ x ∈ l, 0 ≤ x ∧ x < 4294967296) (w : World) (hv : Row w .u32 v l) :
    Calls Try.prog 53 #[v, .func (.func 49) #[] #[]] w fun e w' => (∃ k : Int, e = .returned (.int .i64 k) ∧ decide (0 ≤ k) = notFin l) ∧ Below w.heap.size w w' := by
  obtain ⟨p, c, rfl, hr⟩ := hv
  have HR : Hid (l = [] ∨ ∃ b o, p = some ⟨b, o, none⟩ ∧ ∀ i (h : i < l.length), w.cell? ⟨b, o + i, none⟩ = some (.int .u32 l[i])) := hr
  obtain ⟨n, hn⟩ : ∃ n, l.length = n := ⟨_, rfl⟩
  have HN : Hid (l.length = n) := hn
  have HP : Hid (∀ x ∈ l, 0 ≤ x ∧ x < 4294967296) := hp
  have hen : Ent 49 := enters_of Try.func49 (by kernel_rfl) rfl
  unfold Ent at hen
  rw [hn] at hl ⊢
  obtain ⟨R, hRd⟩ : ∃ R, notFin l = R := ⟨_, rfl⟩
  have HRd : Hid (notFin l = R) := hRd
  rw [hRd]
  clear hr hn hRd hp
  go_enter Try.func53, Try.ntmps53
  go_wp2
  go_loopw [8] (fun iv wr => Below w.heap.size w wr ∧ ∃ j : Nat, j ≤ n ∧ iv = .int .i64 j ∧ Hid (notFin (l.take j) = false)) (fun iv _ => n - (intOf iv).toNat)
  case atStart => exact ⟨bel0 w, 0, Nat.zero_le _, rfl, (by show _ = _; simp [notFin])⟩
  case round =>
    obtain ⟨hb, j, hj, rfl, HT⟩ := hrel
    by_cases hlt0 : j < n
    · have hll : j < l.length := by rw [HN.out]; exact hlt0
      obtain ⟨b, o, rfl, c1⟩ : ∃ b o, p = some ⟨b, o, none⟩ ∧ wr.cell? ⟨b, o + j, none⟩ = some (.int .u32 l[j]) := by
        rcases HR.out with h | ⟨b, o, e, h⟩
        · rw [h] at hll; exact absurd hll (Nat.not_lt_zero _)
        · exact ⟨b, o, e, bcell (h j hll) hb⟩
      have hx : Pat l[j] := HP.out _ (List.getElem_mem hll)
      have hcall := isNot_any l[j] hx wr
      have i1 : (0 : Int) ≤ (j : Int) := by omega
      have i2 : (j : Int) < (n : Int) := by omega
      have htk : notFin (l.take (j + 1)) = (notFin (l.take j) || !ffin l[j]) := by unfold notFin; rw [List.take_succ_eq_append_getElem hll, List.any_append]; simp
      have hsub : notFin (l.take (j + 1)) = true → notFin l = true := fun h => by
        unfold notFin at h ⊢
        rw [List.any_eq_true] at h ⊢
        obtain ⟨x, hx, h⟩ := h
        exact ⟨x, List.mem_of_mem_take hx, h⟩
      rw [HT.out, Bool.false_or] at htk
      rw [htk] at hsub
      obtain ⟨B, hB⟩ : ∃ B, (!ffin l[j]) = B := ⟨_, rfl⟩
      rw [hB] at hcall htk hsub
      have HW : Hid (Calls Try.prog 49 #[.int .u32 l[j]] wr fun e w' => e = .returned (.bool B) ∧ Below wr.heap.size wr w') := hcall
      cases B
      · have HX : Hid (notFin (l.take (j + 1)) = false) := htk
        clear hcall hB htk hsub hx HR
        go_wp2_with ((with_reducible refine HW.out.mono ?_); rintro e w1 ⟨rfl, hb1⟩)
        go_roundw
        case rel => exact ⟨bel hb hb1, j + 1, by omega, by go_num, HX⟩
        case measure => simp [intOf]; omega
      · have HX : Hid (decide ((0 : Int) ≤ j) = R) := by show _ = R; rw [← HRd.out, hsub rfl]; simp
        clear hcall hB htk hsub hx HR HRd
        go_wp2_with ((with_reducible refine HW.out.mono ?_); rintro e w1 ⟨rfl, hb1⟩)
        go_ret
        exact ⟨⟨j, rfl, HX.out⟩, bel hb hb1⟩
    · have : j = n := by omega
      subst this
      have HX : Hid (decide ((0 : Int) ≤ -1) = R) := by
        show _ = R
        have := HT.out
        rw [← HN.out, List.take_length] at this
        rw [← HRd.out, this]; rfl
      clear HR HRd HT
      go_wp2
      go_ret
      exact ⟨⟨-1, rfl, HX.out⟩, hb⟩

theorem contains_any (l : List Int) (v : Value) (hl : l.length ≤ 35184372087808) (hp : ∀ x ∈ l, 0 ≤ x ∧ x < 4294967296) (w : World) (hv : Row w .u32 v l) :
    Calls Try.prog 48 #[v, .func (.func 49) #[] #[]] w fun e w' => e = .returned (.bool (notFin l)) ∧ Below w.heap.size w w' := by
  have HW : Hid (Calls Try.prog 53 #[v, .func (.func 49) #[] #[]] w fun e w' => (∃ k : Int, e = .returned (.int .i64 k) ∧ decide (0 ≤ k) = notFin l) ∧ Below w.heap.size w w') := index_any l v hl hp w hv
  obtain ⟨R, hR⟩ : ∃ R, notFin l = R := ⟨_, rfl⟩
  rw [hR] at HW ⊢
  clear hv
  go_enter Try.func48, Try.ntmps48
  go_wp2_with (go_at_call 53; (with_reducible refine HW.out.mono ?_); rintro e w1 ⟨⟨k, rfl, hk⟩, hb1⟩)
  go_ret
  exact ⟨rfl, hb1⟩

end Go.Proofs.Ytnogokikiekcbab
