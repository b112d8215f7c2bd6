import Derived.Test.YtnogokikiekcbabSchLeaf
/- Package sched: piecewise, join, both, at, Value. -/
namespace Go.Proofs.Ytnogokikiekcbab
open Go.RowKit
set_option linter.unusedVariables false
set_option linter.unusedSimpArgs false

theorem kid_le (n : Int) : ∀ l : List Int, kidOf n l ≤ l.length
  | [] => Nat.le_refl _
  | b :: bs => by
    have := kid_le n bs
    simp only [kidOf]
    split <;> simp <;> omega
theorem kid_step (n : Int) : ∀ (l : List Int) (j : Nat) (hj : j < l.length), j ≤ kidOf n l → (l[j] ≤ n ↔ j < kidOf n l)
  | [], j, hj, _ => absurd hj (Nat.not_lt_zero _)
  | b :: bs, 0, hj, h => by
    simp only [kidOf, List.getElem_cons_zero]
    split <;> simp_all
  | b :: bs, j + 1, hj, h => by
    simp only [kidOf] at h ⊢
    split at h
    · rename_i hb
      rw [if_pos hb]
      have := kid_step n bs j (by simpa using hj) (by omega)
      simp only [List.getElem_cons_succ]
      omega
    · omega
theorem piece_take (n : Int) : ∀ (bs ss : List Int) (v : Int), bs.length = ss.length → pieceV n v bs ss = (ss.take (kidOf n bs)).foldl fmul v
  | [], [], v, _ => by simp [pieceV, kidOf]
  | b :: bs, s :: ss, v, h => by
    simp only [pieceV, kidOf]
    split
    · rw [piece_take n bs ss (fmul v s) (by simpa using h)]; simp
    · simp
/-- The value behind j boundaries. -/
def pmul (v : Int) (ss : List Int) (j : Nat) : Int := (ss.take j).foldl fmul v
theorem pmul_succ (v : Int) (ss : List Int) (j : Nat) (h : j < ss.length) : pmul v ss (j + 1) = fmul (pmul v ss j) ss[j] := by
  unfold pmul; rw [List.take_succ_eq_append_getElem h, List.foldl_append]; rfl
theorem pat_pmul {v : Int} (hv : Pat v) (ss : List Int) (j : Nat) (h : j ≤ ss.length) : Pat (pmul v ss j) := by
  cases j with
  | zero => exact hv
  | succ j => rw [pmul_succ v ss j h]; exact pat_mul _ _
theorem from_le {n : Int} {l : List Int} (hl : risesA 0 l = true) (hn : 0 ≤ n) (j : Nat) (hj : j ≤ kidOf n l) : 0 ≤ fromOf l j ∧ fromOf l j ≤ n ∧ fromOf l j ≤ 2147483647 ∨ j = 0 ∧ fromOf l j = 0 := by
  cases j with
  | zero => right; exact ⟨rfl, rfl⟩
  | succ j =>
    left
    have hk := kid_le n l
    have hj2 : j < l.length := by omega
    have h1 := (kid_step n l j hj2 (by omega)).2 (by omega)
    have h2 := risesA_get l 0 hl j hj2
    have e : fromOf l (j + 1) = l[j] := by simp [fromOf, hj2]
    rw [e]
    omega
theorem from_at (l : List Int) (j : Nat) (h : j < l.length) : fromOf l (j + 1) = l[j] := by simp [fromOf, h]

set_option maxRecDepth 100000 in
set_option maxHeartbeats 2000000 in
theorem piece_any (n0 n : Int) (ss is : List Int) (ks : List Sc) (hp : Pat n0) (hps : ∀ x ∈ ss, 0 ≤ x ∧ x < 4294967296) (hl : is.length = ss.length) (hll : is.length ≤ 2147483647) (b o : Nat) (w : World) (h : SA w b o ⟨5, n0 :: ss, is, ks⟩) :
    Calls Try.prog 23 #[.pointer (some ⟨b, o, none⟩), .int .i64 n] w fun e w' => e = .returned (.int .u32 (pieceV n n0 is ss)) ∧ Below w.heap.size w w' := by
  rw [piece_take n is ss n0 hl]
  obtain ⟨K, hK⟩ : ∃ K, kidOf n is = K := ⟨_, rfl⟩
  rw [hK]
  have HKL : K ≤ is.length := by rw [← hK]; exact kid_le n is
  have HST : Hid (∀ j (hj : j < is.length), j ≤ K → (is[j] ≤ n ↔ j < K)) := fun j hj h => by rw [← hK] at h ⊢; exact kid_step n is j hj h
  rw [show (ss.take K).foldl fmul n0 = pmul n0 ss K from rfl]
  obtain ⟨pn, cn, pi, ci, pk, ck, hc⟩ := h.cells
  obtain ⟨N, hN⟩ : ∃ N, is.length = N := ⟨_, rfl⟩
  have HN : Hid (is.length = N) := hN
  have HNS : Hid (ss.length = N) := hl ▸ hN
  have r1 := (hc w (bel0 w)).2.2.2.2.1
  obtain ⟨b1, o1, rfl, d0⟩ := r1.get (i := 0) (by simp)
  have HD : Hid (∀ j (hj : j < ss.length), w.cell? ⟨b1, o1 + (j + 1), none⟩ = some (.int .u32 ss[j])) := fun j hj => by
    obtain ⟨b', o', e, h'⟩ := r1.get (i := j + 1) (by simpa using hj)
    simp only [Option.some.injEq, Addr.mk.injEq] at e
    obtain ⟨rfl, rfl, -⟩ := e
    simpa using h'
  have HI : Hid (Row w .i64 (.slice pi is.length ci) is) := (hc w (bel0 w)).2.2.2.2.2
  have HC : Hid (∀ v, Below w.heap.size w v → v.cell? ⟨b, o + 1, none⟩ = some (.slice (some ⟨b1, o1, none⟩) (N + 1) cn) ∧ v.cell? ⟨b, o + 2, none⟩ = some (.slice pi N ci)) := fun v hv => by
    have h1 := (hc v hv).2.1
    have h2 := (hc v hv).2.2.1
    simp only [List.length_cons] at h1
    rw [HNS.out] at h1
    simp only at h2
    rw [hN] at h2
    exact ⟨h1, h2⟩
  have HPS : Hid (∀ x ∈ ss, 0 ≤ x ∧ x < 4294967296) := hps
  obtain ⟨c1, c2⟩ := HC.out w (bel0 w)
  rw [hN] at hll HKL
  have z0 : (0 : Int) < ((N + 1 : Nat) : Int) := by omega
  have z0' : (0 : Int) < (N : Int) + 1 := by omega
  have d0' : w.cell? ⟨b1, o1, none⟩ = some (.int .u32 n0) := d0
  clear hc r1 h hl hN hK hps d0
  go_enter Try.func23, Try.ntmps23
  go_wp2
  go_loopw [5, 19] (fun sv iv wr => Below w.heap.size w wr ∧ ∃ j : Nat, j ≤ K ∧ iv = .int .i64 j ∧ sv = .int .u32 (pmul n0 ss j)) (fun _ iv _ => N - (intOf iv).toNat)
  case atStart => exact ⟨bel0 w, 0, Nat.zero_le _, rfl, rfl⟩
  case round =>
    obtain ⟨hb, j, hj, rfl, rfl⟩ := hrel
    by_cases hlt0 : j < N
    · have hli : j < is.length := by rw [HN.out]; exact hlt0
      have hls : j < ss.length := by rw [HNS.out]; exact hlt0
      obtain ⟨b2, o2, rfl, g1⟩ := HI.out.get hli
      have g1 := bcell g1 hb
      have hst := HST.out j hli hj
      obtain ⟨x, hx⟩ : ∃ x, is[j] = x := ⟨_, rfl⟩
      rw [hx] at g1 hst
      have i1 : (0 : Int) ≤ (j : Int) := by omega
      have i2 : (j : Int) < (N : Int) := by omega
      by_cases hle : x ≤ n
      · have hjk := hst.1 hle
        have c1 := (HC.out wr hb).1
        have d1 := bcell (HD.out j hls) hb
        have hsuc := pmul_succ n0 ss j hls
        have hp1 : Pat (pmul n0 ss j) := pat_pmul hp ss j (by omega)
        have hp2 : Pat ss[j] := HPS.out _ (List.getElem_mem hls)
        obtain ⟨y, hy⟩ : ∃ y, ss[j] = y := ⟨_, rfl⟩
        rw [hy] at d1 hp2 hsuc
        obtain ⟨P, hP⟩ : ∃ P, pmul n0 ss j = P := ⟨_, rfl⟩
        rw [hP] at hp1 hsuc ⊢
        have HSU : Hid (pmul n0 ss (j + 1) = fmul P y) := hsuc
        have w1 : IntKind.i64.wrap ((j : Int) + 1) = (j : Int) + 1 := by rw [IntKind.wrap_i64]; omega
        have i3 : (0 : Int) ≤ (j : Int) + 1 := by omega
        have i4 : (j : Int) + 1 < (N : Int) + 1 := by omega
        have t1 : ((j : Int) + 1).toNat = j + 1 := by omega
        have o1' : ¬ n < x := by omega
        clear hsuc hst hx hy hP HST HD
        have HB : Below wr.heap.size wr wr := bel0 wr
        go_wp2_with ((go_at_call 28; refine (f_mul (by with_reducible first | assumption | exact pat_add _ _ | exact pat_sub _ _ | exact pat_mul _ _ | exact pat_div _ _ | exact pat_sqrt _ | exact pat_from _ | exact pat_rat _ _ | exact pat_qrt _ | exact pat_qrN _ _ | exact pat_0 | exact pat_1 | exact pat_h) (by with_reducible first | assumption | exact pat_add _ _ | exact pat_sub _ _ | exact pat_mul _ _ | exact pat_div _ _ | exact pat_sqrt _ | exact pat_from _ | exact pat_rat _ _ | exact pat_qrt _ | exact pat_qrN _ _ | exact pat_0 | exact pat_1 | exact pat_h) _).mono ?_; rintro e wx ⟨rfl, hbx⟩; have HB : Below wr.heap.size wr wx := (by first | exact bel HB hbx | exact bel (by go_grown) hbx)))
        go_roundw
        case rel => exact ⟨bel hb HB, j + 1, by omega, by go_num, by rw [HSU.out]⟩
        case measure => simp [intOf]; omega
      · have hjk : j = K := by omega
        have o1' : n < x := by omega
        subst hjk
        clear hst hx HST HD
        go_wp2
        go_ret
        exact ⟨rfl, hb⟩
    · have : j = K := by omega
      subst this
      have z : ¬ (j : Int) < (N : Int) := by omega
      clear HST HD
      go_wp2
      go_ret
      exact ⟨rfl, hb⟩

end Go.Proofs.Ytnogokikiekcbab
