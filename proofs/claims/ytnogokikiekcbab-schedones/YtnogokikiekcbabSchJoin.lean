import Derived.Test.YtnogokikiekcbabSchPiece
/- Package sched: join, both, at, Value. -/
namespace Go.Proofs.Ytnogokikiekcbab
open Go.RowKit
set_option linter.unusedVariables false
set_option linter.unusedSimpArgs false

/-- What at says of a schedule, wherever it lies. -/
def AtA (t : Sc) : Prop := ∀ (n : Int) (b o : Nat) (w : World), 0 ≤ n → n ≤ 2147483647 → sok t → allT t → SA w b o t →
  Calls Try.prog 12 #[.pointer (some ⟨b, o, none⟩), .int .i64 n] w fun e w' => e = .returned (.int .u32 (valT t n)) ∧ Below w.heap.size w w'

set_option maxRecDepth 100000 in
set_option maxHeartbeats 2000000 in
theorem join_any (n : Int) (t : Sc) (hn : 0 ≤ n ∧ n ≤ 2147483647) (hr : risesA 0 t.ints = true) (hkl : t.kids.length = t.ints.length + 1) (hok : sok t) (hall : allF t.kids) (ih : ∀ k ∈ t.kids, AtA k) (b o : Nat) (w : World) (h : SA w b o t) :
    Calls Try.prog 24 #[.pointer (some ⟨b, o, none⟩), .int .i64 n] w fun e w' => e = .returned (.int .u32 ((valsL t.kids).getD (kidOf n t.ints) id (n - fromOf t.ints (kidOf n t.ints)))) ∧ Below w.heap.size w w' := by
  obtain ⟨K, hK⟩ : ∃ K, kidOf n t.ints = K := ⟨_, rfl⟩
  rw [hK]
  have HKL : K ≤ t.ints.length := by rw [← hK]; exact kid_le n t.ints
  have hkk : K < t.kids.length := by omega
  have HST : Hid (∀ j (hj : j < t.ints.length), j ≤ K → (t.ints[j] ≤ n ↔ j < K)) := fun j hj h => by rw [← hK] at h ⊢; exact kid_step n t.ints j hj h
  have hfr : 0 ≤ fromOf t.ints K ∧ fromOf t.ints K ≤ n := by
    have := from_le hr hn.1 K (by rw [hK]; exact Nat.le_refl _)
    omega
  rw [vals_at t hkk]
  obtain ⟨pn, cn, pi, ci, pk, ck, hc⟩ := h.cells
  obtain ⟨-, -, -, -, pk', ck', -, -, -, e3, -, -, k3⟩ := h.open
  have e3' := (hc w (bel0 w)).2.2.2.1
  rw [e3] at e3'
  simp only [Option.some.injEq, Value.slice.injEq, true_and] at e3'
  obtain ⟨rfl, rfl⟩ := e3'
  obtain ⟨b3, o3, rfl, hsa⟩ := k3 K hkk
  have hmem := List.getElem_mem hkk
  have HCL : Hid (∀ v, Below w.heap.size w v → Calls Try.prog 12 #[.pointer (some ⟨b3, o3 + K * 4, none⟩), .int .i64 (n - fromOf t.ints K)] v fun e w' => e = .returned (.int .u32 (valT t.kids[K] (n - fromOf t.ints K))) ∧ Below v.heap.size v w') := fun v hv =>
    ih _ hmem (n - fromOf t.ints K) b3 (o3 + K * 4) v (by omega) (by omega) ((sokL_iff _).1 hok.2 _ hmem) ((allF_iff _).1 hall _ hmem) (hsa.below hv)
  obtain ⟨V, hV⟩ : ∃ V, valT t.kids[K] (n - fromOf t.ints K) = V := ⟨_, rfl⟩
  rw [hV] at HCL ⊢
  obtain ⟨N, hN⟩ : ∃ N, t.ints.length = N := ⟨_, rfl⟩
  have HN : Hid (t.ints.length = N) := hN
  have HI : Hid (Row w .i64 (.slice pi t.ints.length ci) t.ints) := (hc w (bel0 w)).2.2.2.2.2
  have HC : Hid (∀ v, Below w.heap.size w v → v.cell? ⟨b, o + 2, none⟩ = some (.slice pi N ci) ∧ v.cell? ⟨b, o + 3, none⟩ = some (.slice (some ⟨b3, o3, none⟩) (N + 1) ck')) := fun v hv => by
    have h1 := (hc v hv).2.2.1
    have h2 := (hc v hv).2.2.2.1
    rw [hN] at h1
    rw [hkl, hN] at h2
    exact ⟨h1, h2⟩
  obtain ⟨c2, c3⟩ := HC.out w (bel0 w)
  have hll : N ≤ 2147483647 := by
    have := risesA_len t.ints 0 hr (by decide)
    rw [hN] at this
    omega
  rw [hN] at HKL
  have hkN : (K : Int) < (N : Int) + 1 := by omega
  have hk0 : (0 : Int) ≤ (K : Int) := by omega
  have hwf : IntKind.i64.wrap (n - fromOf t.ints K) = n - fromOf t.ints K := by rw [IntKind.wrap_i64]; omega
  clear hc h k3 hsa e3 hok hall ih hV hK hN hkl hmem hkk
  go_enter Try.func24, Try.ntmps24
  go_wp2
  go_loopw [5, 6, 14] (fun kv fv iv wr => wr = w ∧ ∃ j : Nat, j ≤ K ∧ iv = .int .i64 j ∧ kv = .int .i64 j ∧ fv = .int .i64 (fromOf t.ints j)) (fun _ _ iv _ => N - (intOf iv).toNat)
  case atStart => exact ⟨rfl, 0, Nat.zero_le _, rfl, rfl, rfl⟩
  case round =>
    obtain ⟨rfl, j, hj, rfl, rfl, rfl⟩ := hrel
    by_cases hlt0 : j < N
    · have hli : j < t.ints.length := by rw [HN.out]; exact hlt0
      obtain ⟨b2, o2, rfl, g1⟩ := HI.out.get hli
      have hst := HST.out j hli hj
      have hfa := from_at t.ints j hli
      obtain ⟨x, hx⟩ : ∃ x, t.ints[j] = x := ⟨_, rfl⟩
      rw [hx] at g1 hst hfa
      have HFA : Hid (fromOf t.ints (j + 1) = x) := hfa
      have i1 : (0 : Int) ≤ (j : Int) := by omega
      have i2 : (j : Int) < (N : Int) := by omega
      by_cases hle : x ≤ n
      · have hjk := hst.1 hle
        have w1 : IntKind.i64.wrap ((j : Int) + 1) = (j : Int) + 1 := by rw [IntKind.wrap_i64]; omega
        have o1' : ¬ n < x := by omega
        clear hst hx HST hfa
        go_wp2
        go_roundw
        case rel => exact ⟨trivial, j + 1, by omega, by go_num, by go_num, by rw [HFA.out]⟩
        case measure => simp [intOf]; omega
      · have hjk : j = K := by omega
        have o1' : n < x := by omega
        subst hjk
        clear hst hx HST hfa HFA
        go_wp2_with (go_at_call 12; (with_reducible refine (HCL.out _ (bel0 _)).mono ?_); rintro e w1 ⟨rfl, hb1⟩)
        go_ret
        exact ⟨rfl, hb1⟩
    · have : j = K := by omega
      subst this
      have z : ¬ (j : Int) < (N : Int) := by omega
      clear HST
      go_wp2_with (go_at_call 12; (with_reducible refine (HCL.out _ (bel0 _)).mono ?_); rintro e w1 ⟨rfl, hb1⟩)
      go_ret
      exact ⟨rfl, hb1⟩

set_option maxRecDepth 100000 in
set_option maxHeartbeats 2000000 in
theorem both_any (k : Nat) (hen : Ent k) (f : Int → Int → Int) (hk : ∀ a b (v : World), Pat a → Pat b → Calls Try.prog k #[.int .u32 a, .int .u32 b] v fun e v' => e = .returned (.int .u32 (f a b)) ∧ Below v.heap.size v v')
    (n : Int) (t : Sc) (x y : Int) (px : Pat x) (py : Pat y) (b o b3 o3 ck : Nat) (w : World) (hc : w.cell? ⟨b, o + 3, none⟩ = some (.slice (some ⟨b3, o3, none⟩) 2 ck))
    (h0 : ∀ v, Below w.heap.size w v → Calls Try.prog 12 #[.pointer (some ⟨b3, o3, none⟩), .int .i64 n] v fun e w' => e = .returned (.int .u32 x) ∧ Below v.heap.size v w')
    (h1 : ∀ v, Below w.heap.size w v → Calls Try.prog 12 #[.pointer (some ⟨b3, o3 + 4, none⟩), .int .i64 n] v fun e w' => e = .returned (.int .u32 y) ∧ Below v.heap.size v w') :
    Calls Try.prog 26 #[.pointer (some ⟨b, o, none⟩), .int .i64 n, .func (.func k) #[] #[]] w fun e w' => e = .returned (.int .u32 (f x y)) ∧ Below w.heap.size w w' := by
  unfold Ent at hen
  have H0 : Hid (∀ v, Below w.heap.size w v → Calls Try.prog 12 #[.pointer (some ⟨b3, o3, none⟩), .int .i64 n] v fun e w' => e = .returned (.int .u32 x) ∧ Below v.heap.size v w') := h0
  have H1 : Hid (∀ v, Below w.heap.size w v → Calls Try.prog 12 #[.pointer (some ⟨b3, o3 + 4, none⟩), .int .i64 n] v fun e w' => e = .returned (.int .u32 y) ∧ Below v.heap.size v w') := h1
  have HK : Hid (∀ v : World, Calls Try.prog k #[.int .u32 x, .int .u32 y] v fun e v' => e = .returned (.int .u32 (f x y)) ∧ Below v.heap.size v v') := fun v => hk x y v px py
  clear h0 h1 hk
  go_enter Try.func26, Try.ntmps26
  go_wp2
  go_region_held3 (fun w' => w'.cell? ⟨b, o + 3, none⟩ = some (.slice (some ⟨b3, o3, none⟩) 2 ck)) (go_keep) (first
    | (go_at_call 12; (with_reducible refine (H0.out _ (bel_d _)).mono ?_); rintro e w1 ⟨rfl, hb1⟩; have HB : Below w.heap.size w w1 := bel (bel_d _) hb1; have hc1 := bcell hc HB)
    | (go_at_call 12; (with_reducible refine (H1.out _ HB).mono ?_); rintro e w2 ⟨rfl, hb2⟩; have HB2 : Below w.heap.size w w2 := bel HB hb2; have hc2 := bcell hc HB2)
    | ((with_reducible refine (HK.out _).mono ?_); rintro e w3 ⟨rfl, hb3⟩; have HB3 : Below w.heap.size w w3 := bel HB2 hb3; have hc3 := bcell hc HB3))
  all_goals go_wp2
  all_goals go_ret
  all_goals exact ⟨rfl, HB3⟩

end Go.Proofs.Ytnogokikiekcbab
