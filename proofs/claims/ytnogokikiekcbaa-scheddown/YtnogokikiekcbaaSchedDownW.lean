import Derived.Test.YtnogokikiekcbaaSchedJoinsW
import Derived.Test.YtnogokikiekcbaaSchDownP
/- The statement SchedDown: its walk. -/
namespace Go.Proofs.Ytnogokikiekcbaa
open Go.RowKit
set_option linter.unusedVariables false
set_option linter.unusedSimpArgs false

set_option maxRecDepth 100000 in
set_option maxHeartbeats 8000000 in
theorem walk_SchedDown (A : Int) (A0 : 0 ≤ A) (A1 : A < 4294967296) (B : Int) (B0 : 0 ≤ B) (B1 : B < 4294967296) (P : Int) (P0 : -9223372036854775808 ≤ P) (P1 : P ≤ 9223372036854775807) (T : Int) (T0 : -9223372036854775808 ≤ T) (T1 : T ≤ 9223372036854775807) (G : Int) (G0 : -9223372036854775808 ≤ G) (G1 : G ≤ 9223372036854775807) (M : Int) (M0 : -9223372036854775808 ≤ M) (M1 : M ≤ 9223372036854775807) (N : Int) (N0 : -9223372036854775808 ≤ N) (N1 : N ≤ 9223372036854775807) (w : World) :
    Calls Try.prog 6 #[.agg #[.int .u32 A, .int .u32 B, .int .i64 P, .int .i64 T, .int .i64 G, .int .i64 M, .int .i64 N]] w fun e w' => e = .returned (.bool true) ∧ Below w.heap.size w w' := by
  obtain ⟨W, hW⟩ : ∃ W, (((w.alloc (.cells #[.int .u32 A, .int .u32 B, .int .i64 P, .int .i64 T, .int .i64 G, .int .i64 M, .int .i64 N] 47)).alloc (.cells #[.int .u32 A, .int .u32 B] 31)).alloc (.cells #[.int .i64 P, .int .i64 T, .int .i64 G] 3)).alloc (.cells #[.int .i64 2, .slice (some ⟨w.heap.size + 1, 0, none⟩) 2 2, .slice (some ⟨w.heap.size + 1 + 1, 0, none⟩) 3 3, .slice none 0 0] 26) = W := ⟨_, rfl⟩
  have HWE : Hid ((((w.alloc (.cells #[.int .u32 A, .int .u32 B, .int .i64 P, .int .i64 T, .int .i64 G, .int .i64 M, .int .i64 N] 47)).alloc (.cells #[.int .u32 A, .int .u32 B] 31)).alloc (.cells #[.int .i64 P, .int .i64 T, .int .i64 G] 3)).alloc (.cells #[.int .i64 2, .slice (some ⟨w.heap.size + 1, 0, none⟩) 2 2, .slice (some ⟨w.heap.size + 1 + 1, 0, none⟩) 3 3, .slice none 0 0] 26) = W) := hW
  have hB : Below w.heap.size w W := by rw [← hW]; exact bel (bel (bel (bel_alloc _ _) (bel_alloc _ _)) (bel_alloc _ _)) (bel_alloc _ _)
  have HB0 : Hid (Below w.heap.size w W) := hB
  have hX : ∀ v, v = W → (v.cell? ⟨w.heap.size, 0, none⟩ = some (.int .u32 A) ∧ v.cell? ⟨w.heap.size, 1, none⟩ = some (.int .u32 B) ∧ v.cell? ⟨w.heap.size, 2, none⟩ = some (.int .i64 P) ∧ v.cell? ⟨w.heap.size, 3, none⟩ = some (.int .i64 T) ∧ v.cell? ⟨w.heap.size, 4, none⟩ = some (.int .i64 G) ∧ v.cell? ⟨w.heap.size, 5, none⟩ = some (.int .i64 M) ∧ v.cell? ⟨w.heap.size, 6, none⟩ = some (.int .i64 N)) ∧ v.cell? ⟨w.heap.size + 1 + 1 + 1, 0, none⟩ = some (.int .i64 2) ∧ v.cell? ⟨w.heap.size + 1 + 1 + 1, 1, none⟩ = some (.slice (some ⟨w.heap.size + 1, 0, none⟩) 2 2) ∧ v.cell? ⟨w.heap.size + 1 + 1 + 1, 2, none⟩ = some (.slice (some ⟨w.heap.size + 1 + 1, 0, none⟩) 3 3) ∧ v.cell? ⟨w.heap.size + 1 + 1 + 1, 3, none⟩ = some (.slice none 0 0) := by
    intro v hv
    rw [hv, ← hW]
    refine ⟨⟨?_, ?_, ?_, ?_, ?_, ?_, ?_⟩, ?_, ?_, ?_, ?_⟩ <;> simp [go_sem]
  have HX : Hid (∀ v, Below W.heap.size W v → (v.cell? ⟨w.heap.size, 0, none⟩ = some (.int .u32 A) ∧ v.cell? ⟨w.heap.size, 1, none⟩ = some (.int .u32 B) ∧ v.cell? ⟨w.heap.size, 2, none⟩ = some (.int .i64 P) ∧ v.cell? ⟨w.heap.size, 3, none⟩ = some (.int .i64 T) ∧ v.cell? ⟨w.heap.size, 4, none⟩ = some (.int .i64 G) ∧ v.cell? ⟨w.heap.size, 5, none⟩ = some (.int .i64 M) ∧ v.cell? ⟨w.heap.size, 6, none⟩ = some (.int .i64 N)) ∧ v.cell? ⟨w.heap.size + 1 + 1 + 1, 0, none⟩ = some (.int .i64 2) ∧ v.cell? ⟨w.heap.size + 1 + 1 + 1, 1, none⟩ = some (.slice (some ⟨w.heap.size + 1, 0, none⟩) 2 2) ∧ v.cell? ⟨w.heap.size + 1 + 1 + 1, 2, none⟩ = some (.slice (some ⟨w.heap.size + 1 + 1, 0, none⟩) 3 3) ∧ v.cell? ⟨w.heap.size + 1 + 1 + 1, 3, none⟩ = some (.slice none 0 0)) := fun v hv => by
    obtain ⟨⟨c0, c1, c2, c3, c4, c5, c6⟩, s0, s1, s2, s3⟩ := hX W rfl
    exact ⟨⟨bcell c0 hv, bcell c1 hv, bcell c2 hv, bcell c3 hv, bcell c4 hv, bcell c5 hv, bcell c6 hv⟩, bcell s0 hv, bcell s1 hv, bcell s2 hv, bcell s3 hv⟩
  have pA : Pat A := ⟨A0, A1⟩
  have pB : Pat B := ⟨B0, B1⟩
  obtain ⟨t, ht⟩ : ∃ t : Sc, t = ⟨2, [A, B], [P, T, G], []⟩ := ⟨_, rfl⟩
  have hS : SV W t (.slice (some ⟨w.heap.size + 1, 0, none⟩) 2 2) (.slice (some ⟨w.heap.size + 1 + 1, 0, none⟩) 3 3) (.slice none 0 0) := by
    rw [ht]
    refine ⟨⟨_, _, rfl, .inr ⟨_, _, rfl, fun i hi => ?_⟩⟩, ⟨_, _, rfl, .inr ⟨_, _, rfl, fun i hi => ?_⟩⟩, ⟨_, _, rfl, .inl rfl⟩⟩
    · have hi2 : i < 2 := hi
      rw [← hW]
      match i, hi2 with
      | 0, _ => simp [go_sem]
      | 1, _ => simp [go_sem]
    · have hi2 : i < 3 := hi
      rw [← hW]
      match i, hi2 with
      | 0, _ => simp [go_sem]
      | 1, _ => simp [go_sem]
      | 2, _ => simp [go_sem]
  have hsok : sok t := by
    rw [ht]
    refine ⟨⟨⟨by show (-9223372036854775808 : Int) ≤ 2; decide, by show (2 : Int) ≤ 9223372036854775807; decide⟩, ?_, ?_, by simp, by simp, by simp⟩, sokL_nil⟩
    · intro x hx
      simp only [List.mem_cons, List.not_mem_nil, or_false] at hx
      rcases hx with rfl | rfl
      · exact pA
      · exact pB
    · intro x hx
      simp only [List.mem_cons, List.not_mem_nil, or_false] at hx
      rcases hx with rfl | rfl | rfl
      · exact ⟨P0, P1⟩
      · exact ⟨T0, T1⟩
      · exact ⟨G0, G1⟩
  have hop : t.op = 2 := by rw [ht]
  have HV : ∀ (k : Int) v, Below W.heap.size W v → Calls Try.prog 12 #[.agg #[.int .i64 2, .slice (some ⟨w.heap.size + 1, 0, none⟩) 2 2, .slice (some ⟨w.heap.size + 1 + 1, 0, none⟩) 3 3, .slice none 0 0], .int .i64 k] v fun e w' => e = .returned (.tuple #[.int .u32 (valueP t k).1, .int .i64 (valueP t k).2]) ∧ Below v.heap.size v w' := fun k v hv => by
    have := value_to t k _ _ _ hsok v (hS.below hv)
    rw [hop] at this
    exact this
  obtain ⟨m, hmn⟩ : ∃ m, min M N = m := ⟨_, rfl⟩
  obtain ⟨n, hmx⟩ : ∃ n, max M N = n := ⟨_, rfl⟩
  have hle : m ≤ n := by omega
  have HFACT : Hid ((valueP t m).2 = 0 → (valueP t n).2 = 0 → ffin (fsub A B) = true → 0 ≤ m ∧ n ≤ 2147483647 ∧ 1 ≤ T ∧ T ≤ 2147483647 ∧ 0 ≤ G ∧ G ≤ 2147483647
      ∧ (fless A B = false → fless (valueP t m).1 (valueP t n).1 = false) ∧ (fless A B = true → fless (valueP t n).1 (valueP t m).1 = false) ∧ (G + T ≤ n → feq (valueP t n).1 B = true) ∧ (m ≤ G → (valueP t m).1 = fadd (fmul (fsub A B) 1065353216) B)) := fun h1 h2 hf => by
    obtain ⟨k1, k2, k3⟩ := valueP_ok h1
    obtain ⟨k4, -, k5⟩ := valueP_ok h2
    have hfit := (okS_all k2).1
    rw [k3, k5]
    rw [ht] at hfit ⊢
    obtain ⟨a, b, p, s, g, e1, e2, -, hp, hs, hg⟩ := inv_2 hfit
    simp only [List.cons.injEq, and_true] at e1 e2
    obtain ⟨rfl, rfl⟩ := e1
    obtain ⟨rfl, rfl, rfl⟩ := e2
    have hall : (hasN ⟨2, [A, B], [P, T, G], []⟩ 2 3 0 && isPow P && isStp T && isCnt G) = true := hfit
    have hfin : [A, B].all ffin = true := by
      simp only [Bool.and_eq_true] at hall
      have := hall.1.1.1
      unfold hasN at this
      simp only [Bool.and_eq_true] at this
      exact this.2
    simp only [List.all_cons, List.all_nil, Bool.and_true, Bool.and_eq_true] at hfin
    obtain ⟨q1, q2, q3, q4⟩ := poly_one_way (p := P) (s := T) (g := G) (m := m) (n := n) ⟨pA, hfin.1⟩ ⟨pB, hfin.2⟩ ⟨pat_sub A B, hf⟩ hp.1 hs.1 hs.2 hle
    exact ⟨(isCnt_iff k1).1, (isCnt_iff k4).2, hs.1, hs.2, hg.1, hg.2, q1, q2, q3, q4⟩
  have pV1 := pat_valueP hsok m
  have pV2 := pat_valueP hsok n
  have h01 := valueP_01 t m
  have h02 := valueP_01 t n
  have HVm := HV m
  have HVn := HV n
  obtain ⟨V1, hV1⟩ : ∃ V, (valueP t m).1 = V := ⟨_, rfl⟩
  obtain ⟨E1, hE1⟩ : ∃ V, (valueP t m).2 = V := ⟨_, rfl⟩
  obtain ⟨V2, hV2⟩ : ∃ V, (valueP t n).1 = V := ⟨_, rfl⟩
  obtain ⟨E2, hE2⟩ : ∃ V, (valueP t n).2 = V := ⟨_, rfl⟩
  rw [hV1, hE1] at HVm
  rw [hV2, hE2] at HVn
  rw [hV1, hE1, hV2, hE2] at HFACT
  rw [hV1] at pV1
  rw [hV2] at pV2
  rw [hE1] at h01
  rw [hE2] at h02
  have HM : Hid (∀ v, Below W.heap.size W v → Calls Try.prog 12 #[.agg #[.int .i64 2, .slice (some ⟨w.heap.size + 1, 0, none⟩) 2 2, .slice (some ⟨w.heap.size + 1 + 1, 0, none⟩) 3 3, .slice none 0 0], .int .i64 m] v fun e w' => e = .returned (.tuple #[.int .u32 V1, .int .i64 E1]) ∧ Below v.heap.size v w') := HVm
  have HN : Hid (∀ v, Below W.heap.size W v → Calls Try.prog 12 #[.agg #[.int .i64 2, .slice (some ⟨w.heap.size + 1, 0, none⟩) 2 2, .slice (some ⟨w.heap.size + 1 + 1, 0, none⟩) 3 3, .slice none 0 0], .int .i64 n] v fun e w' => e = .returned (.tuple #[.int .u32 V2, .int .i64 E2]) ∧ Below v.heap.size v w') := HVn
  have HWK : Hid (∀ v : World, Calls Try.prog 10 #[] v fun e w' => e = .returned (.bool true) ∧ Below v.heap.size v w') := works_any14
  have eA : IntKind.i64.wrap A = A := by rw [IntKind.wrap_i64]; omega
  have eB : IntKind.i64.wrap B = B := by rw [IntKind.wrap_i64]; omega
  have eV1 : IntKind.i64.wrap V1 = V1 := by have := pV1.1; have := pV1.2; rw [IntKind.wrap_i64]; omega
  have eV2 : IntKind.i64.wrap V2 = V2 := by have := pV2.1; have := pV2.2; rw [IntKind.wrap_i64]; omega
  have hpd := pat_sub A B
  obtain ⟨D, hD⟩ : ∃ D, fsub A B = D := ⟨_, rfl⟩
  rw [hD] at HFACT hpd
  clear hW hB hX hS hop HV hV1 hE1 hV2 hE2 HVm HVn hsok ht A0 A1 B0 B1 P0 P1 T0 T1 G0 G1 M0 M1 N0 N1
  rcases h01 with h01 | h01
  rotate_left 1
  · subst h01
    clear HFACT
    go_enter Try.func6, Try.ntmps6
    go_wp2
    rw [HWE.out]
    obtain ⟨⟨c0, c1, c2, c3, c4, c5, c6⟩, s0, s1, s2, s3⟩ := HX.out W (bel0 W)
    go_region_held3 (fun w' => w'.cell? ⟨w.heap.size, 5, none⟩ = some (.int .i64 M) ∧ w'.cell? ⟨w.heap.size, 6, none⟩ = some (.int .i64 N)) (go_keep) (fail)
    all_goals clear c0 c1 c2 c3 c4 c5 c6 s0 s1 s2 s3
    all_goals have HB : Below W.heap.size W W.drew := bel_d W
    all_goals obtain ⟨⟨c0, c1, c2, c3, c4, c5, c6⟩, s0, s1, s2, s3⟩ := HX.out W.drew HB
    all_goals try rw [hmn]
    all_goals try rw [hmx]
    all_goals go_wp2_with (first
        | (go_at_call 12; (with_reducible refine (HM.out _ HB).mono ?_); rintro e wx ⟨rfl, hbx⟩; have HB : Below W.heap.size W wx := bel HB hbx; obtain ⟨⟨c0, c1, c2, c3, c4, c5, c6⟩, s0, s1, s2, s3⟩ := HX.out wx HB; clear HM)
        | (go_at_call 12; (with_reducible refine (HN.out _ HB).mono ?_); rintro e wx ⟨rfl, hbx⟩; have HB : Below W.heap.size W wx := bel HB hbx; obtain ⟨⟨c0, c1, c2, c3, c4, c5, c6⟩, s0, s1, s2, s3⟩ := HX.out wx HB; clear HN)
        | (go_at_call 21; refine (r_sub (by with_reducible first | assumption | exact pat_sub _ _ | exact pat_mul _ _ | exact pat_1) (by with_reducible first | assumption | exact pat_sub _ _ | exact pat_mul _ _ | exact pat_1) _).mono ?_; rintro e wx ⟨rfl, hbx⟩; have HB : Below W.heap.size W wx := bel HB hbx; obtain ⟨⟨c0, c1, c2, c3, c4, c5, c6⟩, s0, s1, s2, s3⟩ := HX.out wx HB)
        | (go_at_call 10; (with_reducible refine (HWK.out _).mono ?_); rintro e wx ⟨rfl, hbx⟩; have HB : Below W.heap.size W wx := bel HB hbx; obtain ⟨⟨c0, c1, c2, c3, c4, c5, c6⟩, s0, s1, s2, s3⟩ := HX.out wx HB))
    all_goals go_ret
    all_goals exact ⟨rfl, bel HB0.out HB⟩
  rcases h02 with h02 | h02
  rotate_left 1
  · subst h01 h02
    clear HFACT
    go_enter Try.func6, Try.ntmps6
    go_wp2
    rw [HWE.out]
    obtain ⟨⟨c0, c1, c2, c3, c4, c5, c6⟩, s0, s1, s2, s3⟩ := HX.out W (bel0 W)
    go_region_held3 (fun w' => w'.cell? ⟨w.heap.size, 5, none⟩ = some (.int .i64 M) ∧ w'.cell? ⟨w.heap.size, 6, none⟩ = some (.int .i64 N)) (go_keep) (fail)
    all_goals clear c0 c1 c2 c3 c4 c5 c6 s0 s1 s2 s3
    all_goals have HB : Below W.heap.size W W.drew := bel_d W
    all_goals obtain ⟨⟨c0, c1, c2, c3, c4, c5, c6⟩, s0, s1, s2, s3⟩ := HX.out W.drew HB
    all_goals try rw [hmn]
    all_goals try rw [hmx]
    all_goals go_wp2_with (first
        | (go_at_call 12; (with_reducible refine (HM.out _ HB).mono ?_); rintro e wx ⟨rfl, hbx⟩; have HB : Below W.heap.size W wx := bel HB hbx; obtain ⟨⟨c0, c1, c2, c3, c4, c5, c6⟩, s0, s1, s2, s3⟩ := HX.out wx HB; clear HM)
        | (go_at_call 12; (with_reducible refine (HN.out _ HB).mono ?_); rintro e wx ⟨rfl, hbx⟩; have HB : Below W.heap.size W wx := bel HB hbx; obtain ⟨⟨c0, c1, c2, c3, c4, c5, c6⟩, s0, s1, s2, s3⟩ := HX.out wx HB; clear HN)
        | (go_at_call 21; refine (r_sub (by with_reducible first | assumption | exact pat_sub _ _ | exact pat_mul _ _ | exact pat_1) (by with_reducible first | assumption | exact pat_sub _ _ | exact pat_mul _ _ | exact pat_1) _).mono ?_; rintro e wx ⟨rfl, hbx⟩; have HB : Below W.heap.size W wx := bel HB hbx; obtain ⟨⟨c0, c1, c2, c3, c4, c5, c6⟩, s0, s1, s2, s3⟩ := HX.out wx HB)
        | (go_at_call 10; (with_reducible refine (HWK.out _).mono ?_); rintro e wx ⟨rfl, hbx⟩; have HB : Below W.heap.size W wx := bel HB hbx; obtain ⟨⟨c0, c1, c2, c3, c4, c5, c6⟩, s0, s1, s2, s3⟩ := HX.out wx HB))
    all_goals go_ret
    all_goals exact ⟨rfl, bel HB0.out HB⟩
  subst h01 h02
  cases hfd : ffin D
  · clear HFACT
    go_enter Try.func6, Try.ntmps6
    go_wp2
    rw [HWE.out]
    obtain ⟨⟨c0, c1, c2, c3, c4, c5, c6⟩, s0, s1, s2, s3⟩ := HX.out W (bel0 W)
    go_region_held3 (fun w' => w'.cell? ⟨w.heap.size, 5, none⟩ = some (.int .i64 M) ∧ w'.cell? ⟨w.heap.size, 6, none⟩ = some (.int .i64 N)) (go_keep) (fail)
    all_goals clear c0 c1 c2 c3 c4 c5 c6 s0 s1 s2 s3
    all_goals have HB : Below W.heap.size W W.drew := bel_d W
    all_goals obtain ⟨⟨c0, c1, c2, c3, c4, c5, c6⟩, s0, s1, s2, s3⟩ := HX.out W.drew HB
    all_goals try rw [hmn]
    all_goals try rw [hmx]
    all_goals go_wp2_with (first
        | (go_at_call 12; (with_reducible refine (HM.out _ HB).mono ?_); rintro e wx ⟨rfl, hbx⟩; have HB : Below W.heap.size W wx := bel HB hbx; obtain ⟨⟨c0, c1, c2, c3, c4, c5, c6⟩, s0, s1, s2, s3⟩ := HX.out wx HB; clear HM)
        | (go_at_call 12; (with_reducible refine (HN.out _ HB).mono ?_); rintro e wx ⟨rfl, hbx⟩; have HB : Below W.heap.size W wx := bel HB hbx; obtain ⟨⟨c0, c1, c2, c3, c4, c5, c6⟩, s0, s1, s2, s3⟩ := HX.out wx HB; clear HN)
        | (go_at_call 21; refine (r_sub (by with_reducible first | assumption | exact pat_sub _ _ | exact pat_mul _ _ | exact pat_1) (by with_reducible first | assumption | exact pat_sub _ _ | exact pat_mul _ _ | exact pat_1) _).mono ?_; rintro e wx ⟨rfl, hbx⟩; rw [hD]; have HB : Below W.heap.size W wx := bel HB hbx; obtain ⟨⟨c0, c1, c2, c3, c4, c5, c6⟩, s0, s1, s2, s3⟩ := HX.out wx HB)
        | (go_at_call 23; refine (r_fin (by with_reducible first | assumption | exact pat_sub _ _ | exact pat_mul _ _ | exact pat_1) _).mono ?_; rintro e wx ⟨rfl, hbx⟩; rw [hfd]; have HB : Below W.heap.size W wx := bel HB hbx; obtain ⟨⟨c0, c1, c2, c3, c4, c5, c6⟩, s0, s1, s2, s3⟩ := HX.out wx HB)
        | (go_at_call 10; (with_reducible refine (HWK.out _).mono ?_); rintro e wx ⟨rfl, hbx⟩; have HB : Below W.heap.size W wx := bel HB hbx; obtain ⟨⟨c0, c1, c2, c3, c4, c5, c6⟩, s0, s1, s2, s3⟩ := HX.out wx HB))
    all_goals go_ret
    all_goals exact ⟨rfl, bel HB0.out HB⟩
  obtain ⟨hm0, hn1, hT0, hT1, hG0, hG1, q1, q2, q3, q4⟩ := HFACT.out rfl rfl hfd
  have eGT : IntKind.i64.wrap (G + T) = G + T := by rw [IntKind.wrap_i64]; omega
  clear HFACT
  have hq4' : m ≤ G → V1 = fadd (fmul D 1065353216) B := q4
  clear q4
  cases hup : fless A B
  · have hqa := q1 hup
    clear q1 q2
    by_cases hge : G + T ≤ n
    · have hqe := q3 hge
      clear q3
      by_cases hgm : m ≤ G
      · have HQ4 : Hid (V1 = fadd (fmul D 1065353216) B) := hq4' hgm
        have hgm' : ¬ G < m := by omega
        have hgd : decide (G < m) = false := decide_eq_false hgm'
        clear hq4' hgm
        have hge' : ¬ n < G + T := by omega
        go_enter Try.func6, Try.ntmps6
        go_wp2
        rw [HWE.out]
        obtain ⟨⟨c0, c1, c2, c3, c4, c5, c6⟩, s0, s1, s2, s3⟩ := HX.out W (bel0 W)
        go_region_held3 (fun w' => w'.cell? ⟨w.heap.size, 5, none⟩ = some (.int .i64 M) ∧ w'.cell? ⟨w.heap.size, 6, none⟩ = some (.int .i64 N)) (go_keep) (fail)
        all_goals clear c0 c1 c2 c3 c4 c5 c6 s0 s1 s2 s3
        all_goals have HB : Below W.heap.size W W.drew := bel_d W
        all_goals obtain ⟨⟨c0, c1, c2, c3, c4, c5, c6⟩, s0, s1, s2, s3⟩ := HX.out W.drew HB
        all_goals try rw [hmn]
        all_goals try rw [hmx]
        all_goals go_wp2_with (first
            | (go_at_call 12; (with_reducible refine (HM.out _ HB).mono ?_); rintro e wx ⟨rfl, hbx⟩; have HB : Below W.heap.size W wx := bel HB hbx; obtain ⟨⟨c0, c1, c2, c3, c4, c5, c6⟩, s0, s1, s2, s3⟩ := HX.out wx HB; clear HM)
            | (go_at_call 12; (with_reducible refine (HN.out _ HB).mono ?_); rintro e wx ⟨rfl, hbx⟩; have HB : Below W.heap.size W wx := bel HB hbx; obtain ⟨⟨c0, c1, c2, c3, c4, c5, c6⟩, s0, s1, s2, s3⟩ := HX.out wx HB; clear HN)
            | (go_at_call 21; refine (r_sub (by with_reducible first | assumption | exact pat_sub _ _ | exact pat_mul _ _ | exact pat_1) (by with_reducible first | assumption | exact pat_sub _ _ | exact pat_mul _ _ | exact pat_1) _).mono ?_; rintro e wx ⟨rfl, hbx⟩; rw [hD]; have HB : Below W.heap.size W wx := bel HB hbx; obtain ⟨⟨c0, c1, c2, c3, c4, c5, c6⟩, s0, s1, s2, s3⟩ := HX.out wx HB)
            | (go_at_call 23; refine (r_fin (by with_reducible first | assumption | exact pat_sub _ _ | exact pat_mul _ _ | exact pat_1) _).mono ?_; rintro e wx ⟨rfl, hbx⟩; rw [hfd]; have HB : Below W.heap.size W wx := bel HB hbx; obtain ⟨⟨c0, c1, c2, c3, c4, c5, c6⟩, s0, s1, s2, s3⟩ := HX.out wx HB)
            | (go_at_call 19; refine (r_less (by with_reducible first | assumption | exact pat_sub _ _ | exact pat_mul _ _ | exact pat_1) (by with_reducible first | assumption | exact pat_sub _ _ | exact pat_mul _ _ | exact pat_1) _).mono ?_; rintro e wx ⟨rfl, hbx⟩; (first | rw [hup] | rw [hqa]); have HB : Below W.heap.size W wx := bel HB hbx; obtain ⟨⟨c0, c1, c2, c3, c4, c5, c6⟩, s0, s1, s2, s3⟩ := HX.out wx HB)
            | (go_at_call 24; refine (r_eq (by with_reducible first | assumption | exact pat_sub _ _ | exact pat_mul _ _ | exact pat_1) (by with_reducible first | assumption | exact pat_sub _ _ | exact pat_mul _ _ | exact pat_1) _).mono ?_; rintro e wx ⟨rfl, hbx⟩; rw [hqe]; have HB : Below W.heap.size W wx := bel HB hbx; obtain ⟨⟨c0, c1, c2, c3, c4, c5, c6⟩, s0, s1, s2, s3⟩ := HX.out wx HB))
        all_goals go_region_held3 (fun w' => w'.cell? ⟨w.heap.size, 1, none⟩ = some (.int .u32 B) ∧ w'.cell? ⟨w.heap.size, 4, none⟩ = some (.int .i64 G)) (go_keep) (first | (go_at_call 26; refine (r_mul (by with_reducible first | assumption | exact pat_sub _ _ | exact pat_mul _ _ | exact pat_1) (by with_reducible first | assumption | exact pat_sub _ _ | exact pat_mul _ _ | exact pat_1) _).mono ?_; rintro e wx ⟨rfl, hbx⟩; have HB : Below W.heap.size W wx := (by first | exact bel HB hbx | exact bel (bel HB (bel_d _)) hbx); obtain ⟨⟨c0, c1, c2, c3, c4, c5, c6⟩, s0, s1, s2, s3⟩ := HX.out wx HB) | (go_at_call 25; refine (r_add (by with_reducible first | assumption | exact pat_sub _ _ | exact pat_mul _ _ | exact pat_1) (by with_reducible first | assumption | exact pat_sub _ _ | exact pat_mul _ _ | exact pat_1) _).mono ?_; rintro e wx ⟨rfl, hbx⟩; rw [← HQ4.out]; have HB : Below W.heap.size W wx := (by first | exact bel HB hbx | exact bel (bel HB (bel_d _)) hbx); obtain ⟨⟨c0, c1, c2, c3, c4, c5, c6⟩, s0, s1, s2, s3⟩ := HX.out wx HB) | (go_at_call 10; (with_reducible refine (HWK.out _).mono ?_); rintro e wx ⟨rfl, hbx⟩; have HB : Below W.heap.size W wx := (by first | exact bel HB hbx | exact bel (bel HB (bel_d _)) hbx); obtain ⟨⟨c0, c1, c2, c3, c4, c5, c6⟩, s0, s1, s2, s3⟩ := HX.out wx HB))
        all_goals go_wp2
        all_goals go_ret
        all_goals exact ⟨rfl, bel HB0.out HB⟩
      · have hgm' : G < m := by omega
        have hgd : decide (G < m) = true := decide_eq_true hgm'
        clear hq4' hgm
        have hge' : ¬ n < G + T := by omega
        go_enter Try.func6, Try.ntmps6
        go_wp2
        rw [HWE.out]
        obtain ⟨⟨c0, c1, c2, c3, c4, c5, c6⟩, s0, s1, s2, s3⟩ := HX.out W (bel0 W)
        go_region_held3 (fun w' => w'.cell? ⟨w.heap.size, 5, none⟩ = some (.int .i64 M) ∧ w'.cell? ⟨w.heap.size, 6, none⟩ = some (.int .i64 N)) (go_keep) (fail)
        all_goals clear c0 c1 c2 c3 c4 c5 c6 s0 s1 s2 s3
        all_goals have HB : Below W.heap.size W W.drew := bel_d W
        all_goals obtain ⟨⟨c0, c1, c2, c3, c4, c5, c6⟩, s0, s1, s2, s3⟩ := HX.out W.drew HB
        all_goals try rw [hmn]
        all_goals try rw [hmx]
        all_goals go_wp2_with (first
            | (go_at_call 12; (with_reducible refine (HM.out _ HB).mono ?_); rintro e wx ⟨rfl, hbx⟩; have HB : Below W.heap.size W wx := bel HB hbx; obtain ⟨⟨c0, c1, c2, c3, c4, c5, c6⟩, s0, s1, s2, s3⟩ := HX.out wx HB; clear HM)
            | (go_at_call 12; (with_reducible refine (HN.out _ HB).mono ?_); rintro e wx ⟨rfl, hbx⟩; have HB : Below W.heap.size W wx := bel HB hbx; obtain ⟨⟨c0, c1, c2, c3, c4, c5, c6⟩, s0, s1, s2, s3⟩ := HX.out wx HB; clear HN)
            | (go_at_call 21; refine (r_sub (by with_reducible first | assumption | exact pat_sub _ _ | exact pat_mul _ _ | exact pat_1) (by with_reducible first | assumption | exact pat_sub _ _ | exact pat_mul _ _ | exact pat_1) _).mono ?_; rintro e wx ⟨rfl, hbx⟩; rw [hD]; have HB : Below W.heap.size W wx := bel HB hbx; obtain ⟨⟨c0, c1, c2, c3, c4, c5, c6⟩, s0, s1, s2, s3⟩ := HX.out wx HB)
            | (go_at_call 23; refine (r_fin (by with_reducible first | assumption | exact pat_sub _ _ | exact pat_mul _ _ | exact pat_1) _).mono ?_; rintro e wx ⟨rfl, hbx⟩; rw [hfd]; have HB : Below W.heap.size W wx := bel HB hbx; obtain ⟨⟨c0, c1, c2, c3, c4, c5, c6⟩, s0, s1, s2, s3⟩ := HX.out wx HB)
            | (go_at_call 19; refine (r_less (by with_reducible first | assumption | exact pat_sub _ _ | exact pat_mul _ _ | exact pat_1) (by with_reducible first | assumption | exact pat_sub _ _ | exact pat_mul _ _ | exact pat_1) _).mono ?_; rintro e wx ⟨rfl, hbx⟩; (first | rw [hup] | rw [hqa]); have HB : Below W.heap.size W wx := bel HB hbx; obtain ⟨⟨c0, c1, c2, c3, c4, c5, c6⟩, s0, s1, s2, s3⟩ := HX.out wx HB)
            | (go_at_call 24; refine (r_eq (by with_reducible first | assumption | exact pat_sub _ _ | exact pat_mul _ _ | exact pat_1) (by with_reducible first | assumption | exact pat_sub _ _ | exact pat_mul _ _ | exact pat_1) _).mono ?_; rintro e wx ⟨rfl, hbx⟩; rw [hqe]; have HB : Below W.heap.size W wx := bel HB hbx; obtain ⟨⟨c0, c1, c2, c3, c4, c5, c6⟩, s0, s1, s2, s3⟩ := HX.out wx HB))
        all_goals (
          refine wp_region_held_drew (S := (fun w' => w'.cell? ⟨w.heap.size, 1, none⟩ = some (.int .u32 B) ∧ w'.cell? ⟨w.heap.size, 4, none⟩ = some (.int .i64 G))) (by kernel_rfl) ?_ (fun hHeld => ?_)
          · ((try dsimp only); go_keep)
          refine wpAnyH_take (i := 0) (v := ?_) (by simp only [List.getElem?_toArray, List.getElem?_cons_succ, List.getElem?_cons_zero]; rfl) (by kernel_rfl) (by kernel_rfl) (by kernel_rfl) (by exact fun _ _ _ h => h) (Or.inl ⟨by rfl, ?_⟩) (by assumption) ?_
          rotate_left 1
          · (intro wS hSw; (try dsimp only at hSw); go_simp; try (with_reducible rfl))
          try simp only [Act.put, List.setIfInBounds_toArray, List.set_cons_zero, List.set_cons_succ]
          refine wpAnyH_take (i := 1) (v := ?_) (by simp only [List.getElem?_toArray, List.getElem?_cons_succ, List.getElem?_cons_zero]; rfl) (by kernel_rfl) (by kernel_rfl) (by kernel_rfl) (by exact fun _ _ _ h => h) (Or.inl ⟨by rfl, ?_⟩) (by assumption) ?_
          rotate_left 1
          · (intro wS hSw; (try dsimp only at hSw); go_simp; try (with_reducible rfl))
          try simp only [Act.put, List.setIfInBounds_toArray, List.set_cons_zero, List.set_cons_succ]
          refine wpAnyH_take (i := 2) (v := ?_) (by simp only [List.getElem?_toArray, List.getElem?_cons_succ, List.getElem?_cons_zero]; rfl) (by kernel_rfl) (by kernel_rfl) (by kernel_rfl) (by exact fun _ _ _ h => h) (Or.inl ⟨by rfl, ?_⟩) (by assumption) ?_
          rotate_left 1
          · (intro wS hSw; (try dsimp only at hSw); go_simp; try (with_reducible rfl))
          try simp only [Act.put, List.setIfInBounds_toArray, List.set_cons_zero, List.set_cons_succ]
          refine wpAnyH_take (i := 3) (v := ?_) (by simp only [List.getElem?_toArray, List.getElem?_cons_succ, List.getElem?_cons_zero]; rfl) (by kernel_rfl) (by kernel_rfl) (by kernel_rfl) (by exact fun _ _ _ h => h) (Or.inl ⟨by rfl, ?_⟩) (by assumption) ?_
          rotate_left 1
          · (intro wS hSw; (try dsimp only at hSw); go_simp; try (with_reducible rfl))
          try simp only [Act.put, List.setIfInBounds_toArray, List.set_cons_zero, List.set_cons_succ]
          refine wpAnyH_take (i := 4) (v := ?_) (by simp only [List.getElem?_toArray, List.getElem?_cons_succ, List.getElem?_cons_zero]; rfl) (by kernel_rfl) (by kernel_rfl) (by kernel_rfl) (by exact fun _ _ _ h => h) (Or.inl ⟨by rfl, ?_⟩) (by assumption) ?_
          rotate_left 1
          · (intro wS hSw; (try dsimp only at hSw); go_simp; try (with_reducible rfl))
          try simp only [Act.put, List.setIfInBounds_toArray, List.set_cons_zero, List.set_cons_succ]
          refine wpAnyH_take (i := 5) (v := undef) (by simp only [List.getElem?_toArray, List.getElem?_cons_succ, List.getElem?_cons_zero]; rfl) (by kernel_rfl) (by kernel_rfl) (by kernel_rfl) (by exact fun _ _ _ h => h) (Or.inr ⟨by rfl, rfl⟩) (by assumption) ?_
          try simp only [Act.put, List.setIfInBounds_toArray, List.set_cons_zero, List.set_cons_succ]
          refine wpAnyH_take (i := 6) (v := undef) (by simp only [List.getElem?_toArray, List.getElem?_cons_succ, List.getElem?_cons_zero]; rfl) (by kernel_rfl) (by kernel_rfl) (by kernel_rfl) (by exact fun _ _ _ h => h) (Or.inr ⟨by rfl, rfl⟩) (by assumption) ?_
          try simp only [Act.put, List.setIfInBounds_toArray, List.set_cons_zero, List.set_cons_succ]
          refine wpAnyH_take (i := 7) (v := undef) (by simp only [List.getElem?_toArray, List.getElem?_cons_succ, List.getElem?_cons_zero]; rfl) (by kernel_rfl) (by kernel_rfl) (by kernel_rfl) (by exact fun _ _ _ h => h) (Or.inr ⟨by rfl, rfl⟩) (by assumption) ?_
          try simp only [Act.put, List.setIfInBounds_toArray, List.set_cons_zero, List.set_cons_succ]
          refine wpAnyH_take (i := 8) (v := undef) (by simp only [List.getElem?_toArray, List.getElem?_cons_succ, List.getElem?_cons_zero]; rfl) (by kernel_rfl) (by kernel_rfl) (by kernel_rfl) (by exact fun _ _ _ h => h) (Or.inr ⟨by rfl, rfl⟩) (by assumption) ?_
          try simp only [Act.put, List.setIfInBounds_toArray, List.set_cons_zero, List.set_cons_succ]
          refine wpAnyH_take (i := 9) (v := undef) (by simp only [List.getElem?_toArray, List.getElem?_cons_succ, List.getElem?_cons_zero]; rfl) (by kernel_rfl) (by kernel_rfl) (by kernel_rfl) (by exact fun _ _ _ h => h) (Or.inr ⟨by rfl, rfl⟩) (by assumption) ?_
          try simp only [Act.put, List.setIfInBounds_toArray, List.set_cons_zero, List.set_cons_succ]
          refine wpAnyH_take (i := 10) (v := undef) (by simp only [List.getElem?_toArray, List.getElem?_cons_succ, List.getElem?_cons_zero]; rfl) (by kernel_rfl) (by kernel_rfl) (by kernel_rfl) (by exact fun _ _ _ h => h) (Or.inr ⟨by rfl, rfl⟩) (by assumption) ?_
          try simp only [Act.put, List.setIfInBounds_toArray, List.set_cons_zero, List.set_cons_succ]
          refine wpAnyH_take (i := 11) (v := undef) (by simp only [List.getElem?_toArray, List.getElem?_cons_succ, List.getElem?_cons_zero]; rfl) (by kernel_rfl) (by kernel_rfl) (by kernel_rfl) (by exact fun _ _ _ h => h) (Or.inr ⟨by rfl, rfl⟩) (by assumption) ?_
          try simp only [Act.put, List.setIfInBounds_toArray, List.set_cons_zero, List.set_cons_succ]
          refine wpAnyH_take (i := 12) (v := undef) (by simp only [List.getElem?_toArray, List.getElem?_cons_succ, List.getElem?_cons_zero]; rfl) (by kernel_rfl) (by kernel_rfl) (by kernel_rfl) (by exact fun _ _ _ h => h) (Or.inr ⟨by rfl, rfl⟩) (by assumption) ?_
          try simp only [Act.put, List.setIfInBounds_toArray, List.set_cons_zero, List.set_cons_succ]
          refine wpAnyH_take (i := 13) (v := undef) (by simp only [List.getElem?_toArray, List.getElem?_cons_succ, List.getElem?_cons_zero]; rfl) (by kernel_rfl) (by kernel_rfl) (by kernel_rfl) (by exact fun _ _ _ h => h) (Or.inr ⟨by rfl, rfl⟩) (by assumption) ?_
          try simp only [Act.put, List.setIfInBounds_toArray, List.set_cons_zero, List.set_cons_succ]
          refine wpAnyH_take (i := 14) (v := ?_) (by simp only [List.getElem?_toArray, List.getElem?_cons_succ, List.getElem?_cons_zero]; rfl) (by kernel_rfl) (by kernel_rfl) (by kernel_rfl) (by exact fun _ _ _ h => h) (Or.inl ⟨by rfl, ?_⟩) (by assumption) ?_
          rotate_left 1
          · (intro wS hSw; (try dsimp only at hSw); go_simp; try (with_reducible rfl))
          try simp only [Act.put, List.setIfInBounds_toArray, List.set_cons_zero, List.set_cons_succ]
          refine wpAnyH_take (i := 15) (v := ?_) (by simp only [List.getElem?_toArray, List.getElem?_cons_succ, List.getElem?_cons_zero]; rfl) (by kernel_rfl) (by kernel_rfl) (by kernel_rfl) (by exact fun _ _ _ h => h) (Or.inl ⟨by rfl, ?_⟩) (by assumption) ?_
          rotate_left 1
          · (intro wS hSw; (try dsimp only at hSw); go_simp; try (with_reducible rfl))
          try simp only [Act.put, List.setIfInBounds_toArray, List.set_cons_zero, List.set_cons_succ]
          clear hHeld
          refine wpAnyH_ready (rs := [16]) (by kernel_rfl) (by simp) ?_
          refine AllReadyH.cons (i := 16) (by simp only [List.getElem?_toArray, List.getElem?_cons_succ, List.getElem?_cons_zero]; rfl) (fun K hK => ?_) AllReadyH.nil
          go_simp
          (go_at_call 10; (with_reducible refine (HWK.out _).mono ?_); rintro e wx ⟨rfl, hbx⟩; have HB : Below W.heap.size W wx := bel (bel HB (bel_d _)) hbx; obtain ⟨⟨c0, c1, c2, c3, c4, c5, c6⟩, s0, s1, s2, s3⟩ := HX.out wx HB)
          try (go_wp2_with fail)
          refine hK.out _ _ ?_ (fun hHeld => ?_)
          · ((try dsimp only); go_keep)
          clear hK K
          try simp only [Act.put, List.setIfInBounds_toArray, List.set_cons_zero, List.set_cons_succ]
          refine wpAnyH_take (i := 17) (v := ?_) (by simp only [List.getElem?_toArray, List.getElem?_cons_succ, List.getElem?_cons_zero]; rfl) (by kernel_rfl) (by kernel_rfl) (by kernel_rfl) (by exact fun _ _ _ h => h) (Or.inl ⟨by rfl, ?_⟩) (by assumption) ?_
          rotate_left 1
          · (intro wS hSw; (try dsimp only at hSw); go_simp; try (with_reducible rfl))
          try simp only [Act.put, List.setIfInBounds_toArray, List.set_cons_zero, List.set_cons_succ]
          refine wpAnyH_take (i := 18) (v := ?_) (by simp only [List.getElem?_toArray, List.getElem?_cons_succ, List.getElem?_cons_zero]; rfl) (by kernel_rfl) (by kernel_rfl) (by kernel_rfl) (by exact fun _ _ _ h => h) (Or.inl ⟨by rfl, ?_⟩) (by assumption) ?_
          rotate_left 1
          · (intro wS hSw; (try dsimp only at hSw); go_simp; try (with_reducible rfl))
          try simp only [Act.put, List.setIfInBounds_toArray, List.set_cons_zero, List.set_cons_succ]
          refine wpAnyH_done (by kernel_rfl) ?_ _
          go_wp2
        )
        all_goals go_ret
        all_goals exact ⟨rfl, bel HB0.out HB⟩
    · clear q3
      by_cases hgm : m ≤ G
      · have HQ4 : Hid (V1 = fadd (fmul D 1065353216) B) := hq4' hgm
        have hgm' : ¬ G < m := by omega
        have hgd : decide (G < m) = false := decide_eq_false hgm'
        clear hq4' hgm
        have hge' : n < G + T := by omega
        go_enter Try.func6, Try.ntmps6
        go_wp2
        rw [HWE.out]
        obtain ⟨⟨c0, c1, c2, c3, c4, c5, c6⟩, s0, s1, s2, s3⟩ := HX.out W (bel0 W)
        go_region_held3 (fun w' => w'.cell? ⟨w.heap.size, 5, none⟩ = some (.int .i64 M) ∧ w'.cell? ⟨w.heap.size, 6, none⟩ = some (.int .i64 N)) (go_keep) (fail)
        all_goals clear c0 c1 c2 c3 c4 c5 c6 s0 s1 s2 s3
        all_goals have HB : Below W.heap.size W W.drew := bel_d W
        all_goals obtain ⟨⟨c0, c1, c2, c3, c4, c5, c6⟩, s0, s1, s2, s3⟩ := HX.out W.drew HB
        all_goals try rw [hmn]
        all_goals try rw [hmx]
        all_goals go_wp2_with (first
            | (go_at_call 12; (with_reducible refine (HM.out _ HB).mono ?_); rintro e wx ⟨rfl, hbx⟩; have HB : Below W.heap.size W wx := bel HB hbx; obtain ⟨⟨c0, c1, c2, c3, c4, c5, c6⟩, s0, s1, s2, s3⟩ := HX.out wx HB; clear HM)
            | (go_at_call 12; (with_reducible refine (HN.out _ HB).mono ?_); rintro e wx ⟨rfl, hbx⟩; have HB : Below W.heap.size W wx := bel HB hbx; obtain ⟨⟨c0, c1, c2, c3, c4, c5, c6⟩, s0, s1, s2, s3⟩ := HX.out wx HB; clear HN)
            | (go_at_call 21; refine (r_sub (by with_reducible first | assumption | exact pat_sub _ _ | exact pat_mul _ _ | exact pat_1) (by with_reducible first | assumption | exact pat_sub _ _ | exact pat_mul _ _ | exact pat_1) _).mono ?_; rintro e wx ⟨rfl, hbx⟩; rw [hD]; have HB : Below W.heap.size W wx := bel HB hbx; obtain ⟨⟨c0, c1, c2, c3, c4, c5, c6⟩, s0, s1, s2, s3⟩ := HX.out wx HB)
            | (go_at_call 23; refine (r_fin (by with_reducible first | assumption | exact pat_sub _ _ | exact pat_mul _ _ | exact pat_1) _).mono ?_; rintro e wx ⟨rfl, hbx⟩; rw [hfd]; have HB : Below W.heap.size W wx := bel HB hbx; obtain ⟨⟨c0, c1, c2, c3, c4, c5, c6⟩, s0, s1, s2, s3⟩ := HX.out wx HB)
            | (go_at_call 19; refine (r_less (by with_reducible first | assumption | exact pat_sub _ _ | exact pat_mul _ _ | exact pat_1) (by with_reducible first | assumption | exact pat_sub _ _ | exact pat_mul _ _ | exact pat_1) _).mono ?_; rintro e wx ⟨rfl, hbx⟩; (first | rw [hup] | rw [hqa]); have HB : Below W.heap.size W wx := bel HB hbx; obtain ⟨⟨c0, c1, c2, c3, c4, c5, c6⟩, s0, s1, s2, s3⟩ := HX.out wx HB))
        all_goals go_region_held3 (fun w' => w'.cell? ⟨w.heap.size, 1, none⟩ = some (.int .u32 B) ∧ w'.cell? ⟨w.heap.size, 4, none⟩ = some (.int .i64 G)) (go_keep) (first | (go_at_call 26; refine (r_mul (by with_reducible first | assumption | exact pat_sub _ _ | exact pat_mul _ _ | exact pat_1) (by with_reducible first | assumption | exact pat_sub _ _ | exact pat_mul _ _ | exact pat_1) _).mono ?_; rintro e wx ⟨rfl, hbx⟩; have HB : Below W.heap.size W wx := (by first | exact bel HB hbx | exact bel (bel HB (bel_d _)) hbx); obtain ⟨⟨c0, c1, c2, c3, c4, c5, c6⟩, s0, s1, s2, s3⟩ := HX.out wx HB) | (go_at_call 25; refine (r_add (by with_reducible first | assumption | exact pat_sub _ _ | exact pat_mul _ _ | exact pat_1) (by with_reducible first | assumption | exact pat_sub _ _ | exact pat_mul _ _ | exact pat_1) _).mono ?_; rintro e wx ⟨rfl, hbx⟩; rw [← HQ4.out]; have HB : Below W.heap.size W wx := (by first | exact bel HB hbx | exact bel (bel HB (bel_d _)) hbx); obtain ⟨⟨c0, c1, c2, c3, c4, c5, c6⟩, s0, s1, s2, s3⟩ := HX.out wx HB) | (go_at_call 10; (with_reducible refine (HWK.out _).mono ?_); rintro e wx ⟨rfl, hbx⟩; have HB : Below W.heap.size W wx := (by first | exact bel HB hbx | exact bel (bel HB (bel_d _)) hbx); obtain ⟨⟨c0, c1, c2, c3, c4, c5, c6⟩, s0, s1, s2, s3⟩ := HX.out wx HB))
        all_goals go_wp2
        all_goals go_ret
        all_goals exact ⟨rfl, bel HB0.out HB⟩
      · have hgm' : G < m := by omega
        have hgd : decide (G < m) = true := decide_eq_true hgm'
        clear hq4' hgm
        have hge' : n < G + T := by omega
        go_enter Try.func6, Try.ntmps6
        go_wp2
        rw [HWE.out]
        obtain ⟨⟨c0, c1, c2, c3, c4, c5, c6⟩, s0, s1, s2, s3⟩ := HX.out W (bel0 W)
        go_region_held3 (fun w' => w'.cell? ⟨w.heap.size, 5, none⟩ = some (.int .i64 M) ∧ w'.cell? ⟨w.heap.size, 6, none⟩ = some (.int .i64 N)) (go_keep) (fail)
        all_goals clear c0 c1 c2 c3 c4 c5 c6 s0 s1 s2 s3
        all_goals have HB : Below W.heap.size W W.drew := bel_d W
        all_goals obtain ⟨⟨c0, c1, c2, c3, c4, c5, c6⟩, s0, s1, s2, s3⟩ := HX.out W.drew HB
        all_goals try rw [hmn]
        all_goals try rw [hmx]
        all_goals go_wp2_with (first
            | (go_at_call 12; (with_reducible refine (HM.out _ HB).mono ?_); rintro e wx ⟨rfl, hbx⟩; have HB : Below W.heap.size W wx := bel HB hbx; obtain ⟨⟨c0, c1, c2, c3, c4, c5, c6⟩, s0, s1, s2, s3⟩ := HX.out wx HB; clear HM)
            | (go_at_call 12; (with_reducible refine (HN.out _ HB).mono ?_); rintro e wx ⟨rfl, hbx⟩; have HB : Below W.heap.size W wx := bel HB hbx; obtain ⟨⟨c0, c1, c2, c3, c4, c5, c6⟩, s0, s1, s2, s3⟩ := HX.out wx HB; clear HN)
            | (go_at_call 21; refine (r_sub (by with_reducible first | assumption | exact pat_sub _ _ | exact pat_mul _ _ | exact pat_1) (by with_reducible first | assumption | exact pat_sub _ _ | exact pat_mul _ _ | exact pat_1) _).mono ?_; rintro e wx ⟨rfl, hbx⟩; rw [hD]; have HB : Below W.heap.size W wx := bel HB hbx; obtain ⟨⟨c0, c1, c2, c3, c4, c5, c6⟩, s0, s1, s2, s3⟩ := HX.out wx HB)
            | (go_at_call 23; refine (r_fin (by with_reducible first | assumption | exact pat_sub _ _ | exact pat_mul _ _ | exact pat_1) _).mono ?_; rintro e wx ⟨rfl, hbx⟩; rw [hfd]; have HB : Below W.heap.size W wx := bel HB hbx; obtain ⟨⟨c0, c1, c2, c3, c4, c5, c6⟩, s0, s1, s2, s3⟩ := HX.out wx HB)
            | (go_at_call 19; refine (r_less (by with_reducible first | assumption | exact pat_sub _ _ | exact pat_mul _ _ | exact pat_1) (by with_reducible first | assumption | exact pat_sub _ _ | exact pat_mul _ _ | exact pat_1) _).mono ?_; rintro e wx ⟨rfl, hbx⟩; (first | rw [hup] | rw [hqa]); have HB : Below W.heap.size W wx := bel HB hbx; obtain ⟨⟨c0, c1, c2, c3, c4, c5, c6⟩, s0, s1, s2, s3⟩ := HX.out wx HB))
        all_goals (
          refine wp_region_held_drew (S := (fun w' => w'.cell? ⟨w.heap.size, 1, none⟩ = some (.int .u32 B) ∧ w'.cell? ⟨w.heap.size, 4, none⟩ = some (.int .i64 G))) (by kernel_rfl) ?_ (fun hHeld => ?_)
          · ((try dsimp only); go_keep)
          refine wpAnyH_take (i := 0) (v := ?_) (by simp only [List.getElem?_toArray, List.getElem?_cons_succ, List.getElem?_cons_zero]; rfl) (by kernel_rfl) (by kernel_rfl) (by kernel_rfl) (by exact fun _ _ _ h => h) (Or.inl ⟨by rfl, ?_⟩) (by assumption) ?_
          rotate_left 1
          · (intro wS hSw; (try dsimp only at hSw); go_simp; try (with_reducible rfl))
          try simp only [Act.put, List.setIfInBounds_toArray, List.set_cons_zero, List.set_cons_succ]
          refine wpAnyH_take (i := 1) (v := ?_) (by simp only [List.getElem?_toArray, List.getElem?_cons_succ, List.getElem?_cons_zero]; rfl) (by kernel_rfl) (by kernel_rfl) (by kernel_rfl) (by exact fun _ _ _ h => h) (Or.inl ⟨by rfl, ?_⟩) (by assumption) ?_
          rotate_left 1
          · (intro wS hSw; (try dsimp only at hSw); go_simp; try (with_reducible rfl))
          try simp only [Act.put, List.setIfInBounds_toArray, List.set_cons_zero, List.set_cons_succ]
          refine wpAnyH_take (i := 2) (v := ?_) (by simp only [List.getElem?_toArray, List.getElem?_cons_succ, List.getElem?_cons_zero]; rfl) (by kernel_rfl) (by kernel_rfl) (by kernel_rfl) (by exact fun _ _ _ h => h) (Or.inl ⟨by rfl, ?_⟩) (by assumption) ?_
          rotate_left 1
          · (intro wS hSw; (try dsimp only at hSw); go_simp; try (with_reducible rfl))
          try simp only [Act.put, List.setIfInBounds_toArray, List.set_cons_zero, List.set_cons_succ]
          refine wpAnyH_take (i := 3) (v := ?_) (by simp only [List.getElem?_toArray, List.getElem?_cons_succ, List.getElem?_cons_zero]; rfl) (by kernel_rfl) (by kernel_rfl) (by kernel_rfl) (by exact fun _ _ _ h => h) (Or.inl ⟨by rfl, ?_⟩) (by assumption) ?_
          rotate_left 1
          · (intro wS hSw; (try dsimp only at hSw); go_simp; try (with_reducible rfl))
          try simp only [Act.put, List.setIfInBounds_toArray, List.set_cons_zero, List.set_cons_succ]
          refine wpAnyH_take (i := 4) (v := ?_) (by simp only [List.getElem?_toArray, List.getElem?_cons_succ, List.getElem?_cons_zero]; rfl) (by kernel_rfl) (by kernel_rfl) (by kernel_rfl) (by exact fun _ _ _ h => h) (Or.inl ⟨by rfl, ?_⟩) (by assumption) ?_
          rotate_left 1
          · (intro wS hSw; (try dsimp only at hSw); go_simp; try (with_reducible rfl))
          try simp only [Act.put, List.setIfInBounds_toArray, List.set_cons_zero, List.set_cons_succ]
          refine wpAnyH_take (i := 5) (v := undef) (by simp only [List.getElem?_toArray, List.getElem?_cons_succ, List.getElem?_cons_zero]; rfl) (by kernel_rfl) (by kernel_rfl) (by kernel_rfl) (by exact fun _ _ _ h => h) (Or.inr ⟨by rfl, rfl⟩) (by assumption) ?_
          try simp only [Act.put, List.setIfInBounds_toArray, List.set_cons_zero, List.set_cons_succ]
          refine wpAnyH_take (i := 6) (v := undef) (by simp only [List.getElem?_toArray, List.getElem?_cons_succ, List.getElem?_cons_zero]; rfl) (by kernel_rfl) (by kernel_rfl) (by kernel_rfl) (by exact fun _ _ _ h => h) (Or.inr ⟨by rfl, rfl⟩) (by assumption) ?_
          try simp only [Act.put, List.setIfInBounds_toArray, List.set_cons_zero, List.set_cons_succ]
          refine wpAnyH_take (i := 7) (v := undef) (by simp only [List.getElem?_toArray, List.getElem?_cons_succ, List.getElem?_cons_zero]; rfl) (by kernel_rfl) (by kernel_rfl) (by kernel_rfl) (by exact fun _ _ _ h => h) (Or.inr ⟨by rfl, rfl⟩) (by assumption) ?_
          try simp only [Act.put, List.setIfInBounds_toArray, List.set_cons_zero, List.set_cons_succ]
          refine wpAnyH_take (i := 8) (v := undef) (by simp only [List.getElem?_toArray, List.getElem?_cons_succ, List.getElem?_cons_zero]; rfl) (by kernel_rfl) (by kernel_rfl) (by kernel_rfl) (by exact fun _ _ _ h => h) (Or.inr ⟨by rfl, rfl⟩) (by assumption) ?_
          try simp only [Act.put, List.setIfInBounds_toArray, List.set_cons_zero, List.set_cons_succ]
          refine wpAnyH_take (i := 9) (v := undef) (by simp only [List.getElem?_toArray, List.getElem?_cons_succ, List.getElem?_cons_zero]; rfl) (by kernel_rfl) (by kernel_rfl) (by kernel_rfl) (by exact fun _ _ _ h => h) (Or.inr ⟨by rfl, rfl⟩) (by assumption) ?_
          try simp only [Act.put, List.setIfInBounds_toArray, List.set_cons_zero, List.set_cons_succ]
          refine wpAnyH_take (i := 10) (v := undef) (by simp only [List.getElem?_toArray, List.getElem?_cons_succ, List.getElem?_cons_zero]; rfl) (by kernel_rfl) (by kernel_rfl) (by kernel_rfl) (by exact fun _ _ _ h => h) (Or.inr ⟨by rfl, rfl⟩) (by assumption) ?_
          try simp only [Act.put, List.setIfInBounds_toArray, List.set_cons_zero, List.set_cons_succ]
          refine wpAnyH_take (i := 11) (v := undef) (by simp only [List.getElem?_toArray, List.getElem?_cons_succ, List.getElem?_cons_zero]; rfl) (by kernel_rfl) (by kernel_rfl) (by kernel_rfl) (by exact fun _ _ _ h => h) (Or.inr ⟨by rfl, rfl⟩) (by assumption) ?_
          try simp only [Act.put, List.setIfInBounds_toArray, List.set_cons_zero, List.set_cons_succ]
          refine wpAnyH_take (i := 12) (v := undef) (by simp only [List.getElem?_toArray, List.getElem?_cons_succ, List.getElem?_cons_zero]; rfl) (by kernel_rfl) (by kernel_rfl) (by kernel_rfl) (by exact fun _ _ _ h => h) (Or.inr ⟨by rfl, rfl⟩) (by assumption) ?_
          try simp only [Act.put, List.setIfInBounds_toArray, List.set_cons_zero, List.set_cons_succ]
          refine wpAnyH_take (i := 13) (v := undef) (by simp only [List.getElem?_toArray, List.getElem?_cons_succ, List.getElem?_cons_zero]; rfl) (by kernel_rfl) (by kernel_rfl) (by kernel_rfl) (by exact fun _ _ _ h => h) (Or.inr ⟨by rfl, rfl⟩) (by assumption) ?_
          try simp only [Act.put, List.setIfInBounds_toArray, List.set_cons_zero, List.set_cons_succ]
          refine wpAnyH_take (i := 14) (v := ?_) (by simp only [List.getElem?_toArray, List.getElem?_cons_succ, List.getElem?_cons_zero]; rfl) (by kernel_rfl) (by kernel_rfl) (by kernel_rfl) (by exact fun _ _ _ h => h) (Or.inl ⟨by rfl, ?_⟩) (by assumption) ?_
          rotate_left 1
          · (intro wS hSw; (try dsimp only at hSw); go_simp; try (with_reducible rfl))
          try simp only [Act.put, List.setIfInBounds_toArray, List.set_cons_zero, List.set_cons_succ]
          refine wpAnyH_take (i := 15) (v := ?_) (by simp only [List.getElem?_toArray, List.getElem?_cons_succ, List.getElem?_cons_zero]; rfl) (by kernel_rfl) (by kernel_rfl) (by kernel_rfl) (by exact fun _ _ _ h => h) (Or.inl ⟨by rfl, ?_⟩) (by assumption) ?_
          rotate_left 1
          · (intro wS hSw; (try dsimp only at hSw); go_simp; try (with_reducible rfl))
          try simp only [Act.put, List.setIfInBounds_toArray, List.set_cons_zero, List.set_cons_succ]
          clear hHeld
          refine wpAnyH_ready (rs := [16]) (by kernel_rfl) (by simp) ?_
          refine AllReadyH.cons (i := 16) (by simp only [List.getElem?_toArray, List.getElem?_cons_succ, List.getElem?_cons_zero]; rfl) (fun K hK => ?_) AllReadyH.nil
          go_simp
          (go_at_call 10; (with_reducible refine (HWK.out _).mono ?_); rintro e wx ⟨rfl, hbx⟩; have HB : Below W.heap.size W wx := bel (bel HB (bel_d _)) hbx; obtain ⟨⟨c0, c1, c2, c3, c4, c5, c6⟩, s0, s1, s2, s3⟩ := HX.out wx HB)
          try (go_wp2_with fail)
          refine hK.out _ _ ?_ (fun hHeld => ?_)
          · ((try dsimp only); go_keep)
          clear hK K
          try simp only [Act.put, List.setIfInBounds_toArray, List.set_cons_zero, List.set_cons_succ]
          refine wpAnyH_take (i := 17) (v := ?_) (by simp only [List.getElem?_toArray, List.getElem?_cons_succ, List.getElem?_cons_zero]; rfl) (by kernel_rfl) (by kernel_rfl) (by kernel_rfl) (by exact fun _ _ _ h => h) (Or.inl ⟨by rfl, ?_⟩) (by assumption) ?_
          rotate_left 1
          · (intro wS hSw; (try dsimp only at hSw); go_simp; try (with_reducible rfl))
          try simp only [Act.put, List.setIfInBounds_toArray, List.set_cons_zero, List.set_cons_succ]
          refine wpAnyH_take (i := 18) (v := ?_) (by simp only [List.getElem?_toArray, List.getElem?_cons_succ, List.getElem?_cons_zero]; rfl) (by kernel_rfl) (by kernel_rfl) (by kernel_rfl) (by exact fun _ _ _ h => h) (Or.inl ⟨by rfl, ?_⟩) (by assumption) ?_
          rotate_left 1
          · (intro wS hSw; (try dsimp only at hSw); go_simp; try (with_reducible rfl))
          try simp only [Act.put, List.setIfInBounds_toArray, List.set_cons_zero, List.set_cons_succ]
          refine wpAnyH_done (by kernel_rfl) ?_ _
          go_wp2
        )
        all_goals go_ret
        all_goals exact ⟨rfl, bel HB0.out HB⟩
  · have hqa := q2 hup
    clear q1 q2
    by_cases hge : G + T ≤ n
    · have hqe := q3 hge
      clear q3
      by_cases hgm : m ≤ G
      · have HQ4 : Hid (V1 = fadd (fmul D 1065353216) B) := hq4' hgm
        have hgm' : ¬ G < m := by omega
        have hgd : decide (G < m) = false := decide_eq_false hgm'
        clear hq4' hgm
        have hge' : ¬ n < G + T := by omega
        go_enter Try.func6, Try.ntmps6
        go_wp2
        rw [HWE.out]
        obtain ⟨⟨c0, c1, c2, c3, c4, c5, c6⟩, s0, s1, s2, s3⟩ := HX.out W (bel0 W)
        go_region_held3 (fun w' => w'.cell? ⟨w.heap.size, 5, none⟩ = some (.int .i64 M) ∧ w'.cell? ⟨w.heap.size, 6, none⟩ = some (.int .i64 N)) (go_keep) (fail)
        all_goals clear c0 c1 c2 c3 c4 c5 c6 s0 s1 s2 s3
        all_goals have HB : Below W.heap.size W W.drew := bel_d W
        all_goals obtain ⟨⟨c0, c1, c2, c3, c4, c5, c6⟩, s0, s1, s2, s3⟩ := HX.out W.drew HB
        all_goals try rw [hmn]
        all_goals try rw [hmx]
        all_goals go_wp2_with (first
            | (go_at_call 12; (with_reducible refine (HM.out _ HB).mono ?_); rintro e wx ⟨rfl, hbx⟩; have HB : Below W.heap.size W wx := bel HB hbx; obtain ⟨⟨c0, c1, c2, c3, c4, c5, c6⟩, s0, s1, s2, s3⟩ := HX.out wx HB; clear HM)
            | (go_at_call 12; (with_reducible refine (HN.out _ HB).mono ?_); rintro e wx ⟨rfl, hbx⟩; have HB : Below W.heap.size W wx := bel HB hbx; obtain ⟨⟨c0, c1, c2, c3, c4, c5, c6⟩, s0, s1, s2, s3⟩ := HX.out wx HB; clear HN)
            | (go_at_call 21; refine (r_sub (by with_reducible first | assumption | exact pat_sub _ _ | exact pat_mul _ _ | exact pat_1) (by with_reducible first | assumption | exact pat_sub _ _ | exact pat_mul _ _ | exact pat_1) _).mono ?_; rintro e wx ⟨rfl, hbx⟩; rw [hD]; have HB : Below W.heap.size W wx := bel HB hbx; obtain ⟨⟨c0, c1, c2, c3, c4, c5, c6⟩, s0, s1, s2, s3⟩ := HX.out wx HB)
            | (go_at_call 23; refine (r_fin (by with_reducible first | assumption | exact pat_sub _ _ | exact pat_mul _ _ | exact pat_1) _).mono ?_; rintro e wx ⟨rfl, hbx⟩; rw [hfd]; have HB : Below W.heap.size W wx := bel HB hbx; obtain ⟨⟨c0, c1, c2, c3, c4, c5, c6⟩, s0, s1, s2, s3⟩ := HX.out wx HB)
            | (go_at_call 19; refine (r_less (by with_reducible first | assumption | exact pat_sub _ _ | exact pat_mul _ _ | exact pat_1) (by with_reducible first | assumption | exact pat_sub _ _ | exact pat_mul _ _ | exact pat_1) _).mono ?_; rintro e wx ⟨rfl, hbx⟩; (first | rw [hup] | rw [hqa]); have HB : Below W.heap.size W wx := bel HB hbx; obtain ⟨⟨c0, c1, c2, c3, c4, c5, c6⟩, s0, s1, s2, s3⟩ := HX.out wx HB)
            | (go_at_call 24; refine (r_eq (by with_reducible first | assumption | exact pat_sub _ _ | exact pat_mul _ _ | exact pat_1) (by with_reducible first | assumption | exact pat_sub _ _ | exact pat_mul _ _ | exact pat_1) _).mono ?_; rintro e wx ⟨rfl, hbx⟩; rw [hqe]; have HB : Below W.heap.size W wx := bel HB hbx; obtain ⟨⟨c0, c1, c2, c3, c4, c5, c6⟩, s0, s1, s2, s3⟩ := HX.out wx HB))
        all_goals go_region_held3 (fun w' => w'.cell? ⟨w.heap.size, 1, none⟩ = some (.int .u32 B) ∧ w'.cell? ⟨w.heap.size, 4, none⟩ = some (.int .i64 G)) (go_keep) (first | (go_at_call 26; refine (r_mul (by with_reducible first | assumption | exact pat_sub _ _ | exact pat_mul _ _ | exact pat_1) (by with_reducible first | assumption | exact pat_sub _ _ | exact pat_mul _ _ | exact pat_1) _).mono ?_; rintro e wx ⟨rfl, hbx⟩; have HB : Below W.heap.size W wx := (by first | exact bel HB hbx | exact bel (bel HB (bel_d _)) hbx); obtain ⟨⟨c0, c1, c2, c3, c4, c5, c6⟩, s0, s1, s2, s3⟩ := HX.out wx HB) | (go_at_call 25; refine (r_add (by with_reducible first | assumption | exact pat_sub _ _ | exact pat_mul _ _ | exact pat_1) (by with_reducible first | assumption | exact pat_sub _ _ | exact pat_mul _ _ | exact pat_1) _).mono ?_; rintro e wx ⟨rfl, hbx⟩; rw [← HQ4.out]; have HB : Below W.heap.size W wx := (by first | exact bel HB hbx | exact bel (bel HB (bel_d _)) hbx); obtain ⟨⟨c0, c1, c2, c3, c4, c5, c6⟩, s0, s1, s2, s3⟩ := HX.out wx HB) | (go_at_call 10; (with_reducible refine (HWK.out _).mono ?_); rintro e wx ⟨rfl, hbx⟩; have HB : Below W.heap.size W wx := (by first | exact bel HB hbx | exact bel (bel HB (bel_d _)) hbx); obtain ⟨⟨c0, c1, c2, c3, c4, c5, c6⟩, s0, s1, s2, s3⟩ := HX.out wx HB))
        all_goals go_wp2
        all_goals go_ret
        all_goals exact ⟨rfl, bel HB0.out HB⟩
      · have hgm' : G < m := by omega
        have hgd : decide (G < m) = true := decide_eq_true hgm'
        clear hq4' hgm
        have hge' : ¬ n < G + T := by omega
        go_enter Try.func6, Try.ntmps6
        go_wp2
        rw [HWE.out]
        obtain ⟨⟨c0, c1, c2, c3, c4, c5, c6⟩, s0, s1, s2, s3⟩ := HX.out W (bel0 W)
        go_region_held3 (fun w' => w'.cell? ⟨w.heap.size, 5, none⟩ = some (.int .i64 M) ∧ w'.cell? ⟨w.heap.size, 6, none⟩ = some (.int .i64 N)) (go_keep) (fail)
        all_goals clear c0 c1 c2 c3 c4 c5 c6 s0 s1 s2 s3
        all_goals have HB : Below W.heap.size W W.drew := bel_d W
        all_goals obtain ⟨⟨c0, c1, c2, c3, c4, c5, c6⟩, s0, s1, s2, s3⟩ := HX.out W.drew HB
        all_goals try rw [hmn]
        all_goals try rw [hmx]
        all_goals go_wp2_with (first
            | (go_at_call 12; (with_reducible refine (HM.out _ HB).mono ?_); rintro e wx ⟨rfl, hbx⟩; have HB : Below W.heap.size W wx := bel HB hbx; obtain ⟨⟨c0, c1, c2, c3, c4, c5, c6⟩, s0, s1, s2, s3⟩ := HX.out wx HB; clear HM)
            | (go_at_call 12; (with_reducible refine (HN.out _ HB).mono ?_); rintro e wx ⟨rfl, hbx⟩; have HB : Below W.heap.size W wx := bel HB hbx; obtain ⟨⟨c0, c1, c2, c3, c4, c5, c6⟩, s0, s1, s2, s3⟩ := HX.out wx HB; clear HN)
            | (go_at_call 21; refine (r_sub (by with_reducible first | assumption | exact pat_sub _ _ | exact pat_mul _ _ | exact pat_1) (by with_reducible first | assumption | exact pat_sub _ _ | exact pat_mul _ _ | exact pat_1) _).mono ?_; rintro e wx ⟨rfl, hbx⟩; rw [hD]; have HB : Below W.heap.size W wx := bel HB hbx; obtain ⟨⟨c0, c1, c2, c3, c4, c5, c6⟩, s0, s1, s2, s3⟩ := HX.out wx HB)
            | (go_at_call 23; refine (r_fin (by with_reducible first | assumption | exact pat_sub _ _ | exact pat_mul _ _ | exact pat_1) _).mono ?_; rintro e wx ⟨rfl, hbx⟩; rw [hfd]; have HB : Below W.heap.size W wx := bel HB hbx; obtain ⟨⟨c0, c1, c2, c3, c4, c5, c6⟩, s0, s1, s2, s3⟩ := HX.out wx HB)
            | (go_at_call 19; refine (r_less (by with_reducible first | assumption | exact pat_sub _ _ | exact pat_mul _ _ | exact pat_1) (by with_reducible first | assumption | exact pat_sub _ _ | exact pat_mul _ _ | exact pat_1) _).mono ?_; rintro e wx ⟨rfl, hbx⟩; (first | rw [hup] | rw [hqa]); have HB : Below W.heap.size W wx := bel HB hbx; obtain ⟨⟨c0, c1, c2, c3, c4, c5, c6⟩, s0, s1, s2, s3⟩ := HX.out wx HB)
            | (go_at_call 24; refine (r_eq (by with_reducible first | assumption | exact pat_sub _ _ | exact pat_mul _ _ | exact pat_1) (by with_reducible first | assumption | exact pat_sub _ _ | exact pat_mul _ _ | exact pat_1) _).mono ?_; rintro e wx ⟨rfl, hbx⟩; rw [hqe]; have HB : Below W.heap.size W wx := bel HB hbx; obtain ⟨⟨c0, c1, c2, c3, c4, c5, c6⟩, s0, s1, s2, s3⟩ := HX.out wx HB))
        all_goals (
          refine wp_region_held_drew (S := (fun w' => w'.cell? ⟨w.heap.size, 1, none⟩ = some (.int .u32 B) ∧ w'.cell? ⟨w.heap.size, 4, none⟩ = some (.int .i64 G))) (by kernel_rfl) ?_ (fun hHeld => ?_)
          · ((try dsimp only); go_keep)
          refine wpAnyH_take (i := 0) (v := ?_) (by simp only [List.getElem?_toArray, List.getElem?_cons_succ, List.getElem?_cons_zero]; rfl) (by kernel_rfl) (by kernel_rfl) (by kernel_rfl) (by exact fun _ _ _ h => h) (Or.inl ⟨by rfl, ?_⟩) (by assumption) ?_
          rotate_left 1
          · (intro wS hSw; (try dsimp only at hSw); go_simp; try (with_reducible rfl))
          try simp only [Act.put, List.setIfInBounds_toArray, List.set_cons_zero, List.set_cons_succ]
          refine wpAnyH_take (i := 1) (v := ?_) (by simp only [List.getElem?_toArray, List.getElem?_cons_succ, List.getElem?_cons_zero]; rfl) (by kernel_rfl) (by kernel_rfl) (by kernel_rfl) (by exact fun _ _ _ h => h) (Or.inl ⟨by rfl, ?_⟩) (by assumption) ?_
          rotate_left 1
          · (intro wS hSw; (try dsimp only at hSw); go_simp; try (with_reducible rfl))
          try simp only [Act.put, List.setIfInBounds_toArray, List.set_cons_zero, List.set_cons_succ]
          refine wpAnyH_take (i := 2) (v := ?_) (by simp only [List.getElem?_toArray, List.getElem?_cons_succ, List.getElem?_cons_zero]; rfl) (by kernel_rfl) (by kernel_rfl) (by kernel_rfl) (by exact fun _ _ _ h => h) (Or.inl ⟨by rfl, ?_⟩) (by assumption) ?_
          rotate_left 1
          · (intro wS hSw; (try dsimp only at hSw); go_simp; try (with_reducible rfl))
          try simp only [Act.put, List.setIfInBounds_toArray, List.set_cons_zero, List.set_cons_succ]
          refine wpAnyH_take (i := 3) (v := ?_) (by simp only [List.getElem?_toArray, List.getElem?_cons_succ, List.getElem?_cons_zero]; rfl) (by kernel_rfl) (by kernel_rfl) (by kernel_rfl) (by exact fun _ _ _ h => h) (Or.inl ⟨by rfl, ?_⟩) (by assumption) ?_
          rotate_left 1
          · (intro wS hSw; (try dsimp only at hSw); go_simp; try (with_reducible rfl))
          try simp only [Act.put, List.setIfInBounds_toArray, List.set_cons_zero, List.set_cons_succ]
          refine wpAnyH_take (i := 4) (v := ?_) (by simp only [List.getElem?_toArray, List.getElem?_cons_succ, List.getElem?_cons_zero]; rfl) (by kernel_rfl) (by kernel_rfl) (by kernel_rfl) (by exact fun _ _ _ h => h) (Or.inl ⟨by rfl, ?_⟩) (by assumption) ?_
          rotate_left 1
          · (intro wS hSw; (try dsimp only at hSw); go_simp; try (with_reducible rfl))
          try simp only [Act.put, List.setIfInBounds_toArray, List.set_cons_zero, List.set_cons_succ]
          refine wpAnyH_take (i := 5) (v := undef) (by simp only [List.getElem?_toArray, List.getElem?_cons_succ, List.getElem?_cons_zero]; rfl) (by kernel_rfl) (by kernel_rfl) (by kernel_rfl) (by exact fun _ _ _ h => h) (Or.inr ⟨by rfl, rfl⟩) (by assumption) ?_
          try simp only [Act.put, List.setIfInBounds_toArray, List.set_cons_zero, List.set_cons_succ]
          refine wpAnyH_take (i := 6) (v := undef) (by simp only [List.getElem?_toArray, List.getElem?_cons_succ, List.getElem?_cons_zero]; rfl) (by kernel_rfl) (by kernel_rfl) (by kernel_rfl) (by exact fun _ _ _ h => h) (Or.inr ⟨by rfl, rfl⟩) (by assumption) ?_
          try simp only [Act.put, List.setIfInBounds_toArray, List.set_cons_zero, List.set_cons_succ]
          refine wpAnyH_take (i := 7) (v := undef) (by simp only [List.getElem?_toArray, List.getElem?_cons_succ, List.getElem?_cons_zero]; rfl) (by kernel_rfl) (by kernel_rfl) (by kernel_rfl) (by exact fun _ _ _ h => h) (Or.inr ⟨by rfl, rfl⟩) (by assumption) ?_
          try simp only [Act.put, List.setIfInBounds_toArray, List.set_cons_zero, List.set_cons_succ]
          refine wpAnyH_take (i := 8) (v := undef) (by simp only [List.getElem?_toArray, List.getElem?_cons_succ, List.getElem?_cons_zero]; rfl) (by kernel_rfl) (by kernel_rfl) (by kernel_rfl) (by exact fun _ _ _ h => h) (Or.inr ⟨by rfl, rfl⟩) (by assumption) ?_
          try simp only [Act.put, List.setIfInBounds_toArray, List.set_cons_zero, List.set_cons_succ]
          refine wpAnyH_take (i := 9) (v := undef) (by simp only [List.getElem?_toArray, List.getElem?_cons_succ, List.getElem?_cons_zero]; rfl) (by kernel_rfl) (by kernel_rfl) (by kernel_rfl) (by exact fun _ _ _ h => h) (Or.inr ⟨by rfl, rfl⟩) (by assumption) ?_
          try simp only [Act.put, List.setIfInBounds_toArray, List.set_cons_zero, List.set_cons_succ]
          refine wpAnyH_take (i := 10) (v := undef) (by simp only [List.getElem?_toArray, List.getElem?_cons_succ, List.getElem?_cons_zero]; rfl) (by kernel_rfl) (by kernel_rfl) (by kernel_rfl) (by exact fun _ _ _ h => h) (Or.inr ⟨by rfl, rfl⟩) (by assumption) ?_
          try simp only [Act.put, List.setIfInBounds_toArray, List.set_cons_zero, List.set_cons_succ]
          refine wpAnyH_take (i := 11) (v := undef) (by simp only [List.getElem?_toArray, List.getElem?_cons_succ, List.getElem?_cons_zero]; rfl) (by kernel_rfl) (by kernel_rfl) (by kernel_rfl) (by exact fun _ _ _ h => h) (Or.inr ⟨by rfl, rfl⟩) (by assumption) ?_
          try simp only [Act.put, List.setIfInBounds_toArray, List.set_cons_zero, List.set_cons_succ]
          refine wpAnyH_take (i := 12) (v := undef) (by simp only [List.getElem?_toArray, List.getElem?_cons_succ, List.getElem?_cons_zero]; rfl) (by kernel_rfl) (by kernel_rfl) (by kernel_rfl) (by exact fun _ _ _ h => h) (Or.inr ⟨by rfl, rfl⟩) (by assumption) ?_
          try simp only [Act.put, List.setIfInBounds_toArray, List.set_cons_zero, List.set_cons_succ]
          refine wpAnyH_take (i := 13) (v := undef) (by simp only [List.getElem?_toArray, List.getElem?_cons_succ, List.getElem?_cons_zero]; rfl) (by kernel_rfl) (by kernel_rfl) (by kernel_rfl) (by exact fun _ _ _ h => h) (Or.inr ⟨by rfl, rfl⟩) (by assumption) ?_
          try simp only [Act.put, List.setIfInBounds_toArray, List.set_cons_zero, List.set_cons_succ]
          refine wpAnyH_take (i := 14) (v := ?_) (by simp only [List.getElem?_toArray, List.getElem?_cons_succ, List.getElem?_cons_zero]; rfl) (by kernel_rfl) (by kernel_rfl) (by kernel_rfl) (by exact fun _ _ _ h => h) (Or.inl ⟨by rfl, ?_⟩) (by assumption) ?_
          rotate_left 1
          · (intro wS hSw; (try dsimp only at hSw); go_simp; try (with_reducible rfl))
          try simp only [Act.put, List.setIfInBounds_toArray, List.set_cons_zero, List.set_cons_succ]
          refine wpAnyH_take (i := 15) (v := ?_) (by simp only [List.getElem?_toArray, List.getElem?_cons_succ, List.getElem?_cons_zero]; rfl) (by kernel_rfl) (by kernel_rfl) (by kernel_rfl) (by exact fun _ _ _ h => h) (Or.inl ⟨by rfl, ?_⟩) (by assumption) ?_
          rotate_left 1
          · (intro wS hSw; (try dsimp only at hSw); go_simp; try (with_reducible rfl))
          try simp only [Act.put, List.setIfInBounds_toArray, List.set_cons_zero, List.set_cons_succ]
          clear hHeld
          refine wpAnyH_ready (rs := [16]) (by kernel_rfl) (by simp) ?_
          refine AllReadyH.cons (i := 16) (by simp only [List.getElem?_toArray, List.getElem?_cons_succ, List.getElem?_cons_zero]; rfl) (fun K hK => ?_) AllReadyH.nil
          go_simp
          (go_at_call 10; (with_reducible refine (HWK.out _).mono ?_); rintro e wx ⟨rfl, hbx⟩; have HB : Below W.heap.size W wx := bel (bel HB (bel_d _)) hbx; obtain ⟨⟨c0, c1, c2, c3, c4, c5, c6⟩, s0, s1, s2, s3⟩ := HX.out wx HB)
          try (go_wp2_with fail)
          refine hK.out _ _ ?_ (fun hHeld => ?_)
          · ((try dsimp only); go_keep)
          clear hK K
          try simp only [Act.put, List.setIfInBounds_toArray, List.set_cons_zero, List.set_cons_succ]
          refine wpAnyH_take (i := 17) (v := ?_) (by simp only [List.getElem?_toArray, List.getElem?_cons_succ, List.getElem?_cons_zero]; rfl) (by kernel_rfl) (by kernel_rfl) (by kernel_rfl) (by exact fun _ _ _ h => h) (Or.inl ⟨by rfl, ?_⟩) (by assumption) ?_
          rotate_left 1
          · (intro wS hSw; (try dsimp only at hSw); go_simp; try (with_reducible rfl))
          try simp only [Act.put, List.setIfInBounds_toArray, List.set_cons_zero, List.set_cons_succ]
          refine wpAnyH_take (i := 18) (v := ?_) (by simp only [List.getElem?_toArray, List.getElem?_cons_succ, List.getElem?_cons_zero]; rfl) (by kernel_rfl) (by kernel_rfl) (by kernel_rfl) (by exact fun _ _ _ h => h) (Or.inl ⟨by rfl, ?_⟩) (by assumption) ?_
          rotate_left 1
          · (intro wS hSw; (try dsimp only at hSw); go_simp; try (with_reducible rfl))
          try simp only [Act.put, List.setIfInBounds_toArray, List.set_cons_zero, List.set_cons_succ]
          refine wpAnyH_done (by kernel_rfl) ?_ _
          go_wp2
        )
        all_goals go_ret
        all_goals exact ⟨rfl, bel HB0.out HB⟩
    · clear q3
      by_cases hgm : m ≤ G
      · have HQ4 : Hid (V1 = fadd (fmul D 1065353216) B) := hq4' hgm
        have hgm' : ¬ G < m := by omega
        have hgd : decide (G < m) = false := decide_eq_false hgm'
        clear hq4' hgm
        have hge' : n < G + T := by omega
        go_enter Try.func6, Try.ntmps6
        go_wp2
        rw [HWE.out]
        obtain ⟨⟨c0, c1, c2, c3, c4, c5, c6⟩, s0, s1, s2, s3⟩ := HX.out W (bel0 W)
        go_region_held3 (fun w' => w'.cell? ⟨w.heap.size, 5, none⟩ = some (.int .i64 M) ∧ w'.cell? ⟨w.heap.size, 6, none⟩ = some (.int .i64 N)) (go_keep) (fail)
        all_goals clear c0 c1 c2 c3 c4 c5 c6 s0 s1 s2 s3
        all_goals have HB : Below W.heap.size W W.drew := bel_d W
        all_goals obtain ⟨⟨c0, c1, c2, c3, c4, c5, c6⟩, s0, s1, s2, s3⟩ := HX.out W.drew HB
        all_goals try rw [hmn]
        all_goals try rw [hmx]
        all_goals go_wp2_with (first
            | (go_at_call 12; (with_reducible refine (HM.out _ HB).mono ?_); rintro e wx ⟨rfl, hbx⟩; have HB : Below W.heap.size W wx := bel HB hbx; obtain ⟨⟨c0, c1, c2, c3, c4, c5, c6⟩, s0, s1, s2, s3⟩ := HX.out wx HB; clear HM)
            | (go_at_call 12; (with_reducible refine (HN.out _ HB).mono ?_); rintro e wx ⟨rfl, hbx⟩; have HB : Below W.heap.size W wx := bel HB hbx; obtain ⟨⟨c0, c1, c2, c3, c4, c5, c6⟩, s0, s1, s2, s3⟩ := HX.out wx HB; clear HN)
            | (go_at_call 21; refine (r_sub (by with_reducible first | assumption | exact pat_sub _ _ | exact pat_mul _ _ | exact pat_1) (by with_reducible first | assumption | exact pat_sub _ _ | exact pat_mul _ _ | exact pat_1) _).mono ?_; rintro e wx ⟨rfl, hbx⟩; rw [hD]; have HB : Below W.heap.size W wx := bel HB hbx; obtain ⟨⟨c0, c1, c2, c3, c4, c5, c6⟩, s0, s1, s2, s3⟩ := HX.out wx HB)
            | (go_at_call 23; refine (r_fin (by with_reducible first | assumption | exact pat_sub _ _ | exact pat_mul _ _ | exact pat_1) _).mono ?_; rintro e wx ⟨rfl, hbx⟩; rw [hfd]; have HB : Below W.heap.size W wx := bel HB hbx; obtain ⟨⟨c0, c1, c2, c3, c4, c5, c6⟩, s0, s1, s2, s3⟩ := HX.out wx HB)
            | (go_at_call 19; refine (r_less (by with_reducible first | assumption | exact pat_sub _ _ | exact pat_mul _ _ | exact pat_1) (by with_reducible first | assumption | exact pat_sub _ _ | exact pat_mul _ _ | exact pat_1) _).mono ?_; rintro e wx ⟨rfl, hbx⟩; (first | rw [hup] | rw [hqa]); have HB : Below W.heap.size W wx := bel HB hbx; obtain ⟨⟨c0, c1, c2, c3, c4, c5, c6⟩, s0, s1, s2, s3⟩ := HX.out wx HB))
        all_goals go_region_held3 (fun w' => w'.cell? ⟨w.heap.size, 1, none⟩ = some (.int .u32 B) ∧ w'.cell? ⟨w.heap.size, 4, none⟩ = some (.int .i64 G)) (go_keep) (first | (go_at_call 26; refine (r_mul (by with_reducible first | assumption | exact pat_sub _ _ | exact pat_mul _ _ | exact pat_1) (by with_reducible first | assumption | exact pat_sub _ _ | exact pat_mul _ _ | exact pat_1) _).mono ?_; rintro e wx ⟨rfl, hbx⟩; have HB : Below W.heap.size W wx := (by first | exact bel HB hbx | exact bel (bel HB (bel_d _)) hbx); obtain ⟨⟨c0, c1, c2, c3, c4, c5, c6⟩, s0, s1, s2, s3⟩ := HX.out wx HB) | (go_at_call 25; refine (r_add (by with_reducible first | assumption | exact pat_sub _ _ | exact pat_mul _ _ | exact pat_1) (by with_reducible first | assumption | exact pat_sub _ _ | exact pat_mul _ _ | exact pat_1) _).mono ?_; rintro e wx ⟨rfl, hbx⟩; rw [← HQ4.out]; have HB : Below W.heap.size W wx := (by first | exact bel HB hbx | exact bel (bel HB (bel_d _)) hbx); obtain ⟨⟨c0, c1, c2, c3, c4, c5, c6⟩, s0, s1, s2, s3⟩ := HX.out wx HB) | (go_at_call 10; (with_reducible refine (HWK.out _).mono ?_); rintro e wx ⟨rfl, hbx⟩; have HB : Below W.heap.size W wx := (by first | exact bel HB hbx | exact bel (bel HB (bel_d _)) hbx); obtain ⟨⟨c0, c1, c2, c3, c4, c5, c6⟩, s0, s1, s2, s3⟩ := HX.out wx HB))
        all_goals go_wp2
        all_goals go_ret
        all_goals exact ⟨rfl, bel HB0.out HB⟩
      · have hgm' : G < m := by omega
        have hgd : decide (G < m) = true := decide_eq_true hgm'
        clear hq4' hgm
        have hge' : n < G + T := by omega
        go_enter Try.func6, Try.ntmps6
        go_wp2
        rw [HWE.out]
        obtain ⟨⟨c0, c1, c2, c3, c4, c5, c6⟩, s0, s1, s2, s3⟩ := HX.out W (bel0 W)
        go_region_held3 (fun w' => w'.cell? ⟨w.heap.size, 5, none⟩ = some (.int .i64 M) ∧ w'.cell? ⟨w.heap.size, 6, none⟩ = some (.int .i64 N)) (go_keep) (fail)
        all_goals clear c0 c1 c2 c3 c4 c5 c6 s0 s1 s2 s3
        all_goals have HB : Below W.heap.size W W.drew := bel_d W
        all_goals obtain ⟨⟨c0, c1, c2, c3, c4, c5, c6⟩, s0, s1, s2, s3⟩ := HX.out W.drew HB
        all_goals try rw [hmn]
        all_goals try rw [hmx]
        all_goals go_wp2_with (first
            | (go_at_call 12; (with_reducible refine (HM.out _ HB).mono ?_); rintro e wx ⟨rfl, hbx⟩; have HB : Below W.heap.size W wx := bel HB hbx; obtain ⟨⟨c0, c1, c2, c3, c4, c5, c6⟩, s0, s1, s2, s3⟩ := HX.out wx HB; clear HM)
            | (go_at_call 12; (with_reducible refine (HN.out _ HB).mono ?_); rintro e wx ⟨rfl, hbx⟩; have HB : Below W.heap.size W wx := bel HB hbx; obtain ⟨⟨c0, c1, c2, c3, c4, c5, c6⟩, s0, s1, s2, s3⟩ := HX.out wx HB; clear HN)
            | (go_at_call 21; refine (r_sub (by with_reducible first | assumption | exact pat_sub _ _ | exact pat_mul _ _ | exact pat_1) (by with_reducible first | assumption | exact pat_sub _ _ | exact pat_mul _ _ | exact pat_1) _).mono ?_; rintro e wx ⟨rfl, hbx⟩; rw [hD]; have HB : Below W.heap.size W wx := bel HB hbx; obtain ⟨⟨c0, c1, c2, c3, c4, c5, c6⟩, s0, s1, s2, s3⟩ := HX.out wx HB)
            | (go_at_call 23; refine (r_fin (by with_reducible first | assumption | exact pat_sub _ _ | exact pat_mul _ _ | exact pat_1) _).mono ?_; rintro e wx ⟨rfl, hbx⟩; rw [hfd]; have HB : Below W.heap.size W wx := bel HB hbx; obtain ⟨⟨c0, c1, c2, c3, c4, c5, c6⟩, s0, s1, s2, s3⟩ := HX.out wx HB)
            | (go_at_call 19; refine (r_less (by with_reducible first | assumption | exact pat_sub _ _ | exact pat_mul _ _ | exact pat_1) (by with_reducible first | assumption | exact pat_sub _ _ | exact pat_mul _ _ | exact pat_1) _).mono ?_; rintro e wx ⟨rfl, hbx⟩; (first | rw [hup] | rw [hqa]); have HB : Below W.heap.size W wx := bel HB hbx; obtain ⟨⟨c0, c1, c2, c3, c4, c5, c6⟩, s0, s1, s2, s3⟩ := HX.out wx HB))
        all_goals (
          refine wp_region_held_drew (S := (fun w' => w'.cell? ⟨w.heap.size, 1, none⟩ = some (.int .u32 B) ∧ w'.cell? ⟨w.heap.size, 4, none⟩ = some (.int .i64 G))) (by kernel_rfl) ?_ (fun hHeld => ?_)
          · ((try dsimp only); go_keep)
          refine wpAnyH_take (i := 0) (v := ?_) (by simp only [List.getElem?_toArray, List.getElem?_cons_succ, List.getElem?_cons_zero]; rfl) (by kernel_rfl) (by kernel_rfl) (by kernel_rfl) (by exact fun _ _ _ h => h) (Or.inl ⟨by rfl, ?_⟩) (by assumption) ?_
          rotate_left 1
          · (intro wS hSw; (try dsimp only at hSw); go_simp; try (with_reducible rfl))
          try simp only [Act.put, List.setIfInBounds_toArray, List.set_cons_zero, List.set_cons_succ]
          refine wpAnyH_take (i := 1) (v := ?_) (by simp only [List.getElem?_toArray, List.getElem?_cons_succ, List.getElem?_cons_zero]; rfl) (by kernel_rfl) (by kernel_rfl) (by kernel_rfl) (by exact fun _ _ _ h => h) (Or.inl ⟨by rfl, ?_⟩) (by assumption) ?_
          rotate_left 1
          · (intro wS hSw; (try dsimp only at hSw); go_simp; try (with_reducible rfl))
          try simp only [Act.put, List.setIfInBounds_toArray, List.set_cons_zero, List.set_cons_succ]
          refine wpAnyH_take (i := 2) (v := ?_) (by simp only [List.getElem?_toArray, List.getElem?_cons_succ, List.getElem?_cons_zero]; rfl) (by kernel_rfl) (by kernel_rfl) (by kernel_rfl) (by exact fun _ _ _ h => h) (Or.inl ⟨by rfl, ?_⟩) (by assumption) ?_
          rotate_left 1
          · (intro wS hSw; (try dsimp only at hSw); go_simp; try (with_reducible rfl))
          try simp only [Act.put, List.setIfInBounds_toArray, List.set_cons_zero, List.set_cons_succ]
          refine wpAnyH_take (i := 3) (v := ?_) (by simp only [List.getElem?_toArray, List.getElem?_cons_succ, List.getElem?_cons_zero]; rfl) (by kernel_rfl) (by kernel_rfl) (by kernel_rfl) (by exact fun _ _ _ h => h) (Or.inl ⟨by rfl, ?_⟩) (by assumption) ?_
          rotate_left 1
          · (intro wS hSw; (try dsimp only at hSw); go_simp; try (with_reducible rfl))
          try simp only [Act.put, List.setIfInBounds_toArray, List.set_cons_zero, List.set_cons_succ]
          refine wpAnyH_take (i := 4) (v := ?_) (by simp only [List.getElem?_toArray, List.getElem?_cons_succ, List.getElem?_cons_zero]; rfl) (by kernel_rfl) (by kernel_rfl) (by kernel_rfl) (by exact fun _ _ _ h => h) (Or.inl ⟨by rfl, ?_⟩) (by assumption) ?_
          rotate_left 1
          · (intro wS hSw; (try dsimp only at hSw); go_simp; try (with_reducible rfl))
          try simp only [Act.put, List.setIfInBounds_toArray, List.set_cons_zero, List.set_cons_succ]
          refine wpAnyH_take (i := 5) (v := undef) (by simp only [List.getElem?_toArray, List.getElem?_cons_succ, List.getElem?_cons_zero]; rfl) (by kernel_rfl) (by kernel_rfl) (by kernel_rfl) (by exact fun _ _ _ h => h) (Or.inr ⟨by rfl, rfl⟩) (by assumption) ?_
          try simp only [Act.put, List.setIfInBounds_toArray, List.set_cons_zero, List.set_cons_succ]
          refine wpAnyH_take (i := 6) (v := undef) (by simp only [List.getElem?_toArray, List.getElem?_cons_succ, List.getElem?_cons_zero]; rfl) (by kernel_rfl) (by kernel_rfl) (by kernel_rfl) (by exact fun _ _ _ h => h) (Or.inr ⟨by rfl, rfl⟩) (by assumption) ?_
          try simp only [Act.put, List.setIfInBounds_toArray, List.set_cons_zero, List.set_cons_succ]
          refine wpAnyH_take (i := 7) (v := undef) (by simp only [List.getElem?_toArray, List.getElem?_cons_succ, List.getElem?_cons_zero]; rfl) (by kernel_rfl) (by kernel_rfl) (by kernel_rfl) (by exact fun _ _ _ h => h) (Or.inr ⟨by rfl, rfl⟩) (by assumption) ?_
          try simp only [Act.put, List.setIfInBounds_toArray, List.set_cons_zero, List.set_cons_succ]
          refine wpAnyH_take (i := 8) (v := undef) (by simp only [List.getElem?_toArray, List.getElem?_cons_succ, List.getElem?_cons_zero]; rfl) (by kernel_rfl) (by kernel_rfl) (by kernel_rfl) (by exact fun _ _ _ h => h) (Or.inr ⟨by rfl, rfl⟩) (by assumption) ?_
          try simp only [Act.put, List.setIfInBounds_toArray, List.set_cons_zero, List.set_cons_succ]
          refine wpAnyH_take (i := 9) (v := undef) (by simp only [List.getElem?_toArray, List.getElem?_cons_succ, List.getElem?_cons_zero]; rfl) (by kernel_rfl) (by kernel_rfl) (by kernel_rfl) (by exact fun _ _ _ h => h) (Or.inr ⟨by rfl, rfl⟩) (by assumption) ?_
          try simp only [Act.put, List.setIfInBounds_toArray, List.set_cons_zero, List.set_cons_succ]
          refine wpAnyH_take (i := 10) (v := undef) (by simp only [List.getElem?_toArray, List.getElem?_cons_succ, List.getElem?_cons_zero]; rfl) (by kernel_rfl) (by kernel_rfl) (by kernel_rfl) (by exact fun _ _ _ h => h) (Or.inr ⟨by rfl, rfl⟩) (by assumption) ?_
          try simp only [Act.put, List.setIfInBounds_toArray, List.set_cons_zero, List.set_cons_succ]
          refine wpAnyH_take (i := 11) (v := undef) (by simp only [List.getElem?_toArray, List.getElem?_cons_succ, List.getElem?_cons_zero]; rfl) (by kernel_rfl) (by kernel_rfl) (by kernel_rfl) (by exact fun _ _ _ h => h) (Or.inr ⟨by rfl, rfl⟩) (by assumption) ?_
          try simp only [Act.put, List.setIfInBounds_toArray, List.set_cons_zero, List.set_cons_succ]
          refine wpAnyH_take (i := 12) (v := undef) (by simp only [List.getElem?_toArray, List.getElem?_cons_succ, List.getElem?_cons_zero]; rfl) (by kernel_rfl) (by kernel_rfl) (by kernel_rfl) (by exact fun _ _ _ h => h) (Or.inr ⟨by rfl, rfl⟩) (by assumption) ?_
          try simp only [Act.put, List.setIfInBounds_toArray, List.set_cons_zero, List.set_cons_succ]
          refine wpAnyH_take (i := 13) (v := undef) (by simp only [List.getElem?_toArray, List.getElem?_cons_succ, List.getElem?_cons_zero]; rfl) (by kernel_rfl) (by kernel_rfl) (by kernel_rfl) (by exact fun _ _ _ h => h) (Or.inr ⟨by rfl, rfl⟩) (by assumption) ?_
          try simp only [Act.put, List.setIfInBounds_toArray, List.set_cons_zero, List.set_cons_succ]
          refine wpAnyH_take (i := 14) (v := ?_) (by simp only [List.getElem?_toArray, List.getElem?_cons_succ, List.getElem?_cons_zero]; rfl) (by kernel_rfl) (by kernel_rfl) (by kernel_rfl) (by exact fun _ _ _ h => h) (Or.inl ⟨by rfl, ?_⟩) (by assumption) ?_
          rotate_left 1
          · (intro wS hSw; (try dsimp only at hSw); go_simp; try (with_reducible rfl))
          try simp only [Act.put, List.setIfInBounds_toArray, List.set_cons_zero, List.set_cons_succ]
          refine wpAnyH_take (i := 15) (v := ?_) (by simp only [List.getElem?_toArray, List.getElem?_cons_succ, List.getElem?_cons_zero]; rfl) (by kernel_rfl) (by kernel_rfl) (by kernel_rfl) (by exact fun _ _ _ h => h) (Or.inl ⟨by rfl, ?_⟩) (by assumption) ?_
          rotate_left 1
          · (intro wS hSw; (try dsimp only at hSw); go_simp; try (with_reducible rfl))
          try simp only [Act.put, List.setIfInBounds_toArray, List.set_cons_zero, List.set_cons_succ]
          clear hHeld
          refine wpAnyH_ready (rs := [16]) (by kernel_rfl) (by simp) ?_
          refine AllReadyH.cons (i := 16) (by simp only [List.getElem?_toArray, List.getElem?_cons_succ, List.getElem?_cons_zero]; rfl) (fun K hK => ?_) AllReadyH.nil
          go_simp
          (go_at_call 10; (with_reducible refine (HWK.out _).mono ?_); rintro e wx ⟨rfl, hbx⟩; have HB : Below W.heap.size W wx := bel (bel HB (bel_d _)) hbx; obtain ⟨⟨c0, c1, c2, c3, c4, c5, c6⟩, s0, s1, s2, s3⟩ := HX.out wx HB)
          try (go_wp2_with fail)
          refine hK.out _ _ ?_ (fun hHeld => ?_)
          · ((try dsimp only); go_keep)
          clear hK K
          try simp only [Act.put, List.setIfInBounds_toArray, List.set_cons_zero, List.set_cons_succ]
          refine wpAnyH_take (i := 17) (v := ?_) (by simp only [List.getElem?_toArray, List.getElem?_cons_succ, List.getElem?_cons_zero]; rfl) (by kernel_rfl) (by kernel_rfl) (by kernel_rfl) (by exact fun _ _ _ h => h) (Or.inl ⟨by rfl, ?_⟩) (by assumption) ?_
          rotate_left 1
          · (intro wS hSw; (try dsimp only at hSw); go_simp; try (with_reducible rfl))
          try simp only [Act.put, List.setIfInBounds_toArray, List.set_cons_zero, List.set_cons_succ]
          refine wpAnyH_take (i := 18) (v := ?_) (by simp only [List.getElem?_toArray, List.getElem?_cons_succ, List.getElem?_cons_zero]; rfl) (by kernel_rfl) (by kernel_rfl) (by kernel_rfl) (by exact fun _ _ _ h => h) (Or.inl ⟨by rfl, ?_⟩) (by assumption) ?_
          rotate_left 1
          · (intro wS hSw; (try dsimp only at hSw); go_simp; try (with_reducible rfl))
          try simp only [Act.put, List.setIfInBounds_toArray, List.set_cons_zero, List.set_cons_succ]
          refine wpAnyH_done (by kernel_rfl) ?_ _
          go_wp2
        )
        all_goals go_ret
        all_goals exact ⟨rfl, bel HB0.out HB⟩

end Go.Proofs.Ytnogokikiekcbaa
