import Derived.Test.YtnogokikiekcbaaSchSure
import Derived.Test.YtnogokikiekcbaaSchOpen
/- The statement SchedJoins: its walk. -/
namespace Go.Proofs.Ytnogokikiekcbaa
open Go.RowKit
set_option linter.unusedVariables false
set_option linter.unusedSimpArgs false

theorem rises_iff (n : Int) : ∀ (l : List Int) (a : Int), risesA a l = true → ∀ j (hj : j < l.length), (l[j] ≤ n ↔ j < kidOf n l)
  | [], a, _, j, hj => absurd hj (Nat.not_lt_zero _)
  | b :: bs, a, h, j, hj => by
    simp only [risesA, Bool.and_eq_true, decide_eq_true_eq] at h
    simp only [kidOf]
    by_cases hb : b ≤ n
    · rw [if_pos hb]
      cases j with
      | zero => simp [hb]
      | succ j =>
        have := rises_iff n bs b h.2 j (by simpa using hj)
        simp only [List.getElem_cons_succ]
        omega
    · rw [if_neg hb]
      cases j with
      | zero => simp [hb]
      | succ j =>
        have := (risesA_get bs b h.2 j (by simpa using hj)).1
        simp only [List.getElem_cons_succ]
        omega
theorem okS_kid {t : Sc} (h : okS t = true) {k : Sc} (hk : k ∈ t.kids) : okS k = true := by
  unfold okS at h ⊢
  obtain ⟨m, hm⟩ := Option.isSome_iff_exists.1 h
  have hf := (may_all hm).1
  rw [may_go 64 4096 t (by decide) (by decide) hf] at hm
  obtain ⟨m', hm'⟩ := mayL_get _ _ _ _ hm k hk
  obtain ⟨m'', h2, -⟩ := may_more [k] 63 4095 m' 64 4096 (by rw [mayL_cons, hm']; exact mayL_nil _ _) (by decide) (by decide)
  rw [mayL_cons] at h2
  obtain ⟨q, hq, -⟩ := Option.bind_eq_some_iff.1 h2
  rw [hq]; rfl
theorem valueP_ok {t : Sc} {n : Int} (h : (valueP t n).2 = 0) : isCnt n = true ∧ okS t = true ∧ (valueP t n).1 = valT t n := by
  unfold valueP at h ⊢
  split at h
  · rename_i hc
    rw [if_pos hc]
    exact ⟨hc.1, hc.2, rfl⟩
  · cases h
theorem valueP_at {t : Sc} {n : Int} (h1 : 0 ≤ n) (h2 : n ≤ 2147483647) (h : okS t = true) : valueP t n = (valT t n, 0) := by
  unfold valueP
  rw [if_pos ⟨by unfold isCnt; simp [h1, h2], h⟩]
theorem valueP_01 (t : Sc) (n : Int) : (valueP t n).2 = 0 ∨ (valueP t n).2 = 1 := by
  unfold valueP
  split
  · exact .inl rfl
  · exact .inr rfl
theorem pat_valueP {t : Sc} (h : sok t) (n : Int) : Pat (valueP t n).1 := by
  unfold valueP
  split
  · rename_i hc; exact pat_val t h (okS_all hc.2) n
  · exact pat_0
theorem nbeq {a b : Int} (h : a ≠ b) : (a == b) = false := by simpa using h

set_option maxRecDepth 100000 in
set_option maxHeartbeats 4000000 in
theorem walk_SchedJoins (t : Sc) (a c d : Value) (hok : sok t) (n : Int) (hn : -9223372036854775808 ≤ n ∧ n ≤ 9223372036854775807) (w : World) (hS : SV w t a c d) :
    Calls Try.prog 7 #[.agg #[.int .i64 t.op, a, c, d], .int .i64 n] w fun e w' => e = .returned (.bool true) ∧ Below w.heap.size w w' := by
  have hx := box_heap w (.cells #[.int .i64 t.op, a, c, d] 26)
  have hb0 := bel_alloc w (.cells #[.int .i64 t.op, a, c, d] 26)
  obtain ⟨W, hW⟩ : ∃ W, w.alloc (.cells #[.int .i64 t.op, a, c, d] 26) = W := ⟨_, rfl⟩
  rw [hW] at hx hb0
  have hSW := hS.below hb0
  have HX : Hid (∀ v, Below W.heap.size W v → v.cell? ⟨w.heap.size, 0, none⟩ = some (.int .i64 t.op) ∧ v.cell? ⟨w.heap.size, 1, none⟩ = some a ∧ v.cell? ⟨w.heap.size, 2, none⟩ = some c ∧ v.cell? ⟨w.heap.size, 3, none⟩ = some d) := fun v hv =>
    ⟨bcell (cell_heap hx 0) hv, bcell (cell_heap hx 1) hv, bcell (cell_heap hx 2) hv, bcell (cell_heap hx 3) hv⟩
  have HB0 : Hid (Below w.heap.size w W) := hb0
  obtain ⟨g, hg⟩ : ∃ g, decide (9000 < scnt t) = g := ⟨_, rfl⟩
  have HG : Hid (∀ v, Below W.heap.size W v → Calls Try.prog 9 #[.agg #[.int .i64 t.op, a, c, d]] v fun e w' => e = .returned (.bool g) ∧ Below v.heap.size v w') := fun v hv => by rw [← hg]; exact great_any t a c d v hok (hSW.below hv)
  obtain ⟨x0, x1, x2, x3⟩ := HX.out W (bel0 W)
  have hp := pat_valueP hok n
  have h01 := valueP_01 t n
  have HVO : Hid ((valueP t n).2 = 0 → isCnt n = true ∧ okS t = true ∧ (valueP t n).1 = valT t n) := valueP_ok
  have HV : Hid (∀ v, Below W.heap.size W v → Calls Try.prog 12 #[.agg #[.int .i64 t.op, a, c, d], .int .i64 n] v fun e w' => e = .returned (.tuple #[.int .u32 (valueP t n).1, .int .i64 (valueP t n).2]) ∧ Below v.heap.size v w') := fun v hv => value_to t n a c d hok v (hSW.below hv)
  obtain ⟨V, hV⟩ : ∃ V, (valueP t n).1 = V := ⟨_, rfl⟩
  obtain ⟨E, hE⟩ : ∃ E, (valueP t n).2 = E := ⟨_, rfl⟩
  rw [hV, hE] at HV HVO
  rw [hV] at hp
  rw [hE] at h01
  have HWK : Hid (∀ v : World, Calls Try.prog 10 #[] v fun e w' => e = .returned (.bool true) ∧ Below v.heap.size v w') := works_any14
  have hbW : Below W.heap.size W W := bel0 W
  clear hx hb0 hg hV hE
  cases g
  rotate_left 1
  · clear HV HVO hS hSW
    go_enter Try.func7, Try.ntmps7
    go_wp2_with (first
      | (go_at_call 9; (with_reducible refine (HG.out _ hbW).mono ?_); rintro e w1 ⟨rfl, hb1⟩)
      | (go_at_call 10; (with_reducible refine (HWK.out _).mono ?_); rintro e w2 ⟨rfl, hb2⟩))
    go_ret
    exact ⟨rfl, bel HB0.out (bel hb1 hb2)⟩
  rcases h01 with h01 | h01
  rotate_left 1
  · subst h01
    clear HVO hS hSW
    go_enter Try.func7, Try.ntmps7
    go_wp2_with (first
      | (go_at_call 9; (with_reducible refine (HG.out _ hbW).mono ?_); rintro e w1 ⟨rfl, hb1⟩; obtain ⟨x0, x1, x2, x3⟩ := HX.out w1 hb1)
      | (go_at_call 12; (with_reducible refine (HV.out _ hb1).mono ?_); rintro e w2 ⟨rfl, hb2⟩)
      | (go_at_call 10; (with_reducible refine (HWK.out _).mono ?_); rintro e w3 ⟨rfl, hb3⟩))
    go_ret
    exact ⟨rfl, bel HB0.out (bel hb1 (bel hb2 hb3))⟩
  obtain ⟨hcn, hko, hvt⟩ := HVO.out h01
  subst h01
  clear HVO
  by_cases hop : t.op = 6
  rotate_left 1
  · have z6 := nbeq hop
    clear hS hSW hcn hko hvt hop
    go_enter Try.func7, Try.ntmps7
    go_wp2_with (first
      | (go_at_call 9; (with_reducible refine (HG.out _ hbW).mono ?_); rintro e w1 ⟨rfl, hb1⟩; obtain ⟨x0, x1, x2, x3⟩ := HX.out w1 hb1)
      | (go_at_call 12; (with_reducible refine (HV.out _ hb1).mono ?_); rintro e w2 ⟨rfl, hb2⟩; have hb2 := bel hb1 hb2; obtain ⟨x0, x1, x2, x3⟩ := HX.out w2 hb2)
      | (go_at_call 10; (with_reducible refine (HWK.out _).mono ?_); rintro e w3 ⟨rfl, hb3⟩))
    go_ret
    exact ⟨rfl, bel HB0.out (bel hb2 hb3)⟩
  obtain ⟨hn0, hn1⟩ := isCnt_iff hcn
  obtain ⟨op, ns, is, ks⟩ := t
  simp only at hop
  subst hop
  have hall := okS_all hko
  obtain ⟨rfl, hkl, hris, hne⟩ := inv_6 hall.1
  simp only at hS hSW HX HV HG x0 hkl
  obtain ⟨K, hK⟩ : ∃ K, kidOf n is = K := ⟨_, rfl⟩
  have hKL : K ≤ is.length := by rw [← hK]; exact kid_le n is
  have HIF : Hid (∀ j (hj : j < is.length), is[j] ≤ n ↔ j < K) := fun j hj => by rw [← hK]; exact rises_iff n is 0 hris j hj
  have hfl := from_le hris hn0 K (by rw [hK]; exact Nat.le_refl _)
  have hKk : K < ks.length := by omega
  have hval : V = valT ks[K] (n - fromOf is K) := by
    rw [hvt]
    show (valsL ks).getD (kidOf n is) id (n - fromOf is (kidOf n is)) = _
    rw [hK, vals_at ⟨6, [], is, ks⟩ hKk]
  have hmem := List.getElem_mem hKk
  have hkok : okS ks[K] = true := okS_kid hko (by exact hmem)
  have hksok : sok ks[K] := (sokL_iff _).1 hok.2 _ hmem
  obtain ⟨pi, ci, rfl, hri⟩ := hS.ints
  obtain ⟨pk, ck, rfl, hrk⟩ := hS.kids
  simp only at hri hrk
  obtain ⟨b2, o2, rfl, hri2⟩ : ∃ b o, pi = some ⟨b, o, none⟩ ∧ ∀ i (h : i < is.length), w.cell? ⟨b, o + i, none⟩ = some (.int .i64 is[i]) := by
    rcases hri with h | h
    · exact absurd h hne
    · exact h
  obtain ⟨b3, o3, rfl, hrk2⟩ : ∃ b o, pk = some ⟨b, o, none⟩ ∧ SL w b o ks := by
    rcases hrk with h | h
    · rw [h] at hKk; exact absurd hKk (Nat.not_lt_zero _)
    · exact h
  simp only at HX HV HG x2 x3
  have HI : Hid (∀ v, Below W.heap.size W v → ∀ i (h : i < is.length), v.cell? ⟨b2, o2 + i, none⟩ = some (.int .i64 is[i])) := fun v hv i h => bcell (hri2 i h) (bel HB0.out hv)
  obtain ⟨k0, k1, k2, y0, y1, y2, y3, hkv⟩ := (SL_get hrk2 hKk).val
  have HKC : Hid (∀ v, Below W.heap.size W v → v.cell? ⟨b3, o3 + K * 4, none⟩ = some (.int .i64 ks[K].op) ∧ v.cell? ⟨b3, o3 + K * 4 + 1, none⟩ = some k0 ∧ v.cell? ⟨b3, o3 + K * 4 + 2, none⟩ = some k1 ∧ v.cell? ⟨b3, o3 + K * 4 + 3, none⟩ = some k2) := fun v hv =>
    ⟨bcell y0 (bel HB0.out hv), bcell y1 (bel HB0.out hv), bcell y2 (bel HB0.out hv), bcell y3 (bel HB0.out hv)⟩
  have HKV : Hid (∀ v, Below W.heap.size W v → Calls Try.prog 12 #[.agg #[.int .i64 ks[K].op, k0, k1, k2], .int .i64 (n - fromOf is K)] v fun e w' => e = .returned (.tuple #[.int .u32 V, .int .i64 0]) ∧ Below v.heap.size v w') := fun v hv => by
    have := value_to ks[K] (n - fromOf is K) k0 k1 k2 hksok v (hkv.below (bel HB0.out hv))
    rw [valueP_at (by omega) (by omega) hkok, ← hval] at this
    exact this
  obtain ⟨KO, hKO⟩ : ∃ x, ks[K].op = x := ⟨_, rfl⟩
  rw [hKO] at HKC HKV
  obtain ⟨N, hN⟩ : ∃ N, is.length = N := ⟨_, rfl⟩
  have HN : Hid (is.length = N) := hN
  have hNl : N ≤ 2147483647 := by have := risesA_len is 0 hris (by decide); rw [hN] at this; omega
  rw [hkl, hN] at HX HV HG x3
  rw [hN] at x2 hKL
  have hkN : (K : Int) < (N : Int) + 1 := by omega
  have hk0 : (0 : Int) ≤ (K : Int) := by omega
  have HFR : Hid (∀ (h : 0 < K) (hi : K - 1 < is.length), fromOf is K = is[K - 1]) := fun h hi => by
    have := from_at is (K - 1) hi
    rw [show K - 1 + 1 = K by omega] at this
    exact this
  have HF0 : Hid (K = 0 → fromOf is K = 0) := fun h => by rw [h]; rfl
  have hwf : IntKind.i64.wrap (n - fromOf is K) = n - fromOf is K := by rw [IntKind.wrap_i64]; omega
  clear hS hSW hri hrk hri2 hrk2 hkv y0 y1 y2 y3 hval hkok hksok hmem hKO hvt hN hkl hK hall hcn hko hfl hok hKk
  go_enter Try.func7, Try.ntmps7
  go_wp2_with (first
      | (go_at_call 9; (with_reducible refine (HG.out _ hbW).mono ?_); rintro e w1 ⟨rfl, hb1⟩; obtain ⟨x0, x1, x2, x3⟩ := HX.out w1 hb1)
      | (go_at_call 12; (with_reducible refine (HV.out _ hb1).mono ?_); rintro e w2 ⟨rfl, hb2⟩; have hb2 := bel hb1 hb2; obtain ⟨x0, x1, x2, x3⟩ := HX.out w2 hb2))
  clear HG HV x0 x1 x2 x3 hb1
  go_loopw [7, 8] (fun kv iv wr => wr = w2 ∧ ∃ j : Nat, j ≤ N ∧ iv = .int .i64 j ∧ kv = .int .i64 (min j K : Nat)) (fun _ iv _ => N - (intOf iv).toNat)
  case atStart => exact ⟨rfl, 0, Nat.zero_le _, rfl, by rw [Nat.zero_min]; rfl⟩
  case round =>
    obtain ⟨rfl, j, hj, rfl, rfl⟩ := hrel
    obtain ⟨x0, x1, x2, x3⟩ := HX.out wr hb2
    by_cases hlt0 : j < N
    · have hli : j < is.length := by rw [HN.out]; exact hlt0
      have g1 := HI.out wr hb2 j hli
      have hif := HIF.out j hli
      obtain ⟨x, hxx⟩ : ∃ x, is[j] = x := ⟨_, rfl⟩
      rw [hxx] at g1 hif
      have i1 : (0 : Int) ≤ (j : Int) := by omega
      have i2 : (j : Int) < (N : Int) := by omega
      have w1 : IntKind.i64.wrap ((j : Int) + 1) = (j : Int) + 1 := by rw [IntKind.wrap_i64]; omega
      by_cases hle : x ≤ n
      · have hjk := hif.1 hle
        obtain ⟨M, hM⟩ : ∃ M, min j K = M := ⟨_, rfl⟩
        rw [hM]
        clear hif hxx HIF HI HFR HF0
        go_wp2
        go_roundw
        case rel => exact ⟨trivial, j + 1, by omega, by go_num, by rw [show min (j + 1) K = j + 1 by omega]; go_num⟩
        case measure => simp [intOf]; omega
      · have hjk : ¬ j < K := fun h => hle (hif.2 h)
        obtain ⟨M, hM⟩ : ∃ M, min j K = M := ⟨_, rfl⟩
        rw [hM]
        have hM2 : min (j + 1) K = M := by omega
        clear hif hxx HIF HI HFR HF0
        go_wp2
        go_roundw
        case rel => exact ⟨trivial, j + 1, by omega, by go_num, by rw [hM2]⟩
        case measure => simp [intOf]; omega
    · have : j = N := by omega
      subst this
      have z : ¬ (j : Int) < (j : Int) := by omega
      rw [show min j K = K by omega]
      obtain ⟨y0, y1, y2, y3⟩ := HKC.out wr hb2
      by_cases hK0 : 0 < K
      · have hi : K - 1 < is.length := by rw [HN.out]; omega
        have g1 := HI.out wr hb2 (K - 1) hi
        have hfr := HFR.out hK0 hi
        obtain ⟨x, hxx⟩ : ∃ x, is[K - 1] = x := ⟨_, rfl⟩
        rw [hxx] at g1 hfr
        rw [hfr] at HKV hwf
        have z1 : (0 : Int) < (K : Int) := by omega
        have w1 : IntKind.i64.wrap ((K : Int) - 1) = ((K - 1 : Nat) : Int) := by rw [IntKind.wrap_i64]; omega
        have i3 : ((K - 1 : Nat) : Int) < (j : Int) := by omega
        have i4 : (0 : Int) ≤ ((K - 1 : Nat) : Int) := by omega
        clear hxx HIF HI HFR HF0 hfr HX HKC
        go_wp2_with (first
          | (go_at_call 12; (with_reducible refine (HKV.out _ hb2).mono ?_); rintro e w3 ⟨rfl, hb3⟩)
          | (go_at_call 10; (with_reducible refine (HWK.out _).mono ?_); rintro e w4 ⟨rfl, hb4⟩))
        go_ret
        exact ⟨rfl, bel HB0.out (bel hb2 (bel hb3 hb4))⟩
      · have hK00 : K = 0 := by omega
        subst hK00
        have hfr := HF0.out rfl
        rw [hfr, Int.sub_zero] at HKV
        clear hwf HIF HI HFR HF0 hfr HX HKC
        simp only [Nat.zero_mul, Nat.add_zero] at y0 y1 y2 y3
        go_wp2_with (first
          | (go_at_call 12; (with_reducible refine (HKV.out _ hb2).mono ?_); rintro e w3 ⟨rfl, hb3⟩)
          | (go_at_call 10; (with_reducible refine (HWK.out _).mono ?_); rintro e w4 ⟨rfl, hb4⟩))
        go_ret
        exact ⟨rfl, bel HB0.out (bel hb2 (bel hb3 hb4))⟩

end Go.Proofs.Ytnogokikiekcbaa
