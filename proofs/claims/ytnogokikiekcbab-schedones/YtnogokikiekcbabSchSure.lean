import Derived.Test.YtnogokikiekcbabSchAt
/- The statements' own works, count, great. -/
namespace Go.Proofs.Ytnogokikiekcbab
open Go.RowKit
set_option linter.unusedVariables false
set_option linter.unusedSimpArgs false

def sureT : Sc := ⟨2, [1065353216, 0], [1, 4, 2], []⟩
theorem sure_ok : okS sureT = true := by
  unfold okS
  rw [may_go 64 4096 sureT (by decide) (by decide) (by decide +kernel)]
  show (mayL 63 4095 []).isSome = true
  rw [mayL_nil]; rfl
theorem sure_sok : sok sureT := by
  refine ⟨⟨⟨by decide, by decide⟩, ?_, ?_, by decide, by decide, by decide⟩, sokL_nil⟩
  · intro x hx
    simp only [sureT, List.mem_cons, List.not_mem_nil, or_false] at hx
    rcases hx with rfl | rfl <;> decide
  · intro x hx
    simp only [sureT, List.mem_cons, List.not_mem_nil, or_false] at hx
    rcases hx with rfl | rfl | rfl <;> decide
theorem sure_3 : valueP sureT 3 = (1061158912, 0) := by
  unfold valueP
  rw [if_pos ⟨by decide, sure_ok⟩]
  show (polyV 1065353216 0 1 4 2 3, (0 : Int)) = _
  rw [show polyV 1065353216 0 1 4 2 3 = 1061158912 by decide +kernel]
theorem sure_9 : valueP sureT 9 = (0, 0) := by
  unfold valueP
  rw [if_pos ⟨by decide, sure_ok⟩]
  show (polyV 1065353216 0 1 4 2 9, (0 : Int)) = _
  rw [show polyV 1065353216 0 1 4 2 9 = 0 by decide +kernel]
theorem sure_m : valueP sureT (-1) = (0, 1) := by
  unfold valueP
  rw [if_neg (fun h => absurd h.1 (by decide))]
theorem sure_w : wave 1048576000 = 1060439284 := by decide +kernel

set_option maxRecDepth 100000 in
set_option maxHeartbeats 2000000 in
theorem works_any14 (w : World) : Calls Try.prog 5 #[] w fun e w' => e = .returned (.bool true) ∧ Below w.heap.size w w' := by
  obtain ⟨W, hW⟩ : ∃ W, ((w.alloc (.cells #[.int .u32 1065353216, .int .u32 0] 31)).alloc (.cells #[.int .i64 1, .int .i64 4, .int .i64 2] 3)).alloc (.cells #[.int .i64 2, .slice (some ⟨w.heap.size, 0, none⟩) 2 2, .slice (some ⟨w.heap.size + 1, 0, none⟩) 3 3, .slice none 0 0] 26) = W := ⟨_, rfl⟩
  have hB : Below w.heap.size w W := by rw [← hW]; exact bel (bel (bel_alloc _ _) (bel_alloc _ _)) (bel_alloc _ _)
  have hS : SV W sureT (.slice (some ⟨w.heap.size, 0, none⟩) 2 2) (.slice (some ⟨w.heap.size + 1, 0, none⟩) 3 3) (.slice none 0 0) := by
    refine ⟨⟨_, _, rfl, .inr ⟨_, _, rfl, fun i hi => ?_⟩⟩, ⟨_, _, rfl, .inr ⟨_, _, rfl, fun i hi => ?_⟩⟩, ⟨_, _, rfl, .inl rfl⟩⟩
    · have hi2 : i < 2 := hi
      rw [← hW]
      match i, hi2 with
      | 0, _ => simp [go_sem]; rfl
      | 1, _ => simp [go_sem]; rfl
    · have hi2 : i < 3 := hi
      rw [← hW]
      match i, hi2 with
      | 0, _ => simp [go_sem]; rfl
      | 1, _ => simp [go_sem]; rfl
      | 2, _ => simp [go_sem]; rfl
  have hX : W.heap[w.heap.size + 1 + 1]? = some (.cells #[.int .i64 2, .slice (some ⟨w.heap.size, 0, none⟩) 2 2, .slice (some ⟨w.heap.size + 1, 0, none⟩) 3 3, .slice none 0 0] 26) := by
    rw [← hW]
    have := box_heap ((w.alloc (.cells #[.int .u32 1065353216, .int .u32 0] 31)).alloc (.cells #[.int .i64 1, .int .i64 4, .int .i64 2] 3)) (.cells #[.int .i64 2, .slice (some ⟨w.heap.size, 0, none⟩) 2 2, .slice (some ⟨w.heap.size + 1, 0, none⟩) 3 3, .slice none 0 0] 26)
    rwa [show ((w.alloc (.cells #[.int .u32 1065353216, .int .u32 0] 31)).alloc (.cells #[.int .i64 1, .int .i64 4, .int .i64 2] 3)).heap.size = w.heap.size + 1 + 1 by simp] at this
  have HX : Hid (∀ v, Below W.heap.size W v → v.cell? ⟨w.heap.size + 1 + 1, 0, none⟩ = some (.int .i64 2) ∧ v.cell? ⟨w.heap.size + 1 + 1, 1, none⟩ = some (.slice (some ⟨w.heap.size, 0, none⟩) 2 2) ∧ v.cell? ⟨w.heap.size + 1 + 1, 2, none⟩ = some (.slice (some ⟨w.heap.size + 1, 0, none⟩) 3 3) ∧ v.cell? ⟨w.heap.size + 1 + 1, 3, none⟩ = some (.slice none 0 0)) := fun v hv =>
    ⟨bcell (cell_heap hX 0) hv, bcell (cell_heap hX 1) hv, bcell (cell_heap hX 2) hv, bcell (cell_heap hX 3) hv⟩
  have HV : Hid (∀ (n : Int) v, Below W.heap.size W v → Calls Try.prog 7 #[.agg #[.int .i64 2, .slice (some ⟨w.heap.size, 0, none⟩) 2 2, .slice (some ⟨w.heap.size + 1, 0, none⟩) 3 3, .slice none 0 0], .int .i64 n] v fun e w' => e = .returned (.tuple #[.int .u32 (valueP sureT n).1, .int .i64 (valueP sureT n).2]) ∧ Below v.heap.size v w') := fun n v hv =>
    value_to sureT n _ _ _ sure_sok v (hS.below hv)
  have HV3 := HV.out 3
  have HV9 := HV.out 9
  have HVm := HV.out (-1)
  rw [sure_3] at HV3
  rw [sure_9] at HV9
  rw [sure_m] at HVm
  simp only at HV3 HV9 HVm
  have H3 : Hid (∀ v, Below W.heap.size W v → Calls Try.prog 7 #[.agg #[.int .i64 2, .slice (some ⟨w.heap.size, 0, none⟩) 2 2, .slice (some ⟨w.heap.size + 1, 0, none⟩) 3 3, .slice none 0 0], .int .i64 3] v fun e w' => e = .returned (.tuple #[.int .u32 1061158912, .int .i64 0]) ∧ Below v.heap.size v w') := HV3
  have H9 : Hid (∀ v, Below W.heap.size W v → Calls Try.prog 7 #[.agg #[.int .i64 2, .slice (some ⟨w.heap.size, 0, none⟩) 2 2, .slice (some ⟨w.heap.size + 1, 0, none⟩) 3 3, .slice none 0 0], .int .i64 9] v fun e w' => e = .returned (.tuple #[.int .u32 0, .int .i64 0]) ∧ Below v.heap.size v w') := HV9
  have Hm : Hid (∀ v, Below W.heap.size W v → Calls Try.prog 7 #[.agg #[.int .i64 2, .slice (some ⟨w.heap.size, 0, none⟩) 2 2, .slice (some ⟨w.heap.size + 1, 0, none⟩) 3 3, .slice none 0 0], .int .i64 (-1)] v fun e w' => e = .returned (.tuple #[.int .u32 0, .int .i64 1]) ∧ Below v.heap.size v w') := HVm
  have HW : Hid (∀ v : World, Calls Try.prog 9 #[.int .u32 1048576000] v fun e w' => e = .returned (.int .u32 1060439284) ∧ Below v.heap.size v w') := fun v => by
    have := wave_any 1048576000 ⟨by decide, by decide⟩ v
    rw [sure_w] at this; exact this
  have HB0 : Hid (Below w.heap.size w W) := hB
  have hb0 : Below W.heap.size W W := bel0 W
  obtain ⟨x0, x1, x2, x3⟩ := HX.out W hb0
  have HWE : Hid (((w.alloc (.cells #[.int .u32 1065353216, .int .u32 0] 31)).alloc (.cells #[.int .i64 1, .int .i64 4, .int .i64 2] 3)).alloc (.cells #[.int .i64 2, .slice (some ⟨w.heap.size, 0, none⟩) 2 2, .slice (some ⟨w.heap.size + 1, 0, none⟩) 3 3, .slice none 0 0] 26) = W) := hW
  clear hS hX HV HV3 HV9 HVm hB hW x0 x1 x2 x3
  go_enter Try.func5, Try.ntmps5
  go_wp2_with (first
    | (go_at_call 7; rw [HWE.out]; (with_reducible refine (H3.out _ hb0).mono ?_); rintro e w1 ⟨rfl, hb1⟩; obtain ⟨x0, x1, x2, x3⟩ := HX.out w1 hb1)
    | (go_at_call 7; (with_reducible refine (H9.out _ hb1).mono ?_); rintro e w2 ⟨rfl, hb2⟩; have hb2 := bel hb1 hb2; obtain ⟨x0, x1, x2, x3⟩ := HX.out w2 hb2)
    | (go_at_call 7; (with_reducible refine (Hm.out _ hb2).mono ?_); rintro e w3 ⟨rfl, hb3⟩; have hb3 := bel hb2 hb3)
    | (go_at_call 9; (with_reducible refine (HW.out _).mono ?_); rintro e w4 ⟨rfl, hb4⟩))
  go_ret
  exact ⟨rfl, bel HB0.out (bel hb3 hb4)⟩

theorem scntL_take {l : List Sc} {j : Nat} (hj : j < l.length) : scntL (l.take (j + 1)) = scntL (l.take j) + scnt l[j] := by
  induction l generalizing j with
  | nil => exact absurd hj (Nat.not_lt_zero _)
  | cons t r ih =>
    cases j with
    | zero => simp [scntL_cons, scntL_nil]
    | succ j =>
      simp only [List.take_succ_cons, scntL_cons, List.getElem_cons_succ]
      rw [ih (by simpa using hj)]
      omega
theorem scntL_take_le (l : List Sc) (j : Nat) : scntL (l.take j) ≤ scntL l := by
  induction l generalizing j with
  | nil => simp [scntL_nil]
  | cons t r ih =>
    cases j with
    | zero => simp [scntL_nil]
    | succ j => simp only [List.take_succ_cons, scntL_cons]; have := ih j; omega

def CountA (t : Sc) : Prop := ∀ (m : Nat) (a c d : Value) (w : World), m ≤ 9000 → sok t → SV w t a c d →
  Calls Try.prog 8 #[.agg #[.int .i64 t.op, a, c, d], .int .i64 m] w fun e w' => e = .returned (.int .i64 (min (scnt t) (m + 1) : Nat)) ∧ Below w.heap.size w w'
set_option maxRecDepth 100000 in
set_option maxHeartbeats 2000000 in
theorem countA_to : ∀ t, CountA t := by
  apply stree
  intro t ih m a c d w hm hok hS
  have HIH : Hid (∀ k ∈ t.kids, CountA k) := ih
  have HOK : Hid (sok t) := hok
  have hbox := hS.box
  have hb0 := bel_alloc w (.cells #[.int .i64 t.op, a, c, d] 26)
  obtain ⟨pk, ck, rfl, hk⟩ := hS.kids
  have HK : Hid (t.kids = [] ∨ ∃ b o, pk = some ⟨b, o, none⟩ ∧ SL w b o t.kids) := hk
  have hx := box_heap w (.cells #[.int .i64 t.op, a, c, .slice pk t.kids.length ck] 26)
  obtain ⟨n, hn⟩ : ∃ n, t.kids.length = n := ⟨_, rfl⟩
  have HN : Hid (t.kids.length = n) := hn
  rw [hn] at hb0 hx ⊢
  obtain ⟨W, hW⟩ : ∃ W, w.alloc (.cells #[.int .i64 t.op, a, c, .slice pk n ck] 26) = W := ⟨_, rfl⟩
  rw [hW] at hb0 hx
  have HX : Hid (W.cell? ⟨w.heap.size, 3, none⟩ = some (.slice pk n ck)) := cell_heap hx 3
  have HB0 : Hid (Below w.heap.size w W) := hb0
  obtain ⟨D, hD⟩ : ∃ D, min (scnt t) (m + 1) = D := ⟨_, rfl⟩
  have HD : Hid (min (1 + scntL t.kids) (m + 1) = D) := hD
  rw [hD]
  clear hn hk ih hD hS hbox hx hb0 hok
  go_enter Try.func8, Try.ntmps8
  go_wp2
  go_loopw [5, 6] (fun kv iv wr => Below W.heap.size W wr ∧ ∃ (j k : Nat), j ≤ n ∧ iv = .int .i64 j ∧ kv = .int .i64 k ∧ j + 1 ≤ k ∧ k ≤ m + 1 ∧ Hid (k = min (1 + scntL (t.kids.take j)) (m + 1))) (fun _ iv _ => n - (intOf iv).toNat)
  case atStart => exact ⟨bel0 W, 0, 1, Nat.zero_le _, rfl, rfl, Nat.le_refl _, by omega, (by show 1 = _; rw [List.take_zero, scntL_nil]; omega)⟩
  case round =>
    obtain ⟨hb, j, k, hj, rfl, rfl, hjk, hkm, HS⟩ := hrel
    have h5 := bcell HX.out hb
    by_cases hlt0 : j < n
    · have hll : j < t.kids.length := by rw [HN.out]; exact hlt0
      have j1 : (j : Int) < (n : Int) := by omega
      by_cases hkl : k ≤ m
      · have k1 : (k : Int) ≤ (m : Int) := by omega
        obtain ⟨b1, o1, rfl, hsl⟩ : ∃ b o, pk = some ⟨b, o, none⟩ ∧ SL w b o t.kids := by
          rcases HK.out with h | h
          · rw [h] at hll; exact absurd hll (Nat.not_lt_zero _)
          · exact h
        obtain ⟨a1, a2, a3, x0, x1, x2, x3, hv⟩ := ((SL_get hsl hll).below (bel HB0.out hb)).val
        have hcl := HIH.out t.kids[j] (List.getElem_mem hll) (m - k) a1 a2 a3 wr (by omega) (sok_kid HOK.out hll) hv
        have hct := scntL_take hll
        obtain ⟨C, hC⟩ : ∃ C, min (scnt t.kids[j]) (m - k + 1) = C := ⟨_, rfl⟩
        have hC1 : 1 ≤ C := by rw [← hC]; have : 1 ≤ scnt t.kids[j] := (by unfold scnt; omega); omega
        have hC2 : k + C ≤ m + 1 := by rw [← hC]; omega
        have HS2 : Hid (k + C = min (1 + scntL (t.kids.take (j + 1))) (m + 1)) := by
          show _ = _
          have := HS.out
          rw [hct, ← hC]
          omega
        rw [hC] at hcl
        have hmk : ((m - k : Nat) : Int) = (m : Int) - (k : Int) := by omega
        rw [hmk] at hcl
        have HW : Hid (Calls Try.prog 8 #[.agg #[.int .i64 t.kids[j].op, a1, a2, a3], .int .i64 ((m : Int) - (k : Int))] wr fun e v' => e = .returned (.int .i64 (C : Nat)) ∧ Below wr.heap.size wr v') := hcl
        have w1 : IntKind.i64.wrap ((m : Int) - (k : Int)) = (m : Int) - (k : Int) := by rw [IntKind.wrap_i64]; omega
        have w2 : IntKind.i64.wrap ((k : Int) + (C : Int)) = (k : Int) + (C : Int) := by rw [IntKind.wrap_i64]; omega
        have i1 : (0 : Int) ≤ (j : Int) := by omega
        clear hcl hv HIH HS hC hmk hct hsl HK
        go_wp2_with (go_at_call 8; (with_reducible refine HW.out.mono ?_); rintro e w3 ⟨rfl, hb3⟩)
        go_roundw
        case rel => exact ⟨bel hb hb3, j + 1, k + C, by omega, by go_num, by go_num, by omega, by omega, HS2.out⟩
        case measure => simp [intOf]; omega
      · have k1 : ¬ (k : Int) ≤ (m : Int) := by omega
        have HE : Hid ((k : Int) = (D : Int)) := by
          show (k : Int) = D
          have h1 := HS.out
          have h2 := HD.out
          have h3 := scntL_take_le t.kids j
          omega
        clear HS HIH HD HK
        go_wp2
        go_ret
        exact ⟨ret_int HE.out, bel HB0.out hb⟩
    · have : j = n := by omega
      subst this
      have HE : Hid ((k : Int) = (D : Int)) := by
        show (k : Int) = D
        have h1 := HS.out
        have h2 := HD.out
        rw [List.take_of_length_le (by rw [HN.out]; exact Nat.le_refl _)] at h1
        omega
      clear HS HIH HD HK
      go_wp2
      go_ret
      exact ⟨ret_int HE.out, bel HB0.out hb⟩

set_option maxRecDepth 100000 in
set_option maxHeartbeats 1000000 in
theorem great_any (t : Sc) (a c d : Value) (w : World) (hok : sok t) (hS : SV w t a c d) :
    Calls Try.prog 4 #[.agg #[.int .i64 t.op, a, c, d]] w fun e w' => e = .returned (.bool (decide (9000 < scnt t))) ∧ Below w.heap.size w w' := by
  have hbx := box_heap w (.cells #[.int .i64 t.op, a, c, d] 26)
  have hb0 := bel_alloc w (.cells #[.int .i64 t.op, a, c, d] 26)
  obtain ⟨W, hW⟩ : ∃ W, w.alloc (.cells #[.int .i64 t.op, a, c, d] 26) = W := ⟨_, rfl⟩
  rw [hW] at hbx hb0
  have hcl := countA_to t 9000 a c d W (Nat.le_refl _) hok (hS.below hb0)
  obtain ⟨C, hC⟩ : ∃ C, min (scnt t) (9000 + 1) = C := ⟨_, rfl⟩
  rw [hC] at hcl
  have HC : Hid (decide ((9000 : Int) < (C : Int)) = decide (9000 < scnt t)) := by
    show _ = _
    rw [decide_eq_decide]
    omega
  have HW : Hid (Calls Try.prog 8 #[.agg #[.int .i64 t.op, a, c, d], .int .i64 9000] W fun e v' => e = .returned (.int .i64 (C : Nat)) ∧ Below W.heap.size W v') := hcl
  have g0 := cell_heap hbx 0
  have g1 := cell_heap hbx 1
  have g2 := cell_heap hbx 2
  have g3 := cell_heap hbx 3
  rw [← HC.out]
  clear hcl hC hS hbx HC
  go_enter Try.func4, Try.ntmps4
  go_wp2_with (go_at_call 8; (with_reducible refine HW.out.mono ?_); rintro e w3 ⟨rfl, hb3⟩)
  go_ret
  exact ⟨rfl, bel hb0 hb3⟩

end Go.Proofs.Ytnogokikiekcbab
