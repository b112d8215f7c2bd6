import Derived.Test.YtnogokikiekcbabSchTwin
import Derived.Test.YtnogokikiekcbabSchOnesP
import Derived.Test.YtnogokikiekcbabSchOpen
/- The statement SchedOnes: its walk. -/
namespace Go.Proofs.Ytnogokikiekcbab
open Go.RowKit
set_option linter.unusedVariables false
set_option linter.unusedSimpArgs false

theorem pat_valueO {t : Sc} (h : sok t) (n : Int) : Pat (valueP t n).1 := by
  unfold valueP
  split
  · rename_i hc; exact pat_val t h (okS_all hc.2) n
  · exact pat_0
theorem onesL_ge {l : List Int} {j : Nat} (h : l.length ≤ j) : onesL l j = onesL l l.length := by
  unfold onesL
  apply List.map_congr_left
  intro i hi
  have := List.mem_range.1 hi
  by_cases c : 1 ≤ i
  · rw [if_pos ⟨c, by omega⟩, if_pos ⟨c, by omega⟩]
  · rw [if_neg (by omega), if_neg (by omega)]
theorem ones_sokj {t : Sc} (h : sok t) (j : Nat) : sok ⟨t.op, onesL t.nums j, t.ints, t.kids⟩ := by
  refine ⟨⟨h.1.1, fun x hx => ?_, h.1.2.2.1, by show (onesL _ _).length ≤ _; rw [onesL_len]; exact h.1.2.2.2.1, h.1.2.2.2.2.1, h.1.2.2.2.2.2⟩, h.2⟩
  rcases onesL_mem hx with rfl | hx
  · decide
  · exact h.1.2.1 x hx
/-- Behind the loop: what is left of the walk, whatever the twin has become. -/
theorem ones_below {W x y : World} {g j : Nat} {v : Value} (h : Below W.heap.size W x) (hg : W.heap.size ≤ g) : Below W.heap.size W (x.setCell ⟨g, j, none⟩ v) := h.setCell hg v

set_option maxRecDepth 100000 in
set_option maxHeartbeats 8000000 in
theorem walk_SchedOnes (t : Sc) (a c d : Value) (hok : sok t) (n : Int) (hn : -9223372036854775808 ≤ n ∧ n ≤ 9223372036854775807) (w : World) (hS : SV w t a c d) :
    Calls Try.prog 3 #[.agg #[.int .i64 t.op, a, c, d], .int .i64 n] w fun e w' => e = .returned (.bool true) ∧ Below w.heap.size w w' := by
  have hx := box_heap w (.cells #[.int .i64 t.op, a, c, d] 26)
  have hb0 := bel_alloc w (.cells #[.int .i64 t.op, a, c, d] 26)
  obtain ⟨W, hW⟩ : ∃ W, w.alloc (.cells #[.int .i64 t.op, a, c, d] 26) = W := ⟨_, rfl⟩
  rw [hW] at hx hb0
  have hsW : W.heap.size = w.heap.size + 1 := by rw [← hW]; simp
  have hSW := hS.below hb0
  have HX : Hid (∀ v, Below W.heap.size W v → v.cell? ⟨w.heap.size, 0, none⟩ = some (.int .i64 t.op) ∧ v.cell? ⟨w.heap.size, 1, none⟩ = some a ∧ v.cell? ⟨w.heap.size, 2, none⟩ = some c ∧ v.cell? ⟨w.heap.size, 3, none⟩ = some d) := fun v hv =>
    ⟨bcell (cell_heap hx 0) hv, bcell (cell_heap hx 1) hv, bcell (cell_heap hx 2) hv, bcell (cell_heap hx 3) hv⟩
  have HB0 : Hid (Below w.heap.size w W) := hb0
  obtain ⟨gr, hg⟩ : ∃ g, decide (9000 < scnt t) = g := ⟨_, rfl⟩
  have HG : Hid (∀ v, Below W.heap.size W v → Calls Try.prog 4 #[.agg #[.int .i64 t.op, a, c, d]] v fun e w' => e = .returned (.bool gr) ∧ Below v.heap.size v w') := fun v hv => by rw [← hg]; exact great_any t a c d v hok (hSW.below hv)
  obtain ⟨x0, x1, x2, x3⟩ := HX.out W (bel0 W)
  have HWK : Hid (∀ v : World, Calls Try.prog 5 #[] v fun e w' => e = .returned (.bool true) ∧ Below v.heap.size v w') := works_any14
  have hbW : Below W.heap.size W W := bel0 W
  cases gr
  rotate_left 1
  · clear hS hSW hx hb0 hg
    go_enter Try.func3, Try.ntmps3
    go_wp2_with (first
      | (go_at_call 4; (with_reducible refine (HG.out _ hbW).mono ?_); rintro e w1 ⟨rfl, hb1⟩)
      | (go_at_call 5; (with_reducible refine (HWK.out _).mono ?_); rintro e w2 ⟨rfl, hb2⟩))
    go_ret
    exact ⟨rfl, bel HB0.out (bel hb1 hb2)⟩
  have hcnt : scnt t ≤ 9000 := by simpa using hg
  have HTW : Hid (∀ v, Below W.heap.size W v → Calls Try.prog 6 #[.agg #[.int .i64 t.op, a, c, d]] v fun e w' => ∃ g a' c' d', e = .returned (.agg #[.int .i64 t.op, a', c', d']) ∧ v.heap.size ≤ g ∧ g < w'.heap.size ∧ OwnB w' g 31 .u32 a' t.nums ∧ RowP (blk v.heap.size w'.heap.size (some g)) w' .i64 c' t.ints ∧ SKp (blk v.heap.size w'.heap.size (some g)) w' d' t.kids ∧ Below v.heap.size v w') := fun v hv => twin_to t a c d v hcnt hok (hSW.below hv)
  have h01 := valueP_01O t n
  have hpv := pat_valueO hok n
  have HVO : Hid ((valueP t n).2 = 0 → isCnt n = true ∧ okS t = true ∧ (valueP t n).1 = valT t n) := valueP_okO
  have HV : Hid (∀ v, Below W.heap.size W v → Calls Try.prog 7 #[.agg #[.int .i64 t.op, a, c, d], .int .i64 n] v fun e w' => e = .returned (.tuple #[.int .u32 (valueP t n).1, .int .i64 (valueP t n).2]) ∧ Below v.heap.size v w') := fun v hv => value_to t n a c d hok v (hSW.below hv)
  have HFIT : Hid (t.op = 5 → (valueP t n).2 = 0 → ∃ a, (∃ ss, t.nums = a :: ss) ∧ t.ints ≠ [] ∧ valueP (onesT t) n = (a, 0) ∧ ∀ b r, t.ints = b :: r → n < b → (valueP t n).1 = a) := fun h5 h0 => by
    obtain ⟨k1, k2, k3⟩ := valueP_okO h0
    rw [k3]
    exact ones_fit h5 k1 k2 hok
  obtain ⟨V, hV⟩ : ∃ V, (valueP t n).1 = V := ⟨_, rfl⟩
  obtain ⟨E, hE⟩ : ∃ E, (valueP t n).2 = E := ⟨_, rfl⟩
  rw [hV, hE] at HV HVO HFIT
  rw [hV] at hpv
  rw [hE] at h01
  obtain ⟨pn, cn, rfl, hrn⟩ := hS.nums
  obtain ⟨pi, ci, rfl, hri⟩ := hS.ints
  have HRN : Hid (t.nums = [] ∨ ∃ b o, pn = some ⟨b, o, none⟩ ∧ ∀ i (h : i < t.nums.length), w.cell? ⟨b, o + i, none⟩ = some (.int .u32 t.nums[i])) := hrn
  have HRI : Hid (t.ints = [] ∨ ∃ b o, pi = some ⟨b, o, none⟩ ∧ ∀ i (h : i < t.ints.length), w.cell? ⟨b, o + i, none⟩ = some (.int .i64 t.ints[i])) := hri
  have HOK : Hid (sok t) := hok
  obtain ⟨N, hN⟩ : ∃ N, t.nums.length = N := ⟨_, rfl⟩
  have HN : Hid (t.nums.length = N) := hN
  have hNl : N ≤ 35184372087808 := by rw [← hN]; exact hok.1.2.2.2.1
  obtain ⟨IL, hIL⟩ : ∃ N, t.ints.length = N := ⟨_, rfl⟩
  have HIL : Hid (t.ints.length = IL) := hIL
  rw [hN, hIL] at HX HG HTW HV
  rw [hN] at x1
  rw [hIL] at x2
  have HsW : Hid (W.heap.size = w.heap.size + 1) := hsW
  rw [hN, hIL] at hW ⊢
  clear hS hSW hx hb0 hg hV hE hrn hri hok hcnt hN hIL hsW
  go_enter Try.func3, Try.ntmps3
  go_wp2_with (first
      | (go_at_call 4; (with_reducible refine (HG.out _ hbW).mono ?_); rintro e w1 ⟨rfl, hb1⟩; obtain ⟨x0, x1, x2, x3⟩ := HX.out w1 hb1; clear hbW)
      | (go_at_call 6; (with_reducible refine (HTW.out _ hb1).mono ?_); rintro e w2 ⟨g, a', c', d', rfl, hg2, hgl, ho2, hi2, hk2, hb2⟩; obtain ⟨pa, ca, rfl, hpa⟩ := ho2.form2; obtain ⟨pc, cc, rfl, -⟩ := id hi2; obtain ⟨pd, cd, rfl, -⟩ := id hk2; rw [HN.out]))
  rw [HN.out] at ho2
  obtain ⟨IC, hIC⟩ : ∃ x, t.ints.length = x := ⟨_, rfl⟩
  obtain ⟨KC, hKC⟩ : ∃ x, t.kids.length = x := ⟨_, rfl⟩
  rw [hIC] at hi2 ⊢
  rw [hKC] at hk2 ⊢
  have hx3 := box_heap w2 (.cells #[.int .i64 t.op, .slice pa N ca, .slice pc IC cc, .slice pd KC cd] 26)
  have hb3 := bel_alloc w2 (.cells #[.int .i64 t.op, .slice pa N ca, .slice pc IC cc, .slice pd KC cd] 26)
  obtain ⟨w3, hw3⟩ : ∃ w3, w2.alloc (.cells #[.int .i64 t.op, .slice pa N ca, .slice pc IC cc, .slice pd KC cd] 26) = w3 := ⟨_, rfl⟩
  obtain ⟨G, hG⟩ : ∃ G, w2.heap.size = G := ⟨_, rfl⟩
  rw [hw3] at hx3 hb3 ⊢
  rw [hG] at hx3 hgl ⊢
  have ho3 : OwnB w3 g 31 .u32 (.slice pa N ca) t.nums := ho2.to (hb3.block g (by omega))
  have hi3 : RowP (fun b => W.heap.size ≤ b ∧ b ≠ g) w3 .i64 (.slice pc IC cc) t.ints := hi2.to (fun b hb => hb3.block b hb.2.1) (fun b hb => ⟨Nat.le_trans hb1.size hb.1, fun e => hb.2.2 (by rw [e])⟩)
  have hk3 : SKp (fun b => W.heap.size ≤ b ∧ b ≠ g) w3 (.slice pd KC cd) t.kids := hk2.to (fun b hb => hb3.block b hb.2.1) (fun b hb => ⟨Nat.le_trans hb1.size hb.1, fun e => hb.2.2 (by rw [e])⟩)
  have hgW : W.heap.size ≤ g := Nat.le_trans hb1.size hg2
  have hB3 : Below W.heap.size W w3 := bel (bel hb1 hb2) hb3
  have HI3 : Hid (RowP (fun b => W.heap.size ≤ b ∧ b ≠ g) w3 .i64 (.slice pc IC cc) t.ints) := hi3
  have HK3 : Hid (SKp (fun b => W.heap.size ≤ b ∧ b ≠ g) w3 (.slice pd KC cd) t.kids) := hk3
  have HT3 : Hid (w3.heap[G]? = some (.cells #[.int .i64 t.op, .slice pa N ca, .slice pc IC cc, .slice pd KC cd] 26)) := hx3
  have HGW : Hid (W.heap.size ≤ g ∧ g ≠ G) := ⟨hgW, by omega⟩
  have HO3 : Hid (OwnB w3 g 31 .u32 (.slice pa N ca) t.nums) := ho3
  have HPA : Hid (t.nums ≠ [] → pa = some ⟨g, 0, none⟩) := hpa
  have HB3 : Hid (Below W.heap.size W w3) := hB3
  clear ho2 hi2 hk2 ho3 hi3 hk3 hx3 hb3 hw3 hG hgl hg2 hb1 hb2 hgW hpa hIC hKC x0 x1 x2 x3 HG HTW hB3
  go_loopw [6] (fun iv wr => Below W.heap.size W wr ∧ ∃ j : Nat, iv = .int .i64 j ∧ 1 ≤ j ∧ (j = 1 ∨ j ≤ N) ∧ Hid (OwnB wr g 31 .u32 (.slice pa N ca) (onesL t.nums j) ∧ (∀ b, b ≠ g → wr.heap[b]? = w3.heap[b]?) ∧ (t.op = 5 ∨ j = 1))) (fun iv _ => N + 1 - (intOf iv).toNat)
  case atStart => exact ⟨HB3.out, 1, rfl, Nat.le_refl _, .inl rfl, ⟨by rw [onesL_one]; exact HO3.out, fun _ _ => rfl, .inr rfl⟩⟩
  case round =>
    obtain ⟨hb, j, rfl, hj1, hjN, HS⟩ := hrel
    have ht := (HS.out.2.1 G (fun e => HGW.out.2 e.symm)).trans HT3.out
    obtain ⟨⟨t0, t1, t2, t3⟩, -⟩ := four ht
    obtain ⟨x0, x1, x2, x3⟩ := HX.out wr hb
    have HTR : Hid (wr.heap[G]? = some (.cells #[.int .i64 t.op, .slice pa N ca, .slice pc IC cc, .slice pd KC cd] 26)) := ht
    clear ht
    have i1 : (0 : Int) ≤ (j : Int) := by omega
    by_cases hgo : j < N ∧ t.op = 5
    · obtain ⟨hlt0, h5⟩ := hgo
      have hne : t.nums ≠ [] := fun e => by have := HN.out; rw [e] at this; simp at this; omega
      have hpa := HPA.out hne
      subst hpa
      have z5 : (t.op == 5) = true := by simpa using h5
      have i2 : (j : Int) < (N : Int) := by omega
      have hcell : wr.cell? ⟨g, j, none⟩ = some (.int .u32 ((onesL t.nums j).getD j 0)) ∧ wr.frozen? ⟨g, j, none⟩ = false := by
        rcases HS.out.1 with ⟨h, -⟩ | ⟨_, cap, cur, _, hg, hs, hc⟩
        · have := onesL_len t.nums j; rw [h] at this; have h2 := HN.out; simp at this; omega
        · have hjl : j < (onesL t.nums j).length := by rw [onesL_len, HN.out]; exact hlt0
          refine ⟨?_, by simp [World.frozen?, hg]⟩
          simp [World.cell?, hg, hc j hjl, hjl]
      obtain ⟨y, hy⟩ : ∃ y, (onesL t.nums j).getD j 0 = y := ⟨_, rfl⟩
      rw [hy] at hcell
      obtain ⟨c1, f1⟩ := hcell
      have HNX : Hid (OwnB (wr.setCell ⟨g, j, none⟩ (.int .u32 1065353216)) g 31 .u32 (.slice (some ⟨g, 0, none⟩) N ca) (onesL t.nums (j + 1)) ∧ (∀ b, b ≠ g → (wr.setCell ⟨g, j, none⟩ (.int .u32 1065353216)).heap[b]? = w3.heap[b]?) ∧ (t.op = 5 ∨ j + 1 = 1)) :=
        ⟨HS.out.1.put (by rw [HN.out]; exact hlt0) hj1, fun b hb => by rw [Below.heap_setCell _ _ _ _ (by exact hb)]; exact HS.out.2.1 b hb, .inl h5⟩
      have HBX : Hid (Below W.heap.size W (wr.setCell ⟨g, j, none⟩ (.int .u32 1065353216))) := hb.setCell HGW.out.1 _
      clear HS hy HRN HRI HFIT h5
      go_wp2
      go_roundw
      case rel => exact ⟨HBX.out, j + 1, by go_num, by omega, .inr (by omega), HNX.out⟩
      case measure => simp [intOf]; omega
    · have hSX : SV wr ⟨t.op, onesL t.nums j, t.ints, t.kids⟩ (.slice pa N ca) (.slice pc IC cc) (.slice pd KC cd) :=
        ⟨(HS.out.1.rowP (P := fun _ => True) fun _ => trivial).row, (HI3.out.to (Q := fun _ => True) (fun b hb => HS.out.2.1 b hb.2) (fun _ _ => trivial)).row, (HK3.out.to (Q := fun _ => True) (fun b hb => HS.out.2.1 b hb.2) (fun _ _ => trivial)).sk⟩
      have hVX := fun v (hv : Below wr.heap.size wr v) => value_to ⟨t.op, onesL t.nums j, t.ints, t.kids⟩ n _ _ _ (ones_sokj HOK.out j) v (hSX.below hv)
      simp only at hVX
      have HPX : Hid (t.op = 5 → valueP ⟨t.op, onesL t.nums j, t.ints, t.kids⟩ n = valueP (onesT t) n) := fun h5 => by
        have hNj : t.nums.length ≤ j := by rw [HN.out]; rcases Nat.lt_or_ge j N with c | c; exact absurd ⟨c, h5⟩ hgo; exact c
        rw [onesL_ge hNj]; rfl
      obtain ⟨VX, hvx⟩ : ∃ x, valueP ⟨t.op, onesL t.nums j, t.ints, t.kids⟩ n = x := ⟨_, rfl⟩
      rw [hvx] at hVX HPX
      have HVX : Hid (∀ v, Below wr.heap.size wr v → Calls Try.prog 7 #[.agg #[.int .i64 t.op, .slice pa N ca, .slice pc IC cc, .slice pd KC cd], .int .i64 n] v fun e w' => e = .returned (.tuple #[.int .u32 VX.1, .int .i64 VX.2]) ∧ Below v.heap.size v w') := hVX
      by_cases h5 : t.op = 5
      rotate_left 1
      · have z5 := nbeqO h5
        clear hSX hVX hvx HS HFIT HPX HRN HRI HO3 HI3 HK3 hgo h5
        by_cases hlt0 : j < N
        · have i2 : (j : Int) < (N : Int) := by omega
          go_wp2_with (first
            | (go_at_call 7; (with_reducible refine (HV.out _ hb).mono ?_); rintro e w4 ⟨rfl, hb4⟩; have hb4' := bel hb hb4; obtain ⟨x0, x1, x2, x3⟩ := HX.out w4 hb4'; have t0 := bcell t0 hb4; have t1 := bcell t1 hb4; have t2 := bcell t2 hb4; have t3 := bcell t3 hb4; clear HV)
            | (go_at_call 7; (with_reducible refine (HVX.out _ hb4).mono ?_); rintro e w5 ⟨rfl, hb5⟩; have hb5' := bel hb4' hb5; obtain ⟨x0, x1, x2, x3⟩ := HX.out w5 hb5')
            | (go_at_call 5; (with_reducible refine (HWK.out _).mono ?_); rintro e w6 ⟨rfl, hb6⟩))
          all_goals go_ret
          all_goals exact ⟨rfl, bel HB0.out (bel hb5' hb6)⟩
        · have i2 : ¬ (j : Int) < (N : Int) := by omega
          go_wp2_with (first
            | (go_at_call 7; (with_reducible refine (HV.out _ hb).mono ?_); rintro e w4 ⟨rfl, hb4⟩; have hb4' := bel hb hb4; obtain ⟨x0, x1, x2, x3⟩ := HX.out w4 hb4'; have t0 := bcell t0 hb4; have t1 := bcell t1 hb4; have t2 := bcell t2 hb4; have t3 := bcell t3 hb4; clear HV)
            | (go_at_call 7; (with_reducible refine (HVX.out _ hb4).mono ?_); rintro e w5 ⟨rfl, hb5⟩; have hb5' := bel hb4' hb5; obtain ⟨x0, x1, x2, x3⟩ := HX.out w5 hb5')
            | (go_at_call 5; (with_reducible refine (HWK.out _).mono ?_); rintro e w6 ⟨rfl, hb6⟩))
          all_goals go_ret
          all_goals exact ⟨rfl, bel HB0.out (bel hb5' hb6)⟩
      · have z5 : (t.op == 5) = true := by simpa using h5
        have z5n : (t.op != 5) = false := by simp [h5]
        have hlt0 : ¬ (j : Int) < (N : Int) := fun h => hgo ⟨by omega, h5⟩
        have hpx := HPX.out h5
        clear hSX hVX hvx HS HO3 HI3 HK3 hgo HPX
        rcases h01 with h01 | h01
        rotate_left 1
        · subst h01
          clear HFIT HRN HRI hpx h5
          go_wp2_with (first
            | (go_at_call 7; (with_reducible refine (HV.out _ hb).mono ?_); rintro e w4 ⟨rfl, hb4⟩; have hb4' := bel hb hb4; obtain ⟨x0, x1, x2, x3⟩ := HX.out w4 hb4'; have t0 := bcell t0 hb4; have t1 := bcell t1 hb4; have t2 := bcell t2 hb4; have t3 := bcell t3 hb4; clear HV)
            | (go_at_call 7; (with_reducible refine (HVX.out _ hb4).mono ?_); rintro e w5 ⟨rfl, hb5⟩; have hb5' := bel hb4' hb5; obtain ⟨x0, x1, x2, x3⟩ := HX.out w5 hb5')
            | (go_at_call 5; (with_reducible refine (HWK.out _).mono ?_); rintro e w6 ⟨rfl, hb6⟩))
          all_goals go_ret
          all_goals exact ⟨rfl, bel HB0.out (bel hb5' hb6)⟩
        · subst h01
          obtain ⟨a0, ⟨ss, hns⟩, hine, hval, hbeg⟩ := HFIT.out h5 rfl
          rw [hval] at hpx
          subst hpx
          obtain ⟨bn, on, rfl, hcn⟩ : ∃ b o, pn = some ⟨b, o, none⟩ ∧ w.cell? ⟨b, o, none⟩ = some (.int .u32 a0) := by
            rcases HRN.out with h | ⟨b, o, e, h⟩
            · rw [hns] at h; cases h
            · have h0 := h 0 (by rw [hns]; simp)
              simp only [hns, List.getElem_cons_zero, Nat.add_zero] at h0
              exact ⟨b, o, e, h0⟩
          obtain ⟨i0, r0, hi0⟩ : ∃ b r, t.ints = b :: r := by
            cases h : t.ints with
            | nil => exact absurd h hine
            | cons b r => exact ⟨b, r, rfl⟩
          obtain ⟨bi, oi, rfl, hci⟩ : ∃ b o, pi = some ⟨b, o, none⟩ ∧ w.cell? ⟨b, o, none⟩ = some (.int .i64 i0) := by
            rcases HRI.out with h | ⟨b, o, e, h⟩
            · exact absurd h hine
            · have h0 := h 0 (by rw [hi0]; simp)
              simp only [hi0, List.getElem_cons_zero, Nat.add_zero] at h0
              exact ⟨b, o, e, h0⟩
          have hN1 : (0 : Int) < (N : Int) := by have := HN.out; rw [hns] at this; simp at this; omega
          have hI1 : (0 : Int) < (IL : Int) := by have := HIL.out; rw [hi0] at this; simp at this; omega
          have hbg := hbeg i0 r0 hi0
          have HCN : Hid (∀ v, Below W.heap.size W v → v.cell? ⟨bn, on, none⟩ = some (.int .u32 a0) ∧ v.cell? ⟨bi, oi, none⟩ = some (.int .i64 i0)) := fun v hv => ⟨bcell hcn (bel HB0.out hv), bcell hci (bel HB0.out hv)⟩
          clear HRN HRI HFIT hbeg hval hns hi0 hine hcn hci h5
          by_cases hnb : n < i0
          · obtain rfl := hbg hnb
            have hnb' : ¬ i0 ≤ n := by omega
            go_wp2_with (first
              | (go_at_call 7; (with_reducible refine (HV.out _ hb).mono ?_); rintro e w4 ⟨rfl, hb4⟩; have hb4' := bel hb hb4; obtain ⟨x0, x1, x2, x3⟩ := HX.out w4 hb4'; have t0 := bcell t0 hb4; have t1 := bcell t1 hb4; have t2 := bcell t2 hb4; have t3 := bcell t3 hb4; clear HV)
              | (go_at_call 7; (with_reducible refine (HVX.out _ hb4).mono ?_); rintro e w5 ⟨rfl, hb5⟩; have hb5' := bel hb4' hb5; obtain ⟨x0, x1, x2, x3⟩ := HX.out w5 hb5'; obtain ⟨k1, k2⟩ := HCN.out w5 hb5')
              | (go_at_call 5; (with_reducible refine (HWK.out _).mono ?_); rintro e w6 ⟨rfl, hb6⟩))
            all_goals go_ret
            all_goals exact ⟨rfl, bel HB0.out (bel hb5' hb6)⟩
          · have hnb' : i0 ≤ n := by omega
            clear hbg
            go_wp2_with (first
              | (go_at_call 7; (with_reducible refine (HV.out _ hb).mono ?_); rintro e w4 ⟨rfl, hb4⟩; have hb4' := bel hb hb4; obtain ⟨x0, x1, x2, x3⟩ := HX.out w4 hb4'; have t0 := bcell t0 hb4; have t1 := bcell t1 hb4; have t2 := bcell t2 hb4; have t3 := bcell t3 hb4; clear HV)
              | (go_at_call 7; (with_reducible refine (HVX.out _ hb4).mono ?_); rintro e w5 ⟨rfl, hb5⟩; have hb5' := bel hb4' hb5; obtain ⟨x0, x1, x2, x3⟩ := HX.out w5 hb5'; obtain ⟨k1, k2⟩ := HCN.out w5 hb5')
              | (go_at_call 5; (with_reducible refine (HWK.out _).mono ?_); rintro e w6 ⟨rfl, hb6⟩))
            all_goals go_ret
            all_goals exact ⟨rfl, bel HB0.out (bel hb5' hb6)⟩

end Go.Proofs.Ytnogokikiekcbab
