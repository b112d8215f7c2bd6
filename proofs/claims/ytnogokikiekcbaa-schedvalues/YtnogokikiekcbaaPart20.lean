import Derived.Test.YtnogokikiekcbaaPart17
import Derived.Test.YtnogokikiekcbaaPart18
import Derived.Test.YtnogokikiekcbaaPart19
import Derived.Test.YtnogokikiekcbaaPart12
import Derived.Test.YtnogokikiekcbaaPart8
import Derived.Test.YtnogokikiekcbaaRows
import Derived.WalkKit
import Derived.ProofKit
import Derived.OpenShut
import Derived.JoinedCond
import Derived.Deep.Slices
import Derived.Deep.Strs
import Derived.SizedLaws
/- The reference's at, Value. -/
namespace Go.Proofs.Ytnogokikiekcbaa
open Go.RowKit
set_option linter.unusedVariables false
set_option linter.unusedSimpArgs false

theorem rat_to : ∀ t, RAtA t := by
  apply stree
  intro t ih n a c d w h0 h1 hok hall hS
  have hop := inv_op (op := t.op) (ns := t.nums) (is := t.ints) (ks := t.kids) hall.1
  have hpn : ∀ x ∈ t.nums, Pat x := hok.1.2.1
  have hsk := (sokL_iff _).1 hok.2
  have hak := (allF_iff _).1 hall.2
  have hc : t.op = 1 ∨ t.op = 2 ∨ t.op = 3 ∨ t.op = 4 ∨ t.op = 5 ∨ t.op = 6 ∨ t.op = 7 ∨ t.op = 8 ∨ t.op = 9 ∨ t.op = 10 ∨ t.op = 11 ∨ t.op = 12 ∨ t.op = 13 := by omega
  obtain ⟨op, ns, is, ks⟩ := t
  simp only at hc hpn hsk hak
  have hf := hall.1
  rcases hc with rfl | rfl | rfl | rfl | rfl | rfl | rfl | rfl | rfl | rfl | rfl | rfl | rfl
  · obtain ⟨x, rfl, rfl, rfl⟩ := inv_1 hf
    exact rat_1 _ rfl n h0 h1 a c d hok (by simp) x rfl w hS
  · obtain ⟨x, y, p, s, g, rfl, rfl, rfl, hp, hs, hg⟩ := inv_2 hf
    exact rat_2 _ rfl n h0 h1 a c d hok (by simp) x y p s g rfl rfl (hpn x (by simp)) (hpn y (by simp)) hp hs hg w hS
  · obtain ⟨x, y, s, g, rfl, rfl, rfl, hs, hg⟩ := inv_3 hf
    exact rat_3 _ rfl n h0 h1 a c d hok (by simp) x y s g rfl rfl (hpn x (by simp)) (hpn y (by simp)) hs hg w hS
  · obtain ⟨x, y, s, rfl, rfl, rfl, hs⟩ := inv_4 hf
    exact rat_4 _ rfl n h0 h1 a c d hok (by simp) x y s rfl rfl (hpn x (by simp)) (hpn y (by simp)) hs w hS
  · obtain ⟨x, ss, rfl, hl, rfl, hr, -⟩ := inv_5 hf
    have hlen := risesA_len is 0 hr (by decide)
    have := rat_5 ⟨5, x :: ss, is, []⟩ rfl n h0 h1 a c d hok (by simp only [List.length_cons]; omega) x ss rfl hl hr (hpn x (by simp)) (fun y hy => hpn y (by simp [hy])) w hS
    show Calls Try.prog 31 _ w fun e w' => e = .returned (.int .i64 (pieceV n x is ss)) ∧ Below w.heap.size w w'
    rw [piece_take n is ss x hl]
    exact this
  · obtain ⟨rfl, hl, hr, -⟩ := inv_6 hf
    exact rat_6 ⟨6, [], is, ks⟩ rfl n h0 h1 a c d hok (by simp) hr hl hall.2 ih w hS
  · obtain ⟨x, s, rfl, rfl, rfl, hs⟩ := inv_7 hf
    exact rat_7 _ rfl n h0 h1 a c d hok (by simp) x s rfl rfl (hpn x (by simp)) hs w hS
  · obtain ⟨k, l, rfl, rfl, rfl⟩ := inv_8 hf
    rw [vt_8]
    exact rat_8 _ rfl n h0 h1 a c d hok (by simp) k l rfl (ih k (by simp)) (ih l (by simp)) (hsk k (by simp)) (hsk l (by simp)) (hak k (by simp)) (hak l (by simp)) w hS
  · obtain ⟨k, l, rfl, rfl, rfl⟩ := inv_9 hf
    rw [vt_9]
    exact rat_9 _ rfl n h0 h1 a c d hok (by simp) k l rfl (ih k (by simp)) (ih l (by simp)) (hsk k (by simp)) (hsk l (by simp)) (hak k (by simp)) (hak l (by simp)) w hS
  · obtain ⟨k, l, rfl, rfl, rfl⟩ := inv_10 hf
    rw [vt_10]
    exact rat_10 _ rfl n h0 h1 a c d hok (by simp) k l rfl (ih k (by simp)) (ih l (by simp)) (hsk k (by simp)) (hsk l (by simp)) (hak k (by simp)) (hak l (by simp)) w hS
  · obtain ⟨k, l, rfl, rfl, rfl⟩ := inv_11 hf
    rw [vt_11]
    exact rat_11 _ rfl n h0 h1 a c d hok (by simp) k l rfl (ih k (by simp)) (ih l (by simp)) (hsk k (by simp)) (hsk l (by simp)) (hak k (by simp)) (hak l (by simp)) w hS
  · obtain ⟨g, k, rfl, rfl, rfl, hg⟩ := inv_12 hf
    rw [vt_12]
    exact rat_12 _ rfl n h0 h1 a c d hok (by simp) g k rfl rfl hg (ih k (by simp)) (hsk k (by simp)) (hak k (by simp)) w hS
  · obtain ⟨g, k, rfl, rfl, rfl, hg⟩ := inv_13 hf
    rw [vt_13]
    exact rat_13 _ rfl n h0 h1 a c d hok (by simp) g k rfl rfl hg (ih k (by simp)) (hsk k (by simp)) (hak k (by simp)) w hS

set_option maxRecDepth 100000 in
set_option maxHeartbeats 1000000 in
theorem rvalue_to (t : Sc) (n : Int) (a c d : Value) (hok : sok t) (w : World) (h : SV w t a c d) :
    Calls Try.prog 13 #[.agg #[.int .i64 t.op, a, c, d], .int .i64 n] w fun e w' => e = .returned (.tuple #[.int .i64 (valueP t n).1, .int .i64 (valueP t n).2]) ∧ Below w.heap.size w w' := by
  have hb0 := bel_alloc w (.cells #[.int .i64 t.op, a, c, d] 26)
  have hx := box_heap w (.cells #[.int .i64 t.op, a, c, d] 26)
  obtain ⟨W, hW⟩ : ∃ W, w.alloc (.cells #[.int .i64 t.op, a, c, d] 26) = W := ⟨_, rfl⟩
  rw [hW] at hb0 hx
  have hSW := h.below hb0
  have HCK : Hid (∀ v, Below W.heap.size W v → Calls Try.prog 15 #[.agg #[.int .i64 t.op, a, c, d]] v fun e w' => e = .returned (.int .i64 (if okS t = true then 0 else 1)) ∧ Below v.heap.size v w') := fun v hv => rcheck_any t a c d hok v (hSW.below hv)
  have HX : Hid (∀ v, Below W.heap.size W v → v.cell? ⟨w.heap.size, 0, none⟩ = some (.int .i64 t.op) ∧ v.cell? ⟨w.heap.size, 1, none⟩ = some a ∧ v.cell? ⟨w.heap.size, 2, none⟩ = some c ∧ v.cell? ⟨w.heap.size, 3, none⟩ = some d) := fun v hv =>
    ⟨bcell (cell_heap hx 0) hv, bcell (cell_heap hx 1) hv, bcell (cell_heap hx 2) hv, bcell (cell_heap hx 3) hv⟩
  have HAT : Hid (isCnt n = true → okS t = true → ∀ v, Below W.heap.size W v → Calls Try.prog 31 #[.agg #[.int .i64 t.op, a, c, d], .int .i64 n] v fun e w' => e = .returned (.int .i64 (valT t n)) ∧ Below v.heap.size v w') := fun h1 h2 v hv =>
    rat_to t n a c d v (isCnt_iff h1).1 (isCnt_iff h1).2 hok (okS_all h2) (hSW.below hv)
  have HB0 : Hid (Below w.heap.size w W) := hb0
  have HV : Hid (valueP t n = if isCnt n = true ∧ okS t = true then (valT t n, 0) else (0, 1)) := rfl
  obtain ⟨V, hV⟩ : ∃ V, valueP t n = V := ⟨_, rfl⟩
  rw [hV] at HV ⊢
  obtain ⟨C, hC⟩ : ∃ C, isCnt n = C := ⟨_, rfl⟩
  have HI : Hid (∀ v : World, Calls Try.prog 30 #[.int .i64 n, .int .i64 0, .int .i64 2147483647] v fun e w' => e = .returned (.bool C) ∧ Below v.heap.size v w') := fun v => by rw [← hC]; exact in_any n 0 2147483647 v
  obtain ⟨K, hK⟩ : ∃ K, okS t = K := ⟨_, rfl⟩
  rw [hC, hK] at HV HAT
  rw [hK] at HCK
  have hbW : Below W.heap.size W W := bel0 W
  obtain ⟨x0, x1, x2, x3⟩ := HX.out W hbW
  clear h hSW hb0 hx hV hC hK
  cases K
  · rw [if_neg (by simp)] at HV
    obtain rfl : V = (0, 1) := HV.out
    simp only
    simp only [Bool.false_eq_true, if_false] at HCK
    go_enter Try.func13, Try.ntmps13
    go_wp2_with (go_at_call 15; (with_reducible refine (HCK.out _ hbW).mono ?_); rintro e w1 ⟨rfl, hb1⟩)
    go_returns
    exact ⟨rfl, bel HB0.out hb1⟩
  · simp only [if_true] at HCK
    cases C
    · rw [if_neg (by simp)] at HV
      obtain rfl : V = (0, 1) := HV.out
      simp only
      go_enter Try.func13, Try.ntmps13
      go_wp2_with (first
        | (go_at_call 15; (with_reducible refine (HCK.out _ hbW).mono ?_); rintro e w1 ⟨rfl, hb1⟩)
        | (go_at_call 30; (with_reducible refine (HI.out _).mono ?_); rintro e w2 ⟨rfl, hb2⟩))
      go_returns
      exact ⟨rfl, bel (bel HB0.out hb1) hb2⟩
    · rw [if_pos (by simp)] at HV
      obtain rfl : V = (valT t n, 0) := HV.out
      simp only
      have HA2 := HAT.out rfl rfl
      obtain ⟨R, hR⟩ : ∃ R, valT t n = R := ⟨_, rfl⟩
      rw [hR] at HA2 ⊢
      have HA : Hid (∀ v, Below W.heap.size W v → Calls Try.prog 31 #[.agg #[.int .i64 t.op, a, c, d], .int .i64 n] v fun e w' => e = .returned (.int .i64 R) ∧ Below v.heap.size v w') := HA2
      clear HA2 HAT HV
      go_enter Try.func13, Try.ntmps13
      go_wp2_with (first
        | (go_at_call 15; (with_reducible refine (HCK.out _ hbW).mono ?_); rintro e w1 ⟨rfl, hb1⟩)
        | (go_at_call 30; (with_reducible refine (HI.out _).mono ?_); rintro e w2 ⟨rfl, hb2⟩; have hb2 := bel hb1 hb2; obtain ⟨x0, x1, x2, x3⟩ := HX.out w2 hb2)
        | (go_at_call 31; (with_reducible refine (HA.out _ hb2).mono ?_); rintro e w3 ⟨rfl, hb3⟩))
      go_returns
      exact ⟨rfl, bel HB0.out (bel hb2 hb3)⟩

end Go.Proofs.Ytnogokikiekcbaa
/- The statements' own same. (tool/layer14/gensame.py) -/
namespace Go.Proofs.Ytnogokikiekcbaa
open Go.RowKit
set_option linter.unusedVariables false
set_option linter.unusedSimpArgs false

def SameA (t : Sc) : Prop := ∀ (a1 a2 a3 b1 b2 b3 : Value) (w : World), scnt t ≤ 9000 → sok t → SV w t a1 a2 a3 → SV w t b1 b2 b3 →
  Calls Try.prog 16 #[.agg #[.int .i64 t.op, a1, a2, a3], .agg #[.int .i64 t.op, b1, b2, b3]] w fun e w' => e = .returned (.bool true) ∧ Below w.heap.size w w'
set_option maxRecDepth 100000 in
set_option maxHeartbeats 8000000 in
theorem same_to : ∀ t, SameA t := by
  apply stree
  intro t ih a1 a2 a3 b1 b2 b3 w hcn hok hS hT
  have HIH : Hid (∀ k ∈ t.kids, SameA k) := ih
  have HOK : Hid (sok t ∧ scnt t ≤ 9000) := ⟨hok, hcn⟩
  have hx := box_heap w (.cells #[.int .i64 t.op, a1, a2, a3] 26)
  have hb0 := bel_alloc w (.cells #[.int .i64 t.op, a1, a2, a3] 26)
  have hx' := box_heap (w.alloc (.cells #[.int .i64 t.op, a1, a2, a3] 26)) (.cells #[.int .i64 t.op, b1, b2, b3] 26)
  have hb1 := bel_alloc (w.alloc (.cells #[.int .i64 t.op, a1, a2, a3] 26)) (.cells #[.int .i64 t.op, b1, b2, b3] 26)
  rw [show (w.alloc (.cells #[.int .i64 t.op, a1, a2, a3] 26)).heap.size = w.heap.size + 1 by simp] at hx'
  have hxc : ∀ i, (w.alloc (.cells #[.int .i64 t.op, a1, a2, a3] 26)).cell? ⟨w.heap.size, i, none⟩ = #[.int .i64 t.op, a1, a2, a3][i]? := fun i => cell_heap hx i
  obtain ⟨W, hW⟩ : ∃ W, (w.alloc (.cells #[.int .i64 t.op, a1, a2, a3] 26)).alloc (.cells #[.int .i64 t.op, b1, b2, b3] 26) = W := ⟨_, rfl⟩
  rw [hW] at hx' hb1
  have HX : Hid (∀ v, Below W.heap.size W v → (v.cell? ⟨w.heap.size, 0, none⟩ = some (.int .i64 t.op) ∧ v.cell? ⟨w.heap.size, 1, none⟩ = some a1 ∧ v.cell? ⟨w.heap.size, 2, none⟩ = some a2 ∧ v.cell? ⟨w.heap.size, 3, none⟩ = some a3) ∧ v.cell? ⟨w.heap.size + 1, 0, none⟩ = some (.int .i64 t.op) ∧ v.cell? ⟨w.heap.size + 1, 1, none⟩ = some b1 ∧ v.cell? ⟨w.heap.size + 1, 2, none⟩ = some b2 ∧ v.cell? ⟨w.heap.size + 1, 3, none⟩ = some b3) := fun v hv =>
    ⟨⟨bcell (hxc 0) (bel hb1 hv), bcell (hxc 1) (bel hb1 hv), bcell (hxc 2) (bel hb1 hv), bcell (hxc 3) (bel hb1 hv)⟩, bcell (cell_heap hx' 0) hv, bcell (cell_heap hx' 1) hv, bcell (cell_heap hx' 2) hv, bcell (cell_heap hx' 3) hv⟩
  have hB0 := bel hb0 hb1
  have HB0 : Hid (Below w.heap.size w W) := hB0
  have hSW := hS.below hB0
  have hTW := hT.below hB0
  obtain ⟨pa1, ca1, rfl, na⟩ := hSW.nums
  obtain ⟨pb1, cb1, rfl, nb⟩ := hTW.nums
  obtain ⟨pa2, ca2, rfl, ia⟩ := hSW.ints
  obtain ⟨pb2, cb2, rfl, ib⟩ := hTW.ints
  obtain ⟨pa3, ca3, rfl, ka⟩ := hSW.kids
  obtain ⟨pb3, cb3, rfl, kb⟩ := hTW.kids
  have HNA : Hid (t.nums = [] ∨ ∃ b o, pa1 = some ⟨b, o, none⟩ ∧ ∀ i (h : i < t.nums.length), W.cell? ⟨b, o + i, none⟩ = some (.int .u32 t.nums[i])) := na
  have HNB : Hid (t.nums = [] ∨ ∃ b o, pb1 = some ⟨b, o, none⟩ ∧ ∀ i (h : i < t.nums.length), W.cell? ⟨b, o + i, none⟩ = some (.int .u32 t.nums[i])) := nb
  have HIA : Hid (t.ints = [] ∨ ∃ b o, pa2 = some ⟨b, o, none⟩ ∧ ∀ i (h : i < t.ints.length), W.cell? ⟨b, o + i, none⟩ = some (.int .i64 t.ints[i])) := ia
  have HIB : Hid (t.ints = [] ∨ ∃ b o, pb2 = some ⟨b, o, none⟩ ∧ ∀ i (h : i < t.ints.length), W.cell? ⟨b, o + i, none⟩ = some (.int .i64 t.ints[i])) := ib
  have HKA : Hid (t.kids = [] ∨ ∃ b o, pa3 = some ⟨b, o, none⟩ ∧ SL W b o t.kids) := ka
  have HKB : Hid (t.kids = [] ∨ ∃ b o, pb3 = some ⟨b, o, none⟩ ∧ SL W b o t.kids) := kb
  obtain ⟨N, hN⟩ : ∃ N, t.nums.length = N := ⟨_, rfl⟩
  have HN : Hid (t.nums.length = N) := hN
  have hNl : N ≤ 35184372087808 := by rw [← hN]; exact hok.1.2.2.2.1
  obtain ⟨IL, hI⟩ : ∃ N, t.ints.length = N := ⟨_, rfl⟩
  have HI : Hid (t.ints.length = IL) := hI
  have hIl : IL ≤ 17592186043904 := by rw [← hI]; exact hok.1.2.2.2.2.1
  obtain ⟨KL, hK⟩ : ∃ N, t.kids.length = N := ⟨_, rfl⟩
  have HK : Hid (t.kids.length = KL) := hK
  have hKl : KL ≤ 17592186043904 := by rw [← hK]; exact hok.1.2.2.2.2.2
  rw [hN, hI, hK] at HX hW ⊢
  obtain ⟨⟨x0, x1, x2, x3⟩, y0, y1, y2, y3⟩ := HX.out W (bel0 W)
  clear hS hT hSW hTW hx hx' hxc hb0 hb1 na nb ia ib ka kb hN hI hK ih hok hcn hB0
  go_enter Try.func16, Try.ntmps16
  go_wp2
  clear x0 x1 x2 x3 y0 y1 y2 y3
  go_loopw [5] (fun iv wr => Below W.heap.size W wr ∧ ∃ j : Nat, j ≤ N ∧ iv = .int .i64 j) (fun iv _ => N - (intOf iv).toNat)
  case atStart => exact ⟨bel0 W, 0, Nat.zero_le _, rfl⟩
  case round =>
    obtain ⟨hb, j, hj, rfl⟩ := hrel
    obtain ⟨⟨x0, x1, x2, x3⟩, y0, y1, y2, y3⟩ := HX.out wr hb
    by_cases hlt0 : j < N
    · have hll : j < t.nums.length := by rw [HN.out]; exact hlt0
      obtain ⟨ba, oa, rfl, ca⟩ : ∃ b o, pa1 = some ⟨b, o, none⟩ ∧ wr.cell? ⟨b, o + j, none⟩ = some (.int .u32 t.nums[j]) := by
        rcases HNA.out with h | ⟨b, o, e, h⟩
        · rw [h] at hll; exact absurd hll (Nat.not_lt_zero _)
        · exact ⟨b, o, e, bcell (h j hll) hb⟩
      obtain ⟨bb, ob, rfl, cb⟩ : ∃ b o, pb1 = some ⟨b, o, none⟩ ∧ wr.cell? ⟨b, o + j, none⟩ = some (.int .u32 t.nums[j]) := by
        rcases HNB.out with h | ⟨b, o, e, h⟩
        · rw [h] at hll; exact absurd hll (Nat.not_lt_zero _)
        · exact ⟨b, o, e, bcell (h j hll) hb⟩
      obtain ⟨z, hz⟩ : ∃ z, t.nums[j] = z := ⟨_, rfl⟩
      rw [hz] at ca cb
      have i1 : (0 : Int) ≤ (j : Int) := by omega
      have i2 : (j : Int) < (N : Int) := by omega
      have w1 : IntKind.i64.wrap ((j : Int) + 1) = (j : Int) + 1 := by rw [IntKind.wrap_i64]; omega
      clear hz HNA HNB HIA HIB HKA HKB HIH
      go_wp2
      go_region_held3 (fun w' => w'.cell? ⟨w.heap.size, 1, none⟩ = some (.slice (some ⟨ba, oa, none⟩) N ca1) ∧ w'.cell? ⟨w.heap.size + 1, 1, none⟩ = some (.slice (some ⟨bb, ob, none⟩) N cb1) ∧ w'.cell? ⟨ba, oa + j, none⟩ = some (.int .u32 z) ∧ w'.cell? ⟨bb, ob + j, none⟩ = some (.int .u32 z)) (go_keep) (fail)
      all_goals go_wp2
      all_goals go_roundw
      case rel => exact ⟨bel hb (bel_d _), j + 1, by omega, by go_num⟩
      case measure => simp [intOf]; omega
    · have z9 : ¬ (j : Int) < (N : Int) := by omega
      clear hlt0 hj
      go_wp2
      clear z9 x0 x1 x2 x3 y0 y1 y2 y3
      rename World => Z5
      have hbz : Below W.heap.size W Z5 := hb
      clear hb
      go_loopw [6] (fun iv wr => Below W.heap.size W wr ∧ ∃ j : Nat, j ≤ IL ∧ iv = .int .i64 j) (fun iv _ => IL - (intOf iv).toNat)
      case atStart => exact ⟨hbz, 0, Nat.zero_le _, rfl⟩
      case round =>
        obtain ⟨hb, j, hj, rfl⟩ := hrel
        obtain ⟨⟨x0, x1, x2, x3⟩, y0, y1, y2, y3⟩ := HX.out wr hb
        by_cases hlt0 : j < IL
        · have hll : j < t.ints.length := by rw [HI.out]; exact hlt0
          obtain ⟨ba, oa, rfl, ca⟩ : ∃ b o, pa2 = some ⟨b, o, none⟩ ∧ wr.cell? ⟨b, o + j, none⟩ = some (.int .i64 t.ints[j]) := by
            rcases HIA.out with h | ⟨b, o, e, h⟩
            · rw [h] at hll; exact absurd hll (Nat.not_lt_zero _)
            · exact ⟨b, o, e, bcell (h j hll) hb⟩
          obtain ⟨bb, ob, rfl, cb⟩ : ∃ b o, pb2 = some ⟨b, o, none⟩ ∧ wr.cell? ⟨b, o + j, none⟩ = some (.int .i64 t.ints[j]) := by
            rcases HIB.out with h | ⟨b, o, e, h⟩
            · rw [h] at hll; exact absurd hll (Nat.not_lt_zero _)
            · exact ⟨b, o, e, bcell (h j hll) hb⟩
          obtain ⟨z, hz⟩ : ∃ z, t.ints[j] = z := ⟨_, rfl⟩
          rw [hz] at ca cb
          have i1 : (0 : Int) ≤ (j : Int) := by omega
          have i2 : (j : Int) < (IL : Int) := by omega
          have w1 : IntKind.i64.wrap ((j : Int) + 1) = (j : Int) + 1 := by rw [IntKind.wrap_i64]; omega
          clear hz HNA HNB HIA HIB HKA HKB HIH
          go_wp2
          go_region_held3 (fun w' => w'.cell? ⟨w.heap.size, 2, none⟩ = some (.slice (some ⟨ba, oa, none⟩) IL ca2) ∧ w'.cell? ⟨w.heap.size + 1, 2, none⟩ = some (.slice (some ⟨bb, ob, none⟩) IL cb2) ∧ w'.cell? ⟨ba, oa + j, none⟩ = some (.int .i64 z) ∧ w'.cell? ⟨bb, ob + j, none⟩ = some (.int .i64 z)) (go_keep) (fail)
          all_goals go_wp2
          all_goals go_roundw
          case rel => exact ⟨bel hb (bel_d _), j + 1, by omega, by go_num⟩
          case measure => simp [intOf]; omega
        · have z9 : ¬ (j : Int) < (IL : Int) := by omega
          clear hlt0 hj
          go_wp2
          clear z9 x0 x1 x2 x3 y0 y1 y2 y3
          rename World => Z6
          have hbz : Below W.heap.size W Z6 := hb
          clear hb
          go_loopw [7] (fun iv wr => Below W.heap.size W wr ∧ ∃ j : Nat, j ≤ KL ∧ iv = .int .i64 j) (fun iv _ => KL - (intOf iv).toNat)
          case atStart => exact ⟨hbz, 0, Nat.zero_le _, rfl⟩
          case round =>
            obtain ⟨hb, j, hj, rfl⟩ := hrel
            obtain ⟨⟨x0, x1, x2, x3⟩, y0, y1, y2, y3⟩ := HX.out wr hb
            by_cases hlt0 : j < KL
            · have hll : j < t.kids.length := by rw [HK.out]; exact hlt0
              obtain ⟨ba, oa, rfl, hsa⟩ : ∃ b o, pa3 = some ⟨b, o, none⟩ ∧ SL W b o t.kids := by
                rcases HKA.out with h | h
                · rw [h] at hll; exact absurd hll (Nat.not_lt_zero _)
                · exact h
              obtain ⟨bb, ob, rfl, hsb⟩ : ∃ b o, pb3 = some ⟨b, o, none⟩ ∧ SL W b o t.kids := by
                rcases HKB.out with h | h
                · rw [h] at hll; exact absurd hll (Nat.not_lt_zero _)
                · exact h
              obtain ⟨u1, u2, u3, p0, p1, p2, p3, hu⟩ := ((SL_get hsa hll).below hb).val
              obtain ⟨v1, v2, v3, q0, q1, q2, q3, hv⟩ := ((SL_get hsb hll).below hb).val
              have hcy : scnt t.kids[j] ≤ 9000 := by have h1 := scnt_get hll; have h2 := HOK.out.2; unfold scnt at h2; omega
              have hky := sok_kid HOK.out.1 hll
              have hiy := HIH.out _ (List.getElem_mem hll)
              obtain ⟨Y, hY⟩ : ∃ Y, t.kids[j] = Y := ⟨_, rfl⟩
              rw [hY] at p0 q0 hu hv hcy hky hiy
              have HW : Hid (∀ v, Below wr.heap.size wr v → Calls Try.prog 16 #[.agg #[.int .i64 Y.op, u1, u2, u3], .agg #[.int .i64 Y.op, v1, v2, v3]] v fun e w' => e = .returned (.bool true) ∧ Below v.heap.size v w') := fun v hw => hiy u1 u2 u3 v1 v2 v3 v hcy hky (hu.below hw) (hv.below hw)
              have i1 : (0 : Int) ≤ (j : Int) := by omega
              have i2 : (j : Int) < (KL : Int) := by omega
              have w1 : IntKind.i64.wrap ((j : Int) + 1) = (j : Int) + 1 := by rw [IntKind.wrap_i64]; omega
              clear hY HNA HNB HIA HIB HKA HKB HIH hsa hsb hu hv hcy hky hiy
              go_wp2
              go_region_held3 (fun w' => w'.cell? ⟨w.heap.size, 3, none⟩ = some (.slice (some ⟨ba, oa, none⟩) KL ca3) ∧ w'.cell? ⟨w.heap.size + 1, 3, none⟩ = some (.slice (some ⟨bb, ob, none⟩) KL cb3) ∧ w'.cell? ⟨ba, oa + j * 4, none⟩ = some (.int .i64 Y.op) ∧ w'.cell? ⟨ba, oa + j * 4 + 1, none⟩ = some u1 ∧ w'.cell? ⟨ba, oa + j * 4 + 2, none⟩ = some u2 ∧ w'.cell? ⟨ba, oa + j * 4 + 3, none⟩ = some u3 ∧ w'.cell? ⟨bb, ob + j * 4, none⟩ = some (.int .i64 Y.op) ∧ w'.cell? ⟨bb, ob + j * 4 + 1, none⟩ = some v1 ∧ w'.cell? ⟨bb, ob + j * 4 + 2, none⟩ = some v2 ∧ w'.cell? ⟨bb, ob + j * 4 + 3, none⟩ = some v3) (go_keep) (first
                | (go_at_call 16; (with_reducible refine (HW.out _ (bel_d _)).mono ?_); rintro e w3 ⟨rfl, hb3⟩; have hbq := bel (bel_d wr) hb3; have x3 := bcell x3 hbq; have y3 := bcell y3 hbq; have p0 := bcell p0 hbq; have p1 := bcell p1 hbq; have p2 := bcell p2 hbq; have p3 := bcell p3 hbq; have q0 := bcell q0 hbq; have q1 := bcell q1 hbq; have q2 := bcell q2 hbq; have q3 := bcell q3 hbq))
              all_goals go_wp2
              all_goals go_roundw
              case rel => exact ⟨bel hb hbq, j + 1, by omega, by go_num⟩
              case measure => simp [intOf]; omega
            · have z9 : ¬ (j : Int) < (KL : Int) := by omega
              clear hlt0 hj
              go_wp2
              go_ret
              exact ⟨rfl, bel HB0.out hb⟩

end Go.Proofs.Ytnogokikiekcbaa
/- An argument opened: a schedule. -/
namespace Go.Proofs.Ytnogokikiekcbaa
open Go.ChangeShapes Go.WideShapes Go.ChangeAt Go.RowKit
set_option linter.unusedVariables false
set_option maxRecDepth 100000

theorem cells_Sched : Try.prog.cellsOf 26 = 4 := by kernel_rfl
theorem cells_F1 : Try.prog.cellsOf 31 = 1 := by kernel_rfl
theorem cells_I1 : Try.prog.cellsOf 3 = 1 := by kernel_rfl
theorem bytes_F1 : Try.prog.bytesOf 31 = 4 := by kernel_rfl
theorem bytes_I1 : Try.prog.bytesOf 3 = 8 := by kernel_rfl
theorem bytes_S1 : Try.prog.bytesOf 26 = 80 := by kernel_rfl

theorem weights_mem_all {H : Type} {P : Program} {e : TypeId} : ∀ {l : List (DataW H)} {d : DataW H}, d ∈ l → ∀ n ∈ d.weights P e, n ∈ DataW.weightsAll P e l
  | [], d, h, n, hn => by cases h
  | x :: r, d, h, n, hn => by
    simp only [DataW.weightsAll, List.mem_append]
    rcases List.mem_cons.1 h with rfl | h
    · exact .inl hn
    · exact .inr (weights_mem_all h n hn)

section
variable {H : Type} {enc : TypeId × Value → H} {w : World} {base : Nat} {held : Bool}

theorem open_row {t e : TypeId} {k : IntKind} {fuel : Nat} {v : Value} {y : DataW H × List MemPlace} {B : Nat} (ht : Try.prog.underlying t = some (.slice e)) (he : Try.prog.underlying e = some (.int k)) (hc : Try.prog.cellsOf e = 1) (hb : Try.prog.bytesOf e = B)
    (h : DataW.trod enc Try.prog w base (fun _ => true) held fuel t [v] = some y) (hw : ∀ n ∈ y.1.weights Try.prog t, n ≤ reachBytes) :
    ∃ (l : List Int), Row w k v l ∧ (∀ x ∈ l, (Lit.int k x).wf = true) ∧ l.length * B ≤ reachBytes := by
  rcases open_ints ht he hc h with ⟨hcs, hx⟩ | ⟨a, len, cap, zs, hcs, _, hl, hm, hz, hx, hcell, hwz⟩
  · simp only [List.cons.injEq, and_true] at hcs
    subst hcs
    exact ⟨[], ⟨none, 0, rfl, .inl rfl⟩, (fun x hx => absurd hx List.not_mem_nil), (by simp)⟩
  · simp only [List.cons.injEq, and_true] at hcs
    subst hcs
    simp only [if_true] at hz
    have hlt : (zs.take len).length = len := by rw [List.length_take]; omega
    refine ⟨zs.take len, ⟨some a, cap, by rw [hlt], ?_⟩, fun x hx => hwz x (List.mem_of_mem_take hx), ?_⟩
    · by_cases hl0 : len = 0
      · left; rw [hl0]; rfl
      · obtain ⟨b, off, spot⟩ := a
        have hspot : spot = none := by simpa [Addr.add] using World.cell?_spot (hcell 0 (by omega))
        subst hspot
        refine .inr ⟨b, off, rfl, fun i hi => ?_⟩
        have hi' : i < len := by rw [hlt] at hi; exact hi
        have := hcell i (by omega)
        rw [add_plain] at this
        rw [this]
        have hzi : i < zs.length := by omega
        simp [List.getD, hzi]
    · have := hw ((lits (H := H) k (zs.take len)).length + (lits (H := H) k (zs.drop len)).length |> (· * Try.prog.bytesOf e)) (by rw [hx]; simp [DataW.weights, ht])
      rw [hb] at this
      simp only [lits, List.length_map, List.length_take, List.length_drop] at this
      rw [hlt]
      refine Nat.le_trans (Nat.mul_le_mul_right _ ?_) this
      omega

theorem open_Sched : ∀ (fuel : Nat) (cs : List Value) (x : DataW H × List MemPlace), DataW.trod enc Try.prog w base (fun _ => true) held fuel 26 cs = some x → (∀ n ∈ x.1.weights Try.prog 26, n ≤ reachBytes) →
    ∃ (t : Sc) (a b c : Value), cs = [.int .i64 t.op, a, b, c] ∧ SV w t a b c ∧ sok t := by
  intro fuel
  induction fuel using Nat.strongRecOn with
  | _ fuel ih =>
    intro cs x h hw
    obtain ⟨xs, n, hfn, hx, hl, hxl, hf⟩ := DataW.trod_struct Try.underlying26 h
    rw [cells_Sched] at hl
    match cs, hl with
    | [v0, v1, v2, v3], _ =>
    match xs, hxl with
    | [y0, y1, y2, y3], _ =>
      have e0 : DataW.trod enc Try.prog w base (fun _ => true) held n 3 [v0] = some y0 := hf 0 _ rfl
      have e1 : DataW.trod enc Try.prog w base (fun _ => true) held n 22 [v1] = some y1 := hf 1 _ rfl
      have e2 : DataW.trod enc Try.prog w base (fun _ => true) held n 23 [v2] = some y2 := hf 2 _ rfl
      have e3 : DataW.trod enc Try.prog w base (fun _ => true) held n 24 [v3] = some y3 := hf 3 _ rfl
      obtain ⟨a0, c0, hd0, w0⟩ := DataW.trod_int Try.underlying3 e0
      simp only [List.cons.injEq, and_true] at c0
      subst c0
      subst hx
      have hws : ∀ (j : Nat) (t : TypeId) (d : DataW H), [3, 22, 23, 24][j]? = some t → [y0.1, y1.1, y2.1, y3.1][j]? = some d → ∀ n ∈ d.weights Try.prog t, n ≤ reachBytes := fun j t d ht hd n hn => by
        refine hw n ?_
        show n ∈ DataW.weights Try.prog 26 (.agg [y0.1, y1.1, y2.1, y3.1])
        rw [DataW.weights, Try.underlying26]
        exact DataW.weights_mem_each (ts := [3, 22, 23, 24]) ht hd n hn
      obtain ⟨ns, r1, q1, l1⟩ := open_row Try.underlying22 Try.underlying31 cells_F1 bytes_F1 e1 (hws 1 _ _ rfl rfl)
      obtain ⟨is, r2, q2, l2⟩ := open_row Try.underlying23 Try.underlying3 cells_I1 bytes_I1 e2 (hws 2 _ _ rfl rfl)
      have b0 := bounds_i64 w0
      have hn1 : ∀ x ∈ ns, 0 ≤ x ∧ x < 4294967296 := fun x hx => ⟨(bounds_u32 (q1 x hx)).1, Int.lt_of_le_of_lt (bounds_u32 (q1 x hx)).2 (by decide)⟩
      have hn2 : ∀ x ∈ is, -9223372036854775808 ≤ x ∧ x ≤ 9223372036854775807 := fun x hx => bounds_i64 (q2 x hx)
      have m1 : ns.length ≤ 35184372087808 := by simp only [reachBytes] at l1; omega
      have m2 : is.length ≤ 17592186043904 := by simp only [reachBytes] at l2; omega
      rcases DataW.trod_slice Try.underlying24 e3 with ⟨hcs, hx3⟩ | ⟨a, len, cap, elems, rest, m, hm, hcs, hx3, _, hl3, _, hel, hread, _, _⟩
      · simp only [List.cons.injEq, and_true] at hcs
        subst hcs
        exact ⟨⟨a0, ns, is, []⟩, v1, v2, _, rfl, ⟨r1, r2, none, 0, rfl, .inl rfl⟩, ⟨b0, hn1, hn2, m1, m2, by simp⟩, sokL_nil⟩
      · simp only [List.cons.injEq, and_true] at hcs
        subst hcs
        have key : ∀ i, i < len → ∃ q : Sc × Value × Value × Value, (∀ k, k < 4 → w.cell? (a.add (i * 4 + k)) = [Value.int .i64 q.1.op, q.2.1, q.2.2.1, q.2.2.2][k]?) ∧ SV w q.1 q.2.1 q.2.2.1 q.2.2.2 ∧ sok q.1 := by
          intro i hi
          have h1 := hread i hi
          rw [cells_Sched] at h1
          have hie : i < elems.length := by omega
          rw [List.getElem?_eq_getElem hie] at h1
          obtain ⟨cs', h2, h3⟩ := Option.bind_eq_some_iff.1 h1
          obtain ⟨_, hlen4, hcell⟩ := World.cells?_some h2
          obtain ⟨t, p, c, d, hcs, hk, hok⟩ := ih m (by omega) cs' _ h3 (fun k hk => hws 3 _ _ rfl rfl k (by
            rw [hx3, DataW.weights, Try.underlying24]
            exact List.mem_cons_of_mem _ (List.mem_append_left _ (weights_mem_all (List.mem_map.2 ⟨elems[i], List.getElem_mem hie, rfl⟩) k hk))))
          refine ⟨(t, p, c, d), fun k hk4 => ?_, hk, hok⟩
          have := hcell k hk4
          rw [Go.Deep.add_add, hcs] at this
          exact this
        have : Inhabited (Sc × Value × Value × Value) := ⟨(⟨0, [], [], []⟩, .bool false, .bool false, .bool false)⟩
        obtain ⟨f, hf⟩ := Go.Deep.choose_lt key
        have hTl : ((List.range len).map fun i => (f i).1).length = len := by simp
        have hlen : len ≤ 17592186043904 := by
          have := hws 3 _ _ rfl rfl ((elems.map (·.1)).length + (rest.map (·.1)).length |> (· * Try.prog.bytesOf 26)) (by rw [hx3]; simp [DataW.weights, Try.underlying24])
          rw [bytes_S1] at this
          simp only [List.length_map, reachBytes] at this
          omega
        refine ⟨⟨a0, ns, is, (List.range len).map fun i => (f i).1⟩, v1, v2, .slice (some a) len cap, rfl, ⟨r1, r2, ?_⟩, ⟨b0, hn1, hn2, m1, m2, by simp only [hTl]; exact hlen⟩, ?_⟩
        · refine ⟨some a, cap, by simp, ?_⟩
          by_cases hl0 : len = 0
          · left; simp [hl0]
          · obtain ⟨b, off, spot⟩ := a
            have hspot : spot = none := by simpa [Addr.add] using World.cell?_spot ((hf 0 (by omega)).1 0 (by decide))
            subst hspot
            refine .inr ⟨b, off, rfl, SL_of fun i hi => ?_⟩
            have hi' : i < len := by rw [hTl] at hi; exact hi
            obtain ⟨g, hk, -⟩ := hf i hi'
            have e : ((List.range len).map fun i => (f i).1)[i] = (f i).1 := by simp
            simp only [add_plain] at g
            rw [e]
            have g' : ∀ k, k < 4 → w.cell? ⟨b, off + i * 4 + k, none⟩ = [Value.int .i64 (f i).1.op, (f i).2.1, (f i).2.2.1, (f i).2.2.2][k]? := fun k hk => by rw [Nat.add_assoc]; exact g k hk
            exact hk.at_ (g' 0 (by decide)) (g' 1 (by decide)) (g' 2 (by decide)) (g' 3 (by decide))
        · refine (sokL_iff _).2 fun t ht => ?_
          obtain ⟨i, hi, rfl⟩ := List.mem_map.1 ht
          exact (hf i (List.mem_range.1 hi)).2.2

theorem open_Sch {r : Reach} {b0 : Nat} {v : Value} {d : DataW H} {pl : List MemPlace} (hv : Value.okWide Try.prog w r b0 26 v) (h : DataW.Trod enc Try.prog w base (fun _ => true) held 26 v d pl) (hw : ∀ n ∈ d.weights Try.prog 26, n ≤ reachBytes) :
    ∃ (t : Sc) (a b c : Value), v = .agg #[.int .i64 t.op, a, b, c] ∧ SV w t a b c ∧ sok t := by
  obtain ⟨cs, rfl, hsz⟩ := okWide_struct Try.underlying26 hv
  obtain ⟨fuel, hf⟩ := h
  obtain ⟨t, a, b, c, hcs, hk, hok⟩ := open_Sched fuel _ _ hf hw
  refine ⟨t, a, b, c, ?_, hk, hok⟩
  simp only [Value.cells] at hcs
  rw [Value.agg.injEq]
  apply Array.toList_inj.1
  exact hcs
end

end Go.Proofs.Ytnogokikiekcbaa
/- The statement SchedValues: its walk. -/
namespace Go.Proofs.Ytnogokikiekcbaa
open Go.RowKit
set_option linter.unusedVariables false
set_option linter.unusedSimpArgs false

theorem pat_valueV {t : Sc} (h : sok t) (n : Int) : Pat (valueP t n).1 := by
  unfold valueP
  split
  · rename_i hc; exact pat_val t h (okS_all hc.2) n
  · exact pat_0

set_option maxRecDepth 100000 in
set_option maxHeartbeats 8000000 in
theorem walk_SchedValues (t : Sc) (a c d : Value) (hok : sok t) (n : Int) (hn : -9223372036854775808 ≤ n ∧ n ≤ 9223372036854775807) (w : World) (hS : SV w t a c d) :
    Calls Try.prog 3 #[.agg #[.int .i64 t.op, a, c, d], .int .i64 n] w fun e w' => e = .returned (.bool true) ∧ Below w.heap.size w w' := by
  have hx := box_heap w (.cells #[.int .i64 t.op, a, c, d] 26)
  have hb0 := bel_alloc w (.cells #[.int .i64 t.op, a, c, d] 26)
  obtain ⟨W, hW⟩ : ∃ W, w.alloc (.cells #[.int .i64 t.op, a, c, d] 26) = W := ⟨_, rfl⟩
  rw [hW] at hx hb0
  have hSW := hS.below hb0
  have HX : Hid (∀ v, Below W.heap.size W v → v.cell? ⟨w.heap.size, 0, none⟩ = some (.int .i64 t.op) ∧ v.cell? ⟨w.heap.size, 1, none⟩ = some a ∧ v.cell? ⟨w.heap.size, 2, none⟩ = some c ∧ v.cell? ⟨w.heap.size, 3, none⟩ = some d) := fun v hv =>
    ⟨bcell (cell_heap hx 0) hv, bcell (cell_heap hx 1) hv, bcell (cell_heap hx 2) hv, bcell (cell_heap hx 3) hv⟩
  have HB0 : Hid (Below w.heap.size w W) := hb0
  obtain ⟨gr, hg⟩ : ∃ g, decide (9000 < scnt t) = g := ⟨_, rfl⟩
  have HG : Hid (∀ v, Below W.heap.size W v → Calls Try.prog 9 #[.agg #[.int .i64 t.op, a, c, d]] v fun e w' => e = .returned (.bool gr) ∧ Below v.heap.size v w') := fun v hv => by rw [← hg]; exact great_any t a c d v hok (hSW.below hv)
  obtain ⟨x0, x1, x2, x3⟩ := HX.out W (bel0 W)
  have HWK : Hid (∀ v : World, Calls Try.prog 10 #[] v fun e w' => e = .returned (.bool true) ∧ Below v.heap.size v w') := works_any14
  have hbW : Below W.heap.size W W := bel0 W
  cases gr
  rotate_left 1
  · clear hS hSW hx hb0 hg
    go_enter Try.func3, Try.ntmps3
    go_wp2_with (first
      | (go_at_call 9; (with_reducible refine (HG.out _ hbW).mono ?_); rintro e w1 ⟨rfl, hb1⟩)
      | (go_at_call 10; (with_reducible refine (HWK.out _).mono ?_); rintro e w2 ⟨rfl, hb2⟩))
    go_ret
    exact ⟨rfl, bel HB0.out (bel hb1 hb2)⟩
  have hcnt : scnt t ≤ 9000 := by simpa using hg
  have HTW : Hid (∀ v, Below W.heap.size W v → Calls Try.prog 11 #[.agg #[.int .i64 t.op, a, c, d]] v fun e w' => ∃ a' c' d', e = .returned (.agg #[.int .i64 t.op, a', c', d']) ∧ SV w' t a' c' d' ∧ Below v.heap.size v w') := fun v hv =>
    (twin_to t a c d v hcnt hok (hSW.below hv)).mono fun e w' ⟨g, a', c', d', he, _, _, ho, hi, hk, hb⟩ => ⟨a', c', d', he, ⟨(ho.rowP (P := fun _ => True) fun _ => trivial).row, hi.row, hk.sk⟩, hb⟩
  have hpv := pat_valueV hok n
  have HVA : Hid (∀ (a' c' d' : Value) v, SV v t a' c' d' → Calls Try.prog 12 #[.agg #[.int .i64 t.op, a', c', d'], .int .i64 n] v fun e w' => e = .returned (.tuple #[.int .u32 (valueP t n).1, .int .i64 (valueP t n).2]) ∧ Below v.heap.size v w') := fun a' c' d' v hv => value_to t n a' c' d' hok v hv
  have HRV : Hid (∀ v, Below W.heap.size W v → Calls Try.prog 13 #[.agg #[.int .i64 t.op, a, c, d], .int .i64 n] v fun e w' => e = .returned (.tuple #[.int .i64 (valueP t n).1, .int .i64 (valueP t n).2]) ∧ Below v.heap.size v w') := fun v hv => rvalue_to t n a c d hok v (hSW.below hv)
  have HCA : Hid (∀ (a' c' d' : Value) v, SV v t a' c' d' → Calls Try.prog 14 #[.agg #[.int .i64 t.op, a', c', d']] v fun e w' => e = .returned (.int .i64 (if okS t = true then 0 else 1)) ∧ Below v.heap.size v w') := fun a' c' d' v hv => check_any t a' c' d' hok v hv
  have HRC : Hid (∀ v, Below W.heap.size W v → Calls Try.prog 15 #[.agg #[.int .i64 t.op, a, c, d]] v fun e w' => e = .returned (.int .i64 (if okS t = true then 0 else 1)) ∧ Below v.heap.size v w') := fun v hv => rcheck_any t a c d hok v (hSW.below hv)
  have HSM : Hid (∀ (a' c' d' : Value) v, Below W.heap.size W v → SV v t a' c' d' → Calls Try.prog 16 #[.agg #[.int .i64 t.op, a, c, d], .agg #[.int .i64 t.op, a', c', d']] v fun e w' => e = .returned (.bool true) ∧ Below v.heap.size v w') := fun a' c' d' v hv hs => same_to t a c d a' c' d' v hcnt hok (hSW.below hv) hs
  obtain ⟨V, hV⟩ : ∃ V, (valueP t n).1 = V := ⟨_, rfl⟩
  obtain ⟨E, hE⟩ : ∃ E, (valueP t n).2 = E := ⟨_, rfl⟩
  obtain ⟨CK, hCK⟩ : ∃ x : Int, (if okS t = true then 0 else 1) = x := ⟨_, rfl⟩
  rw [hV, hE] at HVA HRV
  rw [hV] at hpv
  rw [hCK] at HCA HRC
  have eV : IntKind.i64.wrap V = V := by have := hpv.1; have := hpv.2; rw [IntKind.wrap_i64]; omega
  clear hS hSW hx hb0 hg hV hE hCK hok hcnt
  go_enter Try.func3, Try.ntmps3
  go_wp2_with (first
      | (go_at_call 9; (with_reducible refine (HG.out _ hbW).mono ?_); rintro e w1 ⟨rfl, hb1⟩; obtain ⟨x0, x1, x2, x3⟩ := HX.out w1 hb1; clear hbW)
      | (go_at_call 11; (with_reducible refine (HTW.out _ hb1).mono ?_); rintro e w2 ⟨a', c', d', rfl, hs2, hb2⟩; obtain ⟨q1, m1, rfl, -⟩ := id hs2.nums; obtain ⟨q2, m2, rfl, -⟩ := id hs2.ints; obtain ⟨q3, m3, rfl, -⟩ := id hs2.kids; have hb2' := bel hb1 hb2; have HB2 : Hid (Below W.heap.size W w2) := hb2'; have HS2 : Hid (SV w2 t (.slice q1 t.nums.length m1) (.slice q2 t.ints.length m2) (.slice q3 t.kids.length m3)) := hs2; clear hs2 hb2 hb2' HTW HG)
      | (go_at_call 12; skip; have hsv : SV (w2.alloc (.cells #[.int .i64 t.op, .slice q1 t.nums.length m1, .slice q2 t.ints.length m2, .slice q3 t.kids.length m3] 26)) t (.slice q1 t.nums.length m1) (.slice q2 t.ints.length m2) (.slice q3 t.kids.length m3) := HS2.out.below (bel_alloc _ _); have hbx3 := bel HB2.out (bel_alloc w2 (.cells #[.int .i64 t.op, .slice q1 t.nums.length m1, .slice q2 t.ints.length m2, .slice q3 t.kids.length m3] 26)); have hhx := box_heap w2 (.cells #[.int .i64 t.op, .slice q1 t.nums.length m1, .slice q2 t.ints.length m2, .slice q3 t.kids.length m3] 26); (with_reducible refine (HVA.out _ _ _ _ hsv).mono ?_); rintro e w3 ⟨rfl, hb3⟩; have hB3 := bel hbx3 hb3; obtain ⟨x0, x1, x2, x3⟩ := HX.out w3 hB3; have hS3 := hsv.below hb3; have y0 := bcell (cell_heap hhx 0) hb3; have y1 := bcell (cell_heap hhx 1) hb3; have y2 := bcell (cell_heap hhx 2) hb3; have y3 := bcell (cell_heap hhx 3) hb3; clear hsv hbx3 hhx hb3 HVA)
      | (go_at_call 13; (with_reducible refine (HRV.out _ hB3).mono ?_); rintro e w4 ⟨rfl, hb4⟩; have hB4 := bel hB3 hb4; obtain ⟨x0, x1, x2, x3⟩ := HX.out w4 hB4; have hS4 := hS3.below hb4; have y0 := bcell y0 hb4; have y1 := bcell y1 hb4; have y2 := bcell y2 hb4; have y3 := bcell y3 hb4))
  go_region_held3 (fun w' => w'.cell? ⟨w.heap.size, 0, none⟩ = some (.int .i64 t.op) ∧ w'.cell? ⟨w.heap.size, 1, none⟩ = some a ∧ w'.cell? ⟨w.heap.size, 2, none⟩ = some c ∧ w'.cell? ⟨w.heap.size, 3, none⟩ = some d ∧ w'.cell? ⟨w2.heap.size, 0, none⟩ = some (.int .i64 t.op) ∧ w'.cell? ⟨w2.heap.size, 1, none⟩ = some (.slice q1 t.nums.length m1) ∧ w'.cell? ⟨w2.heap.size, 2, none⟩ = some (.slice q2 t.ints.length m2) ∧ w'.cell? ⟨w2.heap.size, 3, none⟩ = some (.slice q3 t.kids.length m3)) (go_keep) (first
    | (go_at_call 14; (with_reducible refine (HCA.out _ _ _ _ (hS4.below (bel_d _))).mono ?_); rintro e w5 ⟨rfl, hb5⟩; have hb5 := bel (bel_d w4) hb5; have hB5 := bel hB4 hb5; obtain ⟨x0, x1, x2, x3⟩ := HX.out w5 hB5; have y0 := bcell y0 hb5; have y1 := bcell y1 hb5; have y2 := bcell y2 hb5; have y3 := bcell y3 hb5; have hS5 := hS4.below hb5)
    | (go_at_call 15; (with_reducible refine (HRC.out _ hB5).mono ?_); rintro e w6 ⟨rfl, hb6⟩; have hB6 := bel hB5 hb6; obtain ⟨x0, x1, x2, x3⟩ := HX.out w6 hB6; have y0 := bcell y0 hb6; have y1 := bcell y1 hb6; have y2 := bcell y2 hb6; have y3 := bcell y3 hb6; have hS6 := hS5.below hb6)
    | (go_at_call 16; (with_reducible refine (HSM.out _ _ _ _ hB6 hS6).mono ?_); rintro e w7 ⟨rfl, hb7⟩; have hB7 := bel hB6 hb7; obtain ⟨x0, x1, x2, x3⟩ := HX.out w7 hB7; have y0 := bcell y0 hb7; have y1 := bcell y1 hb7; have y2 := bcell y2 hb7; have y3 := bcell y3 hb7)
    | (go_at_call 10; (with_reducible refine (HWK.out _).mono ?_); rintro e w8 ⟨rfl, hb8⟩; have hB8 := bel hB7 hb8; obtain ⟨x0, x1, x2, x3⟩ := HX.out w8 hB8; have y0 := bcell y0 hb8; have y1 := bcell y1 hb8; have y2 := bcell y2 hb8; have y3 := bcell y3 hb8))
  all_goals go_wp2
  all_goals go_ret
  all_goals exact ⟨rfl, bel HB0.out hB8⟩

end Go.Proofs.Ytnogokikiekcbaa
