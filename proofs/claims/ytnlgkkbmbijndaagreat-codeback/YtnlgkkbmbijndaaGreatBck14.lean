import Derived.Test.YtnlgkkbmbijndaaGreatBck11
import Derived.Test.YtnlgkkbmbijndaaGreatBck13
import Derived.Test.YtnlgkkbmbijndaaGreatBck6
import Derived.Deep.AppendLies
import Derived.Test.YtnlgkkbmbijndaaGreatBck2
import Derived.Deep.DeepCutAuto
/- Package ir: Check. -/
namespace Go.Proofs.YtnlgkkbmbijndaaGreat
open Go.RowKit
set_option linter.unusedVariables false
set_option linter.unusedSimpArgs false

theorem info_Bool : (Tryz.prog.info? 4).map (fun i => (i.zero, i.size, i.bytes)) = some (some (.bool false), 1, 1) := by kernel_rfl
theorem make_B (m : Nat) (h : m ≤ 70368744177664) (w : World) : (Instr.makeSlice 88 (.int .i64 m) (.int .i64 m)).run Tryz.prog w = .ok (.slice (some ⟨w.heap.size, 0, none⟩) m m) (w.alloc (.cells (madeCells #[.bool false] m) 4)) :=
  run_make_row' (P := Tryz.prog) 88 4 (.bool false) 1 Tryz.underlying88 info_Bool rfl .i64 .i64 m (by omega) (by omega) w

/-- The walk's beginning. -/
theorem WS.start (w : World) (C n : Nat) : WS w.heap.size (w.heap.size + 1) C n w.heap.size (.slice none 0 0) (.slice none 0 0) ((w.alloc (.cells (madeCells #[.bool false] n) 4)).alloc (.cells #[.pointer (some ⟨C, 0, none⟩), .slice (some ⟨w.heap.size, 0, none⟩) n n, .slice none 0 0, .slice none 0 0] 99)) ⟨[], []⟩ := by
  have h1 := (World.rowIs_made w (.bool false) n 4).alloc (.cells #[.pointer (some ⟨C, 0, none⟩), .slice (some ⟨w.heap.size, 0, none⟩) n n, .slice none 0 0, .slice none 0 0] 99)
  have h2 := World.rowIs_alloc (w.alloc (.cells (madeCells #[.bool false] n) 4)) #[.pointer (some ⟨C, 0, none⟩), .slice (some ⟨w.heap.size, 0, none⟩) n n, .slice none 0 0, .slice none 0 0] 99 (wkF C w.heap.size n (.slice none 0 0) (.slice none 0 0)) (fun i hi => by
    have hi' : i < 4 := hi
    obtain rfl | rfl | rfl | rfl : i = 0 ∨ i = 1 ∨ i = 2 ∨ i = 3 := by omega
    all_goals rfl)
  have hs : (w.alloc (.cells (madeCells #[.bool false] n) 4)).heap.size = w.heap.size + 1 := by simp
  rw [hs] at h2
  exact ⟨h2, h1.congr fun j _ => by simp, World.ownsRow_nil _ _ _ 1, World.ownsRow_nil _ _ _ 3, by omega, Nat.le_refl _, by omega, by simp [Value.ownBlock], by simp [Value.ownBlock], by simp [Value.ownBlock], by simp [Value.ownBlock], by simp [Value.ownBlock]⟩

set_option maxRecDepth 100000 in
set_option maxHeartbeats 4000000 in
theorem check_any (v0 v1 v2 v3 : Value) (c : Cd) (hk : CdOk c) (w : World) (hv : CdV w v0 v1 v2 v3 c) :
    Calls Tryz.prog 16 #[.agg #[v0, v1, v2, v3]] w fun e w' => e = .returned (.tuple #[.int .i64 (checkC c).1, .int .i64 (checkC c).2]) ∧ Below w.heap.size w w' := by
  have hat : CdAt (w.alloc (.cells #[v0, v1, v2, v3] 27)) w.heap.size v0 v1 v2 v3 c := by
    refine ⟨fun j hj => ?_, hv.below (bel_alloc _ _)⟩
    have hj' : j < 4 := hj
    obtain rfl | rfl | rfl | rfl : j = 0 ∨ j = 1 ∨ j = 2 ∨ j = 3 := by omega
    all_goals simp [go_sem]
  have K1 := faultAhead_any w.heap.size v0 v1 v2 v3 c hk _ hat
  unfold checkC
  obtain ⟨A, hA⟩ : ∃ A, aheadP c = A := ⟨_, rfl⟩
  rw [hA] at K1 ⊢
  have HK1 : Hid (Calls Tryz.prog 38 #[.pointer (some ⟨w.heap.size, 0, none⟩)] (w.alloc (.cells #[v0, v1, v2, v3] 27)) fun e w' => e = .returned (.int .i64 A) ∧ Below (w.alloc (.cells #[v0, v1, v2, v3] 27)).heap.size (w.alloc (.cells #[v0, v1, v2, v3] 27)) w') := K1
  clear K1
  by_cases h0 : A = 0
  · rw [if_neg (by simp [h0])]
    have hsz : c.regs.length ≤ 16384 ∧ c.list.length ≤ 32768 ∧ typesMay c = true := by
      rw [h0] at hA
      unfold aheadP at hA
      split at hA
      · rename_i e1; exact absurd hA e1
      · split at hA
        · exact absurd hA (by decide)
        · split at hA
          · exact absurd hA (by decide)
          · split at hA
            · rename_i e1 e2 e3 e4
              simp only [Bool.and_eq_true] at e4
              exact ⟨by omega, by omega, e4.1⟩
            · exact absurd hA (by decide)
    obtain ⟨hn, hN, htm⟩ := hsz
    clear hA
    subst h0
    have KT := fun E G gi vs vo s b o i w h ok hc hi hb hb0 hb1 => take_any E G w.heap.size c.regs.length gi vs vo s v0 v1 v2 v3 c hk b o i w h rfl ok hn hc hi hb htm hb0 hb1
    clear KT
    have hr := hv.list
    obtain ⟨p3, q3, rfl, hr3⟩ := hv.list
    obtain ⟨p1, q1, rfl, hr1⟩ := hv.regs
    have HAT : Hid (CdAt (w.alloc (.cells #[v0, .slice p1 c.regs.length q1, v2, .slice p3 c.list.length q3] 27)) w.heap.size v0 (.slice p1 c.regs.length q1) v2 (.slice p3 c.list.length q3) c) := hat
    obtain ⟨Pr, hPr⟩ : ∃ P, goP c ⟨[], []⟩ 0 c.list = P := ⟨_, rfl⟩
    rw [hPr]
    have HP : Hid (goP c ⟨[], []⟩ 0 c.list = Pr) := hPr
    have HROW : Hid (RowG 7 inC w (.slice p3 c.list.length q3) c.list) := hr
    have HIB : Hid (∀ i ∈ c.list, 0 ≤ i.bits ∧ i.bits < 4294967296) := hk.ibits
    obtain ⟨n, hnn⟩ : ∃ n, c.regs.length = n := ⟨_, rfl⟩
    obtain ⟨N, hNN⟩ : ∃ N, c.list.length = N := ⟨_, rfl⟩
    have HNE : Hid (c.regs.length = n) := hnn
    have HNL : Hid (c.list.length = N) := hNN
    rw [hnn] at hn HK1 HAT
    rw [hNN] at hN HK1 HAT HROW
    rw [hnn, hNN]
    have mk := fun w => make_B n (by omega) w
    have HOKC : Hid (CdOk c) := hk
    have HTM : Hid (typesMay c = true) := htm
    have f1 := HAT.out.1.at 1 rfl
    have f3 := HAT.out.1.at 3 rfl
    rw [Nat.zero_add] at f1 f3
    have HC : Hid (∀ v, Below (w.alloc (.cells #[v0, .slice p1 n q1, v2, .slice p3 N q3] 27)).heap.size (w.alloc (.cells #[v0, .slice p1 n q1, v2, .slice p3 N q3] 27)) v → v.cell? ⟨w.heap.size, 1, none⟩ = some (.slice p1 n q1) ∧ v.cell? ⟨w.heap.size, 3, none⟩ = some (.slice p3 N q3)) := fun v hv => ⟨kc hv f1, kc hv f3⟩
    clear hat hv hr hr3 hr1 hPr hnn hNN hk htm f1 f3
    go_enter Tryz.func16, Tryz.ntmps16
    go_wp2_with (go_at_call 38; refine HK1.out.mono ?_; rintro e w1 ⟨rfl, hb1⟩; obtain ⟨g1, g3⟩ := HC.out w1 hb1; have g4 : ((w1.alloc (.cells (madeCells #[.bool false] n) 4)).alloc (.cells #[.pointer (some ⟨w.heap.size, 0, none⟩), .slice (some ⟨w1.heap.size, 0, none⟩) n n, .slice none 0 0, .slice none 0 0] 99)).cell? ⟨w.heap.size, 3, none⟩ = some (.slice p3 N q3) := kc (bel_alloc _ _) (kc (bel_alloc _ _) g3))
    have HB1 : Hid (Below w.heap.size w w1) := bel (bel_alloc _ _) hb1
    have HAT1 : Hid (CdAt w1 w.heap.size v0 (.slice p1 n q1) v2 (.slice p3 N q3) c) := HAT.out.below hb1
    have hs1 : w.heap.size < w1.heap.size := by have := hb1.size; simp at this; omega
    have HS0 := WS.start w1 w.heap.size n
    have HB0 : Below w1.heap.size w1 ((w1.alloc (.cells (madeCells #[.bool false] n) 4)).alloc (.cells #[.pointer (some ⟨w.heap.size, 0, none⟩), .slice (some ⟨w1.heap.size, 0, none⟩) n n, .slice none 0 0, .slice none 0 0] 99)) := bel (bel_alloc _ _) (bel_alloc _ _)
    obtain ⟨W2, hW2⟩ : ∃ W2, (w1.alloc (.cells (madeCells #[.bool false] n) 4)).alloc (.cells #[.pointer (some ⟨w.heap.size, 0, none⟩), .slice (some ⟨w1.heap.size, 0, none⟩) n n, .slice none 0 0, .slice none 0 0] 99) = W2 := ⟨_, rfl⟩
    rw [hW2] at HS0 HB0
    try rw [hW2]
    clear HK1 HC hb1 mk HAT g4 hW2
    go_loopw [19] (fun iv wr => ∃ (j : Nat) (s : Wk) (vs vo : Value), j ≤ N ∧ iv = .int .i64 j ∧ Below w1.heap.size w1 wr ∧ WS w1.heap.size (w1.heap.size + 1) w.heap.size n w1.heap.size vs vo wr s ∧ OkS n s ∧ Hid (goP c s j (c.list.drop j) = Pr)) (fun iv _ => N - (intOf iv).toNat)
    case atStart => exact ⟨0, ⟨[], []⟩, _, _, Nat.zero_le _, rfl, HB0, HS0, OkS.start n, by show _ = _; rw [List.drop_zero]; exact HP.out⟩
    case round =>
      obtain ⟨j, s, vs, vo, hj, rfl, hb, hws, hok, hgo⟩ := hrel
      have HWS : Hid (WS w1.heap.size (w1.heap.size + 1) w.heap.size n w1.heap.size vs vo wr s) := hws
      have HOK : Hid (OkS n s) := hok
      have HBW : Hid (Below w1.heap.size w1 wr) := hb
      have d3 := kc hb g3
      have l3 := hws.c3
      have hol : ∃ p q, vo = .slice p s.opens.length q := own_len hws.opn
      have hnest := hok.nest
      clear HS0 HB0
      by_cases hlt : j < N
      · have hll : j < c.list.length := by rw [HNL.out]; exact hlt
        have hgo' := hgo.out
        rw [List.drop_eq_getElem_cons hll] at hgo'
        have hgi : goP c s j (c.list[j] :: c.list.drop (j + 1)) = if takesP c s c.list[j] then goP c (stepP s c.list[j]) (j + 1) (c.list.drop (j + 1)) else (160, (j : Int)) := rfl
        rw [hgi] at hgo'
        obtain ⟨b, o, rfl, hx⟩ := HROW.out.at hll
        have hbw : b < w.heap.size := mcell_lt (hx 0 (by simp [inC]))
        have hxw := (hx.below HB1.out).below hb
        have KT := take_any w1.heap.size (w1.heap.size + 1) w.heap.size n w1.heap.size vs vo s v0 (.slice p1 n q1) v2 (.slice (some ⟨b, o, none⟩) N q3) c HOKC.out b (o + j * 7) c.list[j] wr hws HNE.out hok hn (HAT1.out.below hb) hxw (by omega) HTM.out (HIB.out _ (List.getElem_mem hll)).1 (HIB.out _ (List.getElem_mem hll)).2
        have hokS : takesP c s c.list[j] = true → OkS n (stepP s c.list[j]) := fun ht => by
          have hq : OkS c.regs.length s := by rw [HNE.out]; exact hok
          have := OkS.step hq ht
          rw [HNE.out] at this
          exact this
        obtain ⟨X, hX⟩ : ∃ X, takesP c s c.list[j] = X := ⟨_, rfl⟩
        rw [hX] at hgo' hokS
        simp only [hX] at KT
        have HKT : Hid (Calls Tryz.prog 39 #[.pointer (some ⟨w1.heap.size + 1, 0, none⟩), .pointer (some ⟨b, o + j * 7, none⟩)] wr fun e w' => e = .returned (.bool X) ∧ Below w1.heap.size wr w' ∧ (X = true → ∃ vs' vo', WS w1.heap.size (w1.heap.size + 1) w.heap.size n w1.heap.size vs' vo' w' (stepP s c.list[j]))) := KT
        have HGO : Hid ((if X = true then goP c (stepP s c.list[j]) (j + 1) (c.list.drop (j + 1)) else (160, (j : Int))) = Pr) := hgo'
        have HOS : Hid (X = true → OkS n (stepP s c.list[j])) := hokS
        have i1 : (0 : Int) ≤ (j : Int) := by omega
        have i2 : (j : Int) < (N : Int) := by omega
        clear KT hgo hgo' hgi hokS hX hx hxw hws hok hb hol l3
        cases X
        · go_wp2_with (go_at_call 39; refine HKT.out.mono ?_; rintro e w5 ⟨rfl, hb5, hw5⟩; have HB5 : Hid (Below w1.heap.size wr w5) := hb5; clear hb5 hw5)
          go_ret2
          refine ⟨?_, bel HB1.out (HBW.out.trans HB5.out)⟩
          have := HGO.out
          rw [if_neg (by decide)] at this
          rw [← this]
          rfl
        · go_wp2_with (go_at_call 39; refine HKT.out.mono ?_; rintro e w5 ⟨rfl, hb5, hw5⟩; have HB5 : Hid (Below w1.heap.size wr w5) := hb5; have HW5 : Hid (∃ vs' vo', WS w1.heap.size (w1.heap.size + 1) w.heap.size n w1.heap.size vs' vo' w5 (stepP s c.list[j])) := hw5 (by first | rfl | trivial); clear hb5 hw5)
          go_roundw
          case rel =>
            obtain ⟨vs', vo', hw5⟩ := HW5.out
            exact ⟨j + 1, _, vs', vo', by omega, by go_num, HBW.out.trans HB5.out, hw5, HOS.out (by first | rfl | trivial), by show _ = _; have := HGO.out; rw [if_pos (by first | rfl | trivial)] at this; exact this⟩
          case measure => simp [intOf]; omega
      · have : j = N := by omega
        subst this
        have hgo' := hgo.out
        rw [List.drop_of_length_le (by rw [HNL.out]; exact Nat.le_refl _)] at hgo'
        have hgi : goP c s j [] = if s.opens.isEmpty then (0, 0) else (160, (j : Int)) := rfl
        rw [hgi] at hgo'
        obtain ⟨p, q, rfl⟩ := hol
        obtain ⟨M, hM⟩ : ∃ M, s.opens.length = M := ⟨_, rfl⟩
        rw [hM] at l3 hnest
        have hE : s.opens.isEmpty = decide (M = 0) := by
          rw [← hM]
          cases s.opens with
          | nil => rfl
          | cons a l => simp
        rw [hE] at hgo'
        have HGO : Hid ((if decide (M = 0) = true then ((0 : Int), (0 : Int)) else (160, (j : Int))) = Pr) := hgo'
        clear hgo hgo' hgi hE hM hws hok hb
        by_cases hz : M = 0
        · subst hz
          go_wp2
          go_ret2
          refine ⟨?_, bel HB1.out HBW.out⟩
          rw [← HGO.out]
          rfl
        · have hz' : (0 : Int) < (M : Int) := by omega
          have hz2 : 0 < M := by omega
          have HZ : Hid (¬ M = 0) := hz
          clear hz
          go_wp2
          refine wp_region_held_drew (S := (fun v => v.cell? ⟨w.heap.size, 3, none⟩ = some (.slice p3 j q3))) (by kernel_rfl) ?_ (fun hHeld => ?_)
          · ((try dsimp only); go_keep)
          refine wpAnyH_take (i := 0) (v := ?_) (by simp only [List.getElem?_toArray, List.getElem?_cons_succ, List.getElem?_cons_zero]; rfl) (by kernel_rfl) (by kernel_rfl) (by kernel_rfl) (by exact fun _ _ _ h => h) (Or.inl ⟨by rfl, ?_⟩) (by assumption) ?_
          rotate_left 1
          · (intro wS hSw; (try dsimp only at hSw); go_simp; try (with_reducible rfl))
          try simp only [Act.put, List.setIfInBounds_toArray, List.set_cons_zero, List.set_cons_succ]
          refine wpAnyH_take (i := 1) (v := ?_) (by simp only [List.getElem?_toArray, List.getElem?_cons_succ, List.getElem?_cons_zero]; rfl) (by kernel_rfl) (by kernel_rfl) (by kernel_rfl) (by exact fun _ _ _ h => h) (Or.inl ⟨by rfl, ?_⟩) (by assumption) ?_
          rotate_left 1
          · (intro wS hSw; (try dsimp only at hSw); go_simp; try (with_reducible rfl))
          try simp only [Act.put, List.setIfInBounds_toArray, List.set_cons_zero, List.set_cons_succ]
          refine wpAnyH_take (i := 2) (v := ?_) (by simp only [List.getElem?_toArray, List.getElem?_cons_succ, List.getElem?_cons_zero]; rfl) (by kernel_rfl) (by kernel_rfl) (by kernel_rfl) (by exact fun _ _ _ h => h) (Or.inl ⟨by rfl, ?_⟩) (by assumption) ?_
          rotate_left 1
          · (intro wS hSw; (try dsimp only at hSw); go_simp; try (with_reducible rfl))
          try simp only [Act.put, List.setIfInBounds_toArray, List.set_cons_zero, List.set_cons_succ]
          refine wpAnyH_take (i := 3) (v := ?_) (by simp only [List.getElem?_toArray, List.getElem?_cons_succ, List.getElem?_cons_zero]; rfl) (by kernel_rfl) (by kernel_rfl) (by kernel_rfl) (by exact fun _ _ _ h => h) (Or.inl ⟨by rfl, ?_⟩) (by assumption) ?_
          rotate_left 1
          · (intro wS hSw; (try dsimp only at hSw); go_simp; try (with_reducible rfl))
          try simp only [Act.put, List.setIfInBounds_toArray, List.set_cons_zero, List.set_cons_succ]
          refine wpAnyH_take (i := 4) (v := ?_) (by simp only [List.getElem?_toArray, List.getElem?_cons_succ, List.getElem?_cons_zero]; rfl) (by kernel_rfl) (by kernel_rfl) (by kernel_rfl) (by exact fun _ _ _ h => h) (Or.inl ⟨by rfl, ?_⟩) (by assumption) ?_
          rotate_left 1
          · (intro wS hSw; (try dsimp only at hSw); go_simp; try (with_reducible rfl))
          try simp only [Act.put, List.setIfInBounds_toArray, List.set_cons_zero, List.set_cons_succ]
          refine wpAnyH_done (by kernel_rfl) ?_ _
          go_wp2
          go_ret2
          refine ⟨?_, (bel HB1.out HBW.out).drew⟩
          have := HGO.out
          rw [if_neg (by simpa using HZ.out)] at this
          rw [← this]
          rfl
  · rw [if_pos h0]
    have h0' : (A == 0) = false := by simpa using h0
    go_enter Tryz.func16, Tryz.ntmps16
    go_wp2_with (go_at_call 38; refine HK1.out.mono ?_; rintro e w1 ⟨rfl, hb1⟩)
    all_goals (go_ret2; exact ⟨rfl, bel (bel_alloc _ _) hb1⟩)

end Go.Proofs.YtnlgkkbmbijndaaGreat
/- Layer 16's statements: rows that are copied, small code, works. -/
namespace Go.Proofs.YtnlgkkbmbijndaaGreat
open Go.RowKit
set_option linter.unusedVariables false
set_option linter.unusedSimpArgs false

def insV (i : Ins) : Value := .agg #[.int .i64 i.op, .int .i64 i.d, .int .i64 i.a, .int .i64 i.b, .int .i64 i.c, .int .i64 i.n, .int .u32 i.bits]

theorem ins_cells {w v : World} {i : Ins} {t : TypeId} (k : Below (w.alloc (.cells #[.int .i64 i.op, .int .i64 i.d, .int .i64 i.a, .int .i64 i.b, .int .i64 i.c, .int .i64 i.n, .int .u32 i.bits] t)).heap.size (w.alloc (.cells #[.int .i64 i.op, .int .i64 i.d, .int .i64 i.a, .int .i64 i.b, .int .i64 i.c, .int .i64 i.n, .int .u32 i.bits] t)) v) : CellsAt v w.heap.size 0 (inC i) := by
  refine CellsAt.below (fun j hj => ?_) k
  have hj' : j < 7 := hj
  obtain rfl | rfl | rfl | rfl | rfl | rfl | rfl : j = 0 ∨ j = 1 ∨ j = 2 ∨ j = 3 ∨ j = 4 ∨ j = 5 ∨ j = 6 := by omega
  all_goals simp [go_sem, inC]

set_option maxRecDepth 100000 in
set_option maxHeartbeats 1000000 in
theorem sets_any (i : Ins) (w : World) : Calls Tryz.prog 108 #[insV i] w fun e w' => e = .returned (.bool ((rowP i.op).d != 0)) ∧ Below w.heap.size w w' := by
  have K1 := fun w => rowOf_any i.op w
  obtain ⟨r, hr⟩ : ∃ r, rowP i.op = r := ⟨_, rfl⟩
  obtain ⟨X, hX⟩ : ∃ X, knownP i.op = X := ⟨_, rfl⟩
  simp only [hr, hX] at K1 ⊢
  obtain ⟨L0, L1, L2, L3, L4⟩ := r
  obtain ⟨op, D, A, B, E, n, bt⟩ := i
  unfold insV
  unfold rwV at K1
  simp only at K1 ⊢
  have HK : Hid (∀ w, Calls Tryz.prog 74 #[.int .i64 op] w fun e w' => e = .returned (.tuple #[.agg #[.int .i64 L0, .int .i64 L1, .int .i64 L2, .int .i64 L3, .int .i64 L4], .bool X]) ∧ Below w.heap.size w w') := K1
  clear K1 hr hX
  go_enter Tryz.func108, Tryz.ntmps108
  go_wp2_with (go_at_call 74; refine (HK.out _).mono ?_; rintro e w1 ⟨rfl, hb1⟩)
  go_ret
  exact ⟨rfl, bel (bel (bel_alloc _ _) hb1) (bel_alloc _ _)⟩

set_option maxRecDepth 100000 in
set_option maxHeartbeats 1000000 in
theorem reads_any (i : Ins) (w : World) : Calls Tryz.prog 109 #[insV i] w fun e w' => ∃ v, e = .returned v ∧ w'.ownsRow w.heap.size 3 1 v (readsP i (rowP i.op)).length (i64s (readsP i (rowP i.op))) ∧ Below w.heap.size w w' := by
  have K1 := fun w => rowOf_any i.op w
  have K2 := fun w h => readBy_any w.heap.size 0 i (rowP i.op) w h
  clear K2
  have K3 := fun b v h => readBy_any b 0 i (rowP i.op) v h
  have HIC := fun (v : World) k => ins_cells (w := w) (v := v) (i := i) (t := 70) k
  obtain ⟨r, hr⟩ : ∃ r, rowP i.op = r := ⟨_, rfl⟩
  obtain ⟨X, hX⟩ : ∃ X, knownP i.op = X := ⟨_, rfl⟩
  simp only [hr, hX] at K1 K3 ⊢
  obtain ⟨RL, hRL⟩ : ∃ x, readsP i r = x := ⟨_, rfl⟩
  simp only [hRL] at K3 ⊢
  obtain ⟨L0, L1, L2, L3, L4⟩ := r
  obtain ⟨op, D, A, B, E, n, bt⟩ := i
  unfold insV
  unfold rwV at K1 K3
  simp only at K1 K3 HIC ⊢
  have HK : Hid (∀ w, Calls Tryz.prog 74 #[.int .i64 op] w fun e w' => e = .returned (.tuple #[.agg #[.int .i64 L0, .int .i64 L1, .int .i64 L2, .int .i64 L3, .int .i64 L4], .bool X]) ∧ Below w.heap.size w w') := K1
  have HK3 : Hid (∀ b v, CellsAt v b 0 (inC ⟨op, D, A, B, E, n, bt⟩) → Calls Tryz.prog 77 #[.agg #[.int .i64 L0, .int .i64 L1, .int .i64 L2, .int .i64 L3, .int .i64 L4], .pointer (some ⟨b, 0, none⟩)] v fun e w' => ∃ u, e = .returned u ∧ w'.ownsRow v.heap.size 3 1 u RL.length (i64s RL) ∧ Below v.heap.size v w') := K3
  have HCC : Hid (∀ v, Below (w.alloc (.cells #[.int .i64 op, .int .i64 D, .int .i64 A, .int .i64 B, .int .i64 E, .int .i64 n, .int .u32 bt] 70)).heap.size (w.alloc (.cells #[.int .i64 op, .int .i64 D, .int .i64 A, .int .i64 B, .int .i64 E, .int .i64 n, .int .u32 bt] 70)) v → CellsAt v w.heap.size 0 (inC ⟨op, D, A, B, E, n, bt⟩)) := HIC
  clear K1 K3 HIC hr hX hRL
  go_enter Tryz.func109, Tryz.ntmps109
  go_wp2_with (first
    | (go_at_call 74; refine (HK.out _).mono ?_; rintro e w1 ⟨rfl, hb1⟩)
    | (go_at_call 77; refine (HK3.out _ _ (HCC.out _ (bel hb1 (bel_alloc _ _)))).mono ?_; rintro e w2 ⟨u, rfl, hu, hb2⟩; have HU : Hid (w2.ownsRow (w1.alloc (.cells #[.int .i64 L0, .int .i64 L1, .int .i64 L2, .int .i64 L3, .int .i64 L4] 144)).heap.size 3 1 u RL.length (i64s RL)) := hu; have HB2 : Hid (Below w.heap.size w w2) := bel (bel (bel (bel_alloc _ _) hb1) (bel_alloc _ _)) hb2; have hs : w.heap.size ≤ (w1.alloc (.cells #[.int .i64 L0, .int .i64 L1, .int .i64 L2, .int .i64 L3, .int .i64 L4] 144)).heap.size := (bel (bel (bel_alloc _ _) hb1) (bel_alloc _ _)).size; have HSZ : Hid (w.heap.size ≤ (w1.alloc (.cells #[.int .i64 L0, .int .i64 L1, .int .i64 L2, .int .i64 L3, .int .i64 L4] 144)).heap.size) := hs; clear hu hb2 hs))
  go_ret
  exact ⟨_, rfl, own_mono HU.out HSZ.out, HB2.out⟩

/-- Rows, k cells an element. -/
def flat {α : Type} (f : α → List Value) (l : List α) : List Value := l.flatMap f
theorem flat_len {α : Type} {f : α → List Value} {k : Nat} (hf : ∀ x, (f x).length = k) : ∀ l : List α, (flat f l).length = l.length * k
  | [] => by simp [flat]
  | a :: l => by
    have e : flat f (a :: l) = f a ++ flat f l := by simp [flat]
    rw [e, List.length_append, flat_len hf l, hf, List.length_cons, Nat.add_mul, Nat.one_mul, Nat.add_comm]
theorem flat_at {α : Type} {f : α → List Value} {k : Nat} (hf : ∀ x, (f x).length = k) : ∀ (l : List α) (i j : Nat) (hi : i < l.length), j < k → (flat f l)[i * k + j]? = (f l[i])[j]?
  | [], i, j, hi, hj => absurd hi (Nat.not_lt_zero _)
  | a :: l, 0, j, hi, hj => by
    have e : flat f (a :: l) = f a ++ flat f l := by simp [flat]
    rw [e, Nat.zero_mul, Nat.zero_add, List.getElem?_append_left (by rw [hf]; exact hj)]
    rfl
  | a :: l, i + 1, j, hi, hj => by
    have e : flat f (a :: l) = f a ++ flat f l := by simp [flat]
    have e2 : (i + 1) * k + j - (f a).length = i * k + j := by rw [hf, Nat.add_mul, Nat.one_mul]; omega
    rw [e, List.getElem?_append_right (by rw [hf, Nat.add_mul, Nat.one_mul]; omega), e2]
    exact flat_at hf l i j (by simpa using hi) hj
theorem flat_snoc {α : Type} (f : α → List Value) (l : List α) (x : α) : flat f (l ++ [x]) = flat f l ++ f x := by simp [flat]
/-- An own row reads. -/
theorem own_row {α : Type} {f : α → List Value} {k : Nat} (hf : ∀ x, (f x).length = k) {w : World} {B : Nat} {t : TypeId} {v : Value} {l : List α} (h : w.ownsRow B t k v l.length (flat f l)) : RowG k f w v l := by
  by_cases h0 : l = []
  · subst h0
    obtain ⟨p, c, hv⟩ := own_len h
    exact ⟨p, c, hv, .inl rfl⟩
  · obtain ⟨g, cap, hv, _, _, _, _, hcl⟩ := own_open h (List.length_pos_iff.2 h0)
    refine ⟨_, cap, hv, .inr ⟨g, 0, rfl, fun i hi j hj => ?_⟩⟩
    rw [Nat.zero_add]
    exact hcl _ _ (by rw [flat_at hf l i j hi (by rw [← hf l[i]]; exact hj)]; exact List.getElem?_eq_getElem hj)
theorem add_none (b o j : Nat) : (⟨b, o, none⟩ : Addr).add j = ⟨b, o + j, none⟩ := by unfold Addr.add; split <;> simp_all
/-- The cells of a row, one behind the other. -/
theorem row_cells {α : Type} {f : α → List Value} {k : Nat} (hk : 0 < k) (hf : ∀ x, (f x).length = k) {w : World} {b o : Nat} {l : List α} (h : ∀ i (hi : i < l.length), CellsAt w b (o + i * k) (f l[i])) (j : Nat) (u : Value) (hu : (flat f l)[j]? = some u) : w.cell? ((⟨b, o, none⟩ : Addr).add j) = some u := by
  have hj : j < l.length * k := by have := (List.getElem?_eq_some_iff.1 hu).1; rwa [flat_len hf] at this
  have hi : j / k < l.length := Nat.div_lt_of_lt_mul (by rw [Nat.mul_comm]; exact hj)
  have hm : j % k < k := Nat.mod_lt _ hk
  have e : j = j / k * k + j % k := by rw [Nat.mul_comm]; exact (Nat.div_add_mod j k).symm
  rw [e, flat_at hf l _ _ hi hm] at hu
  rw [add_none]
  have := (h _ hi).at _ hu
  rw [Nat.add_assoc, ← e] at this
  exact this
/-- append of a row to nothing. -/
theorem app_rowG {α : Type} {f : α → List Value} {k bytes : Nat} {t e : TypeId} {z : Value} {i : TypeInfo} (hk : 0 < k) (hf : ∀ x, (f x).length = k) (h1 : ∀ x, ∀ u ∈ f x, u.oneCell' = true) (ht : Tryz.prog.underlying t = some (.slice e)) (hi : Tryz.prog.info? e = some i) (hz : i.zero = some z) (hsize : i.size = k) (hby : i.bytes = bytes) (hzs : z.cells.size = k)
    {l : List α} {v : Value} {w : World} (h : RowG k f w v l) (hl : l.length ≤ maxLen) (hb : l.length * bytes ≤ 140737488355328) (ty : TypeId) :
    ∃ v' w', (Builtin.append_ #[t, t] ty #[.slice none 0 0, v]).run Tryz.prog w = .ok v' w' ∧ Below w.heap.size w w' ∧ w'.ownsRow w.heap.size e k v' l.length (flat f l) := by
  obtain ⟨p, c, rfl, h⟩ := h
  by_cases h0 : l = []
  · subst h0
    refine ⟨.slice none 0 0, w, ?_, Below.refl _ _, ⟨by simp [flat], .inl ⟨rfl, rfl⟩⟩⟩
    cases p with
    | none => simp [Builtin.append_, run_underlying ht, sizeOf, typeInfo, hi, Builtin.lenOf, Builtin.firstCells, storeCells]
    | some a => simp [Builtin.append_, run_underlying ht, sizeOf, typeInfo, hi, Builtin.lenOf, Builtin.firstCells, storeCells, loadCells, loadCellsFrom]
  · obtain ⟨b, o, rfl, h2⟩ := h.resolve_left h0
    have hpos : 0 < l.length := List.length_pos_iff.2 h0
    obtain ⟨g, cap, w', hr, hown, hg, hat, hlt⟩ := run_append_lies (P := Tryz.prog) w t ty w.heap.size e i z k bytes ht hi hz hsize hby hzs hk (.slice none 0 0) 0 [] (World.ownsRow_nil w _ _ k) ⟨b, o, none⟩ l.length c (flat f l) (flat_len hf l) (row_cells hk hf h2) (by intro u hu; obtain ⟨x, _, hx⟩ := List.mem_flatMap.1 hu; exact h1 x u hx) hpos (by omega) (by rw [Nat.zero_add]; exact hb) (Nat.le_refl _) w.heap.size rfl
    rw [Nat.zero_add] at hr hown
    exact ⟨_, w', hr, ⟨hg.os, hg.tape, hg.output, hg.size, fun j hj => hg.block j hj (by show some j ≠ none; simp)⟩, by rw [List.nil_append] at hown; exact hown⟩
theorem wpList_app {P : Program} {w w' : World} {ops : Array Oper} {rest : List Oper} {o : Oper} {a : Act} {Q : Exit → Act → World → Prop} (hgd : o.guard = none) (s x : Operand) (t : TypeId)
    (ho : o.op = .call { callee := .builtin .append, args := #[s, x], argTypes := #[t, t] }) (v v2 v' : Value) (hs : a.eval s = v) (hx : a.eval x = v2) (hr : (Builtin.append_ #[t, t] o.type #[v, v2]).run P w = .ok v' w')
    (h : wpList P ops Q rest (a.put o.dst v') w') : wpList P ops Q (o :: rest) a w :=
  wpList_plain hgd fun _ hK => by
    unfold Oper.wp execOp
    simp only [ho, resolve, invoke, builtin, Sem.run_bind, Sem.run_pure, Result.andThen_ok, List.map_toArray, List.map_cons, List.map_nil, hs, hx, hr]
    exact hK _ _ h
theorem inC_one : ∀ x : Ins, ∀ u ∈ inC x, u.oneCell' = true := fun x u hu => by simp [inC] at hu; rcases hu with rfl | rfl | rfl | rfl | rfl | rfl | rfl <;> rfl
theorem info_Inst : (Tryz.prog.info? 70).map (fun i => (i.zero, i.size, i.bytes)) = some (some (.agg #[.int .i64 0, .int .i64 0, .int .i64 0, .int .i64 0, .int .i64 0, .int .i64 0, .int .u32 0]), 7, 56) := by kernel_rfl
/-- A copy of a list of instructions. -/
theorem app_ins {l : List Ins} {v : Value} {w : World} (h : RowG 7 inC w v l) (hl : l.length * 56 ≤ 140737488355328) (ty : TypeId) :
    ∃ v' w', (Builtin.append_ #[25, 25] ty #[.slice none 0 0, v]).run Tryz.prog w = .ok v' w' ∧ Below w.heap.size w w' ∧ w'.ownsRow w.heap.size 70 7 v' l.length (flat inC l) := by
  obtain ⟨i0, hi0, hz0, hz1, hz2⟩ := info_parts info_Inst
  exact app_rowG (by decide) inC_len inC_one Tryz.underlying25 hi0 hz0 hz1 hz2 rfl h (by unfold maxLen; omega) hl ty

end Go.Proofs.YtnlgkkbmbijndaaGreat
/- An own row grows by one. -/
namespace Go.Proofs.YtnlgkkbmbijndaaGreat
open Go.RowKit
set_option linter.unusedVariables false
set_option linter.unusedSimpArgs false

theorem own_app2 {B : Nat} {V : World} {e t : TypeId} {z : Value} {sz by' : Nat} (ht : Tryz.prog.underlying t = some (.slice e)) (hi : (Tryz.prog.info? e).map (fun i => (i.zero, i.size, i.bytes)) = some (some z, sz, by')) (hzs : z.cells.size = sz) (hsz : 0 < sz) {p : Option Addr} {n q : Nat} {xs : List Value} (h : V.ownsRow B e sz (.slice p n q) n xs) (hB : B ≤ V.heap.size)
    (cs : Array Value) (hcs : cs.size = sz) (h1 : ∀ u ∈ cs.toList, u.oneCell' = true) (hn : n + 1 ≤ maxLen) (hb : (n + 1) * by' ≤ 140737488355328) (ty : TypeId) :
    ∃ g c' w', (Builtin.append_ #[t, t] ty #[.slice p n q, .slice (some ⟨V.heap.size, 0, none⟩) 1 1]).run Tryz.prog (V.alloc (.cells cs e)) = .ok (.slice (some ⟨g, 0, none⟩) (n + 1) c') w' ∧ Below B V w' ∧ w'.ownsRow B e sz (.slice (some ⟨g, 0, none⟩) (n + 1) c') (n + 1) (xs ++ cs.toList) ∧ (∀ b, b < V.heap.size → (Value.slice p n q).ownBlock ≠ some b → w'.heap[b]? = V.heap[b]?) ∧ ((Value.slice p n q).ownBlock = some g ∨ V.heap.size < g) := by
  obtain ⟨i0, hi0, hz0, hz1, hz2⟩ := info_parts hi
  have hb0 : Below V.heap.size V (V.alloc (.cells cs e)) := bel_alloc _ _
  have hs : (V.alloc (.cells cs e)).heap.size = V.heap.size + 1 := by simp
  have h0 := own_below h hb0
  obtain ⟨g, cap, w3, hr, hown, hgrow, hat, hlt⟩ := run_append_lies (P := Tryz.prog) (V.alloc (.cells cs e)) t ty B e i0 _ sz by' ht hi0 hz0 hz1 hz2 hzs hsz (.slice p n q) n xs h0 ⟨V.heap.size, 0, none⟩ 1 1 cs.toList (by simp [hcs])
    (World.news_of_block (cs := cs) (t := e) (fr := (0, 0)) (heap_alloc_new V _)) h1 (by decide) hn hb (by omega) _ rfl
  refine ⟨g, cap, w3, hr, (hb0.mono hB).grown hgrow (by omega) (fun q e => (h0.lt q e).1), hown, fun b hb hne => ?_, ?_⟩
  · rw [hgrow.block b (by omega) (Ne.symm hne)]
    exact hb0.block b hb
  · rcases hat with e | e
    · exact .inl e
    · exact .inr (by omega)

end Go.Proofs.YtnlgkkbmbijndaaGreat
/- Package code: the writer: small, number, fixed. -/
namespace Go.Proofs.YtnlgkkbmbijndaaGreat
open Go.RowKit
set_option linter.unusedVariables false
set_option linter.unusedSimpArgs false

theorem hidC {p : Prop} (h : p) : Hid p := h
def u8s (l : List Nat) : List Value := l.map fun (b : Nat) => .int .u8 (b : Int)
theorem u8s_snoc (l : List Nat) (b : Nat) : u8s (l ++ [b]) = u8s l ++ [.int .u8 (b : Int)] := by unfold u8s; rw [List.map_append]; rfl
/-- A writer that holds these bytes. -/
structure WrM (E WB : Nat) (l : List Nat) (v : Value) (w : World) : Prop where
  b : w.rowIs WB 51 1 (fun _ => v)
  o : w.ownsRow E 5 1 v l.length (u8s l)
  ge : E ≤ WB
  le : E ≤ w.heap.size
theorem WrM.below {E WB : Nat} {l : List Nat} {v : Value} {w w' : World} (h : WrM E WB l v w) (k : Below w.heap.size w w') : WrM E WB l v w' := ⟨h.b.of_block (k.block _ h.b.lt), own_below h.o k, h.ge, Nat.le_trans h.le k.size⟩
/-- What a writer leaves as it was. -/
def WrO (WB : Nat) (v : Value) (w : World) (v' : Value) (w' : World) : Prop := w.heap.size ≤ w'.heap.size ∧ ∀ b, b < w.heap.size → b ≠ WB → v.ownBlock ≠ some b → w'.heap[b]? = w.heap[b]? ∧ v'.ownBlock ≠ some b
theorem WrO.refl (WB : Nat) (v : Value) (w : World) : WrO WB v w v w := ⟨Nat.le_refl _, fun b _ _ h => ⟨rfl, h⟩⟩
theorem WrO.trans {WB : Nat} {v v' v'' : Value} {w w' w'' : World} (h : WrO WB v w v' w') (k : WrO WB v' w' v'' w'') : WrO WB v w v'' w'' :=
  ⟨Nat.le_trans h.1 k.1, fun b h1 h2 h3 => by
    obtain ⟨a1, a2⟩ := h.2 b h1 h2 h3
    obtain ⟨b1, b2⟩ := k.2 b (Nat.lt_of_lt_of_le h1 h.1) h2 a2
    exact ⟨b1.trans a1, b2⟩⟩
theorem WrO.below {E WB : Nat} {l : List Nat} {v v' : Value} {w w1 w' : World} (hm : WrM E WB l v w) (k : Below w.heap.size w w1) (h : WrO WB v w1 v' w') : WrO WB v w v' w' :=
  ⟨Nat.le_trans k.size h.1, fun b h1 h2 h3 => by
    obtain ⟨a1, a2⟩ := h.2 b (Nat.lt_of_lt_of_le h1 k.size) h2 h3
    exact ⟨a1.trans (k.block b h1), a2⟩⟩
theorem info_U8 : (Tryz.prog.info? 5).map (fun i => (i.zero, i.size, i.bytes)) = some (some (.int .u8 0), 1, 1) := by kernel_rfl
theorem own_rowF {w : World} {B : Nat} {t t' : TypeId} {k n n' b : Nat} {v : Value} {xs : List Value} {f : Nat → Value} (h : w.ownsRow B t k v n xs) (h' : w.rowIs b t' n' f) (ht : t ≠ t') : v.ownBlock ≠ some b := by
  intro hb
  rcases h.2 with ⟨rfl, _⟩ | ⟨g, cap, cur, rfl, _, hg, _⟩
  · exact absurd (show (none : Option Nat) = some b from hb) (by simp)
  obtain ⟨c, hc, -⟩ := h'
  have e1 : g = b := Option.some.inj hb
  rw [e1, hc] at hg
  simp only [Option.some.injEq, Obj.cells.injEq] at hg
  exact ht hg.2.1.symm
/-- One more byte. -/
theorem WrM.app {E WB : Nat} {l : List Nat} {v : Value} {w : World} (h : WrM E WB l v w) (hl : l.length ≤ 100000000) (b : Nat) :
    ∃ p q g c' w', v = .slice p l.length q ∧ (Builtin.append_ #[49, 49] 49 #[.slice p l.length q, .slice (some ⟨w.heap.size, 0, none⟩) 1 1]).run Tryz.prog (w.alloc (.cells #[.int .u8 (b : Int)] 5)) = .ok (.slice (some ⟨g, 0, none⟩) (l.length + 1) c') w' ∧ w'.cell? ⟨WB, 0, none⟩ = some (.slice p l.length q) ∧ w'.frozen? ⟨WB, 0, none⟩ = false ∧ Below E w (w'.setCell ⟨WB, 0, none⟩ (.slice (some ⟨g, 0, none⟩) (l.length + 1) c')) ∧ WrM E WB (l ++ [b]) (.slice (some ⟨g, 0, none⟩) (l.length + 1) c') (w'.setCell ⟨WB, 0, none⟩ (.slice (some ⟨g, 0, none⟩) (l.length + 1) c')) ∧ WrO WB v w (.slice (some ⟨g, 0, none⟩) (l.length + 1) c') (w'.setCell ⟨WB, 0, none⟩ (.slice (some ⟨g, 0, none⟩) (l.length + 1) c')) := by
  obtain ⟨p, q, rfl⟩ := own_len h.o
  obtain ⟨g, c', w', h1, h2, h3, h4, h5⟩ := own_app2 (t := 49) (e := 5) Tryz.underlying49 info_U8 (by rfl) (by decide) h.o h.le #[.int .u8 (b : Int)] rfl (by simp [Value.oneCell']) (by unfold maxLen; omega) (by omega) 49
  have hb' := h.b.of_block (h4 _ h.b.lt (own_rowF h.o h.b (by decide)))
  refine ⟨p, q, g, c', w', rfl, h1, hb'.cell (i := 0) (by decide), hb'.frozen 0, h2.setCell h.ge _, ⟨(hb'.set 0 _).congr fun j hj => ?_, ?_, h.ge, by simpa using Nat.le_trans h.le h2.size⟩, by simpa using h2.size, fun k k1 k2 k3 => ⟨(Below.heap_setCell _ _ _ _ k2).trans (h4 k k1 k3), fun e => ?_⟩⟩
  · have : j = 0 := by omega
    subst this
    rfl
  · rw [List.length_append, u8s_snoc]
    exact own_keep h3 fun k hk => Below.heap_setCell _ _ _ _ (fun e => own_rowF h3 hb' (by decide) (hk.trans (congrArg some e)))
  · have e1 : g = k := Option.some.inj e
    rcases h5 with q | q
    · exact k3 (by rw [q, e1])
    · omega

set_option maxRecDepth 100000 in
set_option maxHeartbeats 4000000 in
theorem wsmall_any (E WB : Nat) (l : List Nat) (v : Value) (w : World) (h : WrM E WB l v w) (hl : l.length ≤ 100000000) (n : Nat) (hn : n < 256) :
    Calls Tryz.prog 80 #[.pointer (some ⟨WB, 0, none⟩), .int .i64 (n : Int)] w fun e w' => e = .returned (.tuple #[]) ∧ Below E w w' ∧ ∃ v', WrM E WB (l ++ [n]) v' w' ∧ WrO WB v w v' w' := by
  obtain ⟨p, q, g, c', w', rfl, hrun, c0, f0, hb, hW, hO⟩ := h.app hl n
  have b0 : w.cell? ⟨WB, 0, none⟩ = some (.slice p l.length q) := h.b.cell (i := 0) (by decide)
  have b0' : (w.alloc (.cells #[.int .u8 (n : Int)] 5)).cell? ⟨WB, 0, none⟩ = some (.slice p l.length q) := kc (bel_alloc _ _) b0
  have hwr : IntKind.u8.wrap (n : Int) = (n : Int) := by rw [IntKind.wrap_u8']; omega
  have HRUN := hidC (hrun)
  have HB := hidC (hb)
  have HW := hidC hW
  have HO := hidC hO
  clear hrun hb hW h hO
  go_enter Tryz.func80, Tryz.ntmps80
  go_wp2_with (at_builtin; refine wpList_app (by rfl) _ _ _ (by rfl) _ _ _ (by rfl) (by rfl) HRUN.out ?_)
  first | go_end0 | refine bodyPost_ret (results_none rfl _ _ _) rfl ?_
  exact ⟨rfl, HB.out, _, HW.out, HO.out⟩

set_option maxRecDepth 100000 in
set_option maxHeartbeats 4000000 in
theorem wnumber_any (E WB : Nat) (l : List Nat) (v : Value) (w : World) (h : WrM E WB l v w) (n : Nat) (hn : n < 9223372036854775808) (hl : l.length + (numB n).length ≤ 100000000) :
    Calls Tryz.prog 79 #[.pointer (some ⟨WB, 0, none⟩), .int .i64 (n : Int)] w fun e w' => e = .returned (.tuple #[]) ∧ Below E w w' ∧ ∃ v', WrM E WB (l ++ numB n) v' w' ∧ WrO WB v w v' w' := by
  have HK : Hid (∀ (m : List Nat) (v : Value) (u : World) (k : Nat), WrM E WB m v u → m.length ≤ 100000000 → k < 256 → Calls Tryz.prog 80 #[.pointer (some ⟨WB, 0, none⟩), .int .i64 (k : Int)] u fun e w' => e = .returned (.tuple #[]) ∧ Below E u w' ∧ ∃ v', WrM E WB (m ++ [k]) v' w' ∧ WrO WB v u v' w') := fun m v u k a b c => wsmall_any E WB m v u a b k c
  have HS : Hid (Below E w w ∧ ∃ v', WrM E WB l v' w ∧ WrO WB v w v' w) := ⟨Below.refl E w, v, h, WrO.refl _ _ _⟩
  clear h
  go_enter Tryz.func79, Tryz.ntmps79
  go_wp2_with fail
  go_loopw [1] (fun nv wx => ∃ (k : Nat) (m : List Nat), nv = .int .i64 (k : Int) ∧ Hid (k < 9223372036854775808 ∧ m ++ numB k = l ++ numB n) ∧ Hid (Below E w wx ∧ ∃ v', WrM E WB m v' wx ∧ WrO WB v w v' wx)) (fun nv _ => (intOf nv).toNat)
  case atStart => exact ⟨n, l, rfl, ⟨hn, rfl⟩, HS.out⟩
  case round =>
    clear HS
    obtain ⟨k, m, rfl, HE, HJ⟩ := hrel
    obtain ⟨hk, he⟩ := HE.out
    obtain ⟨hb, v2, hW, hO⟩ := HJ.out
    have HO := hidC hO
    clear hO
    have hml : m.length + (numB k).length = l.length + (numB n).length := by rw [← List.length_append, he, List.length_append]
    by_cases hlt : k < 128
    · have e1 : ¬ (128 : Int) ≤ (k : Int) := by omega
      have KS := hidC (HK.out m v2 wr k hW (by omega) (by omega))
      have HN : Hid (m ++ [k] = l ++ numB n) := by
        show m ++ [k] = l ++ numB n
        rw [← he, numB_low hlt]
      have HB : Hid (Below E w wr) := hb
      clear hW hb hml HE HJ he
      go_wp2_with (go_at_call 80; (with_reducible refine KS.out.mono ?_); rintro e9 w4 ⟨rfl, hb4, hf4⟩; have HB4 := hidC (hb4); have HF4 := hidC (hf4); clear hb4 hf4)
      first | go_end0 | refine bodyPost_ret (results_none rfl _ _ _) rfl ?_ | (simp only [Exit.inBlock, Exit.then]; refine bodyPost_ret (results_none rfl _ _ _) rfl ?_)
      refine ⟨rfl, HB.out.trans HB4.out, ?_⟩
      rw [← HN.out]
      obtain ⟨v5, a1, a2⟩ := HF4.out
      exact ⟨v5, a1, HO.out.trans a2⟩
    · have e1 : (128 : Int) ≤ (k : Int) := by omega
      obtain ⟨Q, hQ⟩ : ∃ q, k % 128 + 128 = q := ⟨_, rfl⟩
      have KS := hidC (HK.out m v2 wr Q hW (by omega) (by omega))
      have HN : Hid ((m ++ [Q]) ++ numB (k / 128) = l ++ numB n) := by
        show (m ++ [Q]) ++ numB (k / 128) = l ++ numB n
        rw [← he, numB_high hlt, hQ]
        simp
      have HB : Hid (Below E w wr) := hb
      have t1 : ((k : Int).tmod 128) = ((k % 128 : Nat) : Int) := by rw [Int.tmod_eq_emod_of_nonneg (by omega)]; rfl
      have t2 : IntKind.i64.wrap ((k : Int) % 128 + 128) = (Q : Int) := by rw [IntKind.wrap_i64]; omega
      have t3 : ((k : Int).tdiv 128) = ((k / 128 : Nat) : Int) := by rw [Int.tdiv_eq_ediv_of_nonneg (by omega)]; rfl
      have HK2 : Hid (k / 128 < 9223372036854775808) := by show k / 128 < _; omega
      clear hW hb hml HE HJ he hQ
      go_wp2_with (go_at_call 80; (with_reducible refine KS.out.mono ?_); rintro e9 w4 ⟨rfl, hb4, hf4⟩; have HB4 := hidC (hb4); have HF4 := hidC (hf4); clear hb4 hf4)
      go_roundw
      case rel =>
        obtain ⟨v5, a1, a2⟩ := HF4.out
        exact ⟨k / 128, _, by first | rfl | simp, ⟨HK2.out, HN.out⟩, HB.out.trans HB4.out, v5, a1, HO.out.trans a2⟩
      case measure => simp [intOf]; omega

set_option maxRecDepth 100000 in
set_option maxHeartbeats 4000000 in
theorem wfixed_any (E WB : Nat) (l : List Nat) (v : Value) (w : World) (h : WrM E WB l v w) (n : Nat) (hn : n < 18446744073709551616) (c : Nat) (hc : c ≤ 1000) (hl : l.length + c ≤ 100000000) :
    Calls Tryz.prog 18 #[.pointer (some ⟨WB, 0, none⟩), .int .u64 (n : Int), .int .i64 (c : Int)] w fun e w' => e = .returned (.tuple #[]) ∧ Below E w w' ∧ ∃ v', WrM E WB (l ++ lowB c n) v' w' ∧ WrO WB v w v' w' := by
  have HS : Hid (Below E w w ∧ ∃ v', WrM E WB l v' w ∧ WrO WB v w v' w) := ⟨Below.refl E w, v, h, WrO.refl _ _ _⟩
  clear h
  go_enter Tryz.func18, Tryz.ntmps18
  go_upto_block 0 with fail
  go_wp2_with fail
  go_loopw [1, 7] (fun nv iv wx => ∃ (k j : Nat) (m : List Nat), j ≤ c ∧ nv = .int .u64 (k : Int) ∧ iv = .int .i64 (j : Int) ∧ Hid (k < 18446744073709551616 ∧ m ++ lowB (c - j) k = l ++ lowB c n) ∧ Hid (Below E w wx ∧ ∃ v', WrM E WB m v' wx ∧ WrO WB v w v' wx)) (fun _ iv _ => c - (intOf iv).toNat)
  case atStart => exact ⟨n, 0, l, Nat.zero_le _, rfl, rfl, ⟨hn, rfl⟩, HS.out⟩
  case round =>
    clear HS
    obtain ⟨k, j, m, hj, rfl, rfl, HE, HJ⟩ := hrel
    obtain ⟨hk, he⟩ := HE.out
    obtain ⟨hb, v2, hW, hO⟩ := HJ.out
    have HO := hidC hO
    clear hO
    have hml : m.length + (c - j) = l.length + c := by
      have := congrArg List.length he
      rw [List.length_append, List.length_append, lowB_len, lowB_len] at this
      exact this
    by_cases hlt : j < c
    · have e1 : (j : Int) < (c : Int) := by omega
      obtain ⟨p, q, g, c', w', rfl, hrun, c0, f0, hb2, hW2, hO2⟩ := hW.app (by omega) (k % 256)
      have HO2 := hidC (HO.out.trans hO2)
      clear hO2
      have b0 : wr.cell? ⟨WB, 0, none⟩ = some (.slice p m.length q) := hW.b.cell (i := 0) (by decide)
      obtain ⟨Q, hQ⟩ : ∃ q, k % 256 = q := ⟨_, rfl⟩
      rw [hQ] at hrun hW2
      have b0' : (wr.alloc (.cells #[.int .u8 (Q : Int)] 5)).cell? ⟨WB, 0, none⟩ = some (.slice p m.length q) := kc (bel_alloc _ _) b0
      have hwr : IntKind.u8.wrap (k : Int) = (Q : Int) := by rw [IntKind.wrap_u8']; omega
      have hN : (m ++ [Q]) ++ lowB (c - (j + 1)) (k / 256) = l ++ lowB c n := by
        rw [← he, ← hQ, show c - j = (c - (j + 1)) + 1 by omega]
        show _ = m ++ (k % 256 :: lowB (c - (j + 1)) (k / 256))
        simp
      have HN := hidC (hN)
      have HRUN := hidC (hrun)
      have HB2 := hidC (hb.trans hb2)
      have HW2 := hidC (hW2)
      have wj : IntKind.i64.wrap ((j : Int) + 1) = ((j + 1 : Nat) : Int) := by rw [IntKind.wrap_i64]; omega
      have HK2 : Hid (k / 256 < 18446744073709551616) := by show k / 256 < _; omega
      clear hN hrun hb hb2 hW hW2 hml HE HJ he hQ
      go_wp2_with (at_builtin; refine wpList_app (by rfl) _ _ _ (by rfl) _ _ _ (by rfl) (by rfl) HRUN.out ?_)
      go_roundw
      case rel => exact ⟨k / 256, j + 1, _, by omega, by first | rfl | simp, by go_num, ⟨HK2.out, HN.out⟩, HB2.out, _, HW2.out, HO2.out⟩
      case measure => simp [intOf]; omega
    · have e1 : ¬ (j : Int) < (c : Int) := by omega
      have hjc : c - j = 0 := by omega
      rw [hjc] at he
      have HN : Hid (m = l ++ lowB c n) := by
        show m = l ++ lowB c n
        rw [← he]
        exact (List.append_nil m).symm
      have HQ : Hid (Below E w wr ∧ ∃ v', WrM E WB m v' wr ∧ WrO WB v w v' wr) := HJ.out
      clear hb hW hml HE HJ he hlt
      go_wp2
      first | go_end0 | refine bodyPost_ret (results_none rfl _ _ _) rfl ?_ | (simp only [Exit.inBlock, Exit.then]; refine bodyPost_ret (results_none rfl _ _ _) rfl ?_)
      refine ⟨rfl, HQ.out.1, ?_⟩
      rw [← HN.out]
      exact HQ.out.2

end Go.Proofs.YtnlgkkbmbijndaaGreat
