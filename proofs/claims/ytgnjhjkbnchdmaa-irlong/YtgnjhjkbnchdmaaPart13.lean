import Derived.Test.YtgnjhjkbnchdmaaPart10
import Derived.Test.YtgnjhjkbnchdmaaPart12
/- Package ir: Check. -/
namespace Go.Proofs.Ytgnjhjkbnchdmaa
open Go.RowKit
set_option linter.unusedVariables false
set_option linter.unusedSimpArgs false

theorem info_Bool : (Try.prog.info? 4).map (fun i => (i.zero, i.size, i.bytes)) = some (some (.bool false), 1, 1) := by kernel_rfl
theorem make_B (m : Nat) (h : m ≤ 70368744177664) (w : World) : (Instr.makeSlice 48 (.int .i64 m) (.int .i64 m)).run Try.prog w = .ok (.slice (some ⟨w.heap.size, 0, none⟩) m m) (w.alloc (.cells (madeCells #[.bool false] m) 4)) :=
  run_make_row' (P := Try.prog) 48 4 (.bool false) 1 Try.underlying48 info_Bool rfl .i64 .i64 m (by omega) (by omega) w

/-- The walk's beginning. -/
theorem WS.start (w : World) (C n : Nat) : WS w.heap.size (w.heap.size + 1) C n w.heap.size (.slice none 0 0) (.slice none 0 0) ((w.alloc (.cells (madeCells #[.bool false] n) 4)).alloc (.cells #[.pointer (some ⟨C, 0, none⟩), .slice (some ⟨w.heap.size, 0, none⟩) n n, .slice none 0 0, .slice none 0 0] 52)) ⟨[], []⟩ := by
  have h1 := (World.rowIs_made w (.bool false) n 4).alloc (.cells #[.pointer (some ⟨C, 0, none⟩), .slice (some ⟨w.heap.size, 0, none⟩) n n, .slice none 0 0, .slice none 0 0] 52)
  have h2 := World.rowIs_alloc (w.alloc (.cells (madeCells #[.bool false] n) 4)) #[.pointer (some ⟨C, 0, none⟩), .slice (some ⟨w.heap.size, 0, none⟩) n n, .slice none 0 0, .slice none 0 0] 52 (wkF C w.heap.size n (.slice none 0 0) (.slice none 0 0)) (fun i hi => by
    have hi' : i < 4 := hi
    obtain rfl | rfl | rfl | rfl : i = 0 ∨ i = 1 ∨ i = 2 ∨ i = 3 := by omega
    all_goals rfl)
  have hs : (w.alloc (.cells (madeCells #[.bool false] n) 4)).heap.size = w.heap.size + 1 := by simp
  rw [hs] at h2
  exact ⟨h2, h1.congr fun j _ => by simp, World.ownsRow_nil _ _ _ 1, World.ownsRow_nil _ _ _ 3, by omega, Nat.le_refl _, by omega, by simp [Value.ownBlock], by simp [Value.ownBlock], by simp [Value.ownBlock], by simp [Value.ownBlock], by simp [Value.ownBlock]⟩

set_option maxRecDepth 100000 in
set_option maxHeartbeats 4000000 in
theorem check_any (v0 v1 v2 v3 : Value) (c : Cd) (hk : CdOk c) (w : World) (hv : CdV w v0 v1 v2 v3 c) :
    Calls Try.prog 5 #[.agg #[v0, v1, v2, v3]] w fun e w' => e = .returned (.tuple #[.int .i64 (checkC c).1, .int .i64 (checkC c).2]) ∧ Below w.heap.size w w' := by
  have hat : CdAt (w.alloc (.cells #[v0, v1, v2, v3] 29)) w.heap.size v0 v1 v2 v3 c := by
    refine ⟨fun j hj => ?_, hv.below (bel_alloc _ _)⟩
    have hj' : j < 4 := hj
    obtain rfl | rfl | rfl | rfl : j = 0 ∨ j = 1 ∨ j = 2 ∨ j = 3 := by omega
    all_goals simp [go_sem]
  have K1 := faultAhead_any w.heap.size v0 v1 v2 v3 c hk _ hat
  unfold checkC
  obtain ⟨A, hA⟩ : ∃ A, aheadP c = A := ⟨_, rfl⟩
  rw [hA] at K1 ⊢
  have HK1 : Hid (Calls Try.prog 8 #[.pointer (some ⟨w.heap.size, 0, none⟩)] (w.alloc (.cells #[v0, v1, v2, v3] 29)) fun e w' => e = .returned (.int .i64 A) ∧ Below (w.alloc (.cells #[v0, v1, v2, v3] 29)).heap.size (w.alloc (.cells #[v0, v1, v2, v3] 29)) w') := K1
  clear K1
  by_cases h0 : A = 0
  · rw [if_neg (by simp [h0])]
    have hsz : c.regs.length ≤ 16384 ∧ c.list.length ≤ 32768 ∧ typesMay c = true := by
      rw [h0] at hA
      unfold aheadP at hA
      split at hA
      · rename_i e1; exact absurd hA e1
      · split at hA
        · exact absurd hA (by decide)
        · split at hA
          · exact absurd hA (by decide)
          · split at hA
            · rename_i e1 e2 e3 e4
              simp only [Bool.and_eq_true] at e4
              exact ⟨by omega, by omega, e4.1⟩
            · exact absurd hA (by decide)
    obtain ⟨hn, hN, htm⟩ := hsz
    clear hA
    subst h0
    have KT := fun E G gi vs vo s b o i w h ok hc hi hb hb0 hb1 => take_any E G w.heap.size c.regs.length gi vs vo s v0 v1 v2 v3 c hk b o i w h rfl ok hn hc hi hb htm hb0 hb1
    clear KT
    have hr := hv.list
    obtain ⟨p3, q3, rfl, hr3⟩ := hv.list
    obtain ⟨p1, q1, rfl, hr1⟩ := hv.regs
    have HAT : Hid (CdAt (w.alloc (.cells #[v0, .slice p1 c.regs.length q1, v2, .slice p3 c.list.length q3] 29)) w.heap.size v0 (.slice p1 c.regs.length q1) v2 (.slice p3 c.list.length q3) c) := hat
    obtain ⟨Pr, hPr⟩ : ∃ P, goP c ⟨[], []⟩ 0 c.list = P := ⟨_, rfl⟩
    rw [hPr]
    have HP : Hid (goP c ⟨[], []⟩ 0 c.list = Pr) := hPr
    have HROW : Hid (RowG 7 inC w (.slice p3 c.list.length q3) c.list) := hr
    have HIB : Hid (∀ i ∈ c.list, 0 ≤ i.bits ∧ i.bits < 4294967296) := hk.ibits
    obtain ⟨n, hnn⟩ : ∃ n, c.regs.length = n := ⟨_, rfl⟩
    obtain ⟨N, hNN⟩ : ∃ N, c.list.length = N := ⟨_, rfl⟩
    have HNE : Hid (c.regs.length = n) := hnn
    have HNL : Hid (c.list.length = N) := hNN
    rw [hnn] at hn HK1 HAT
    rw [hNN] at hN HK1 HAT HROW
    rw [hnn, hNN]
    have mk := fun w => make_B n (by omega) w
    have HOKC : Hid (CdOk c) := hk
    have HTM : Hid (typesMay c = true) := htm
    have f1 := HAT.out.1.at 1 rfl
    have f3 := HAT.out.1.at 3 rfl
    rw [Nat.zero_add] at f1 f3
    have HC : Hid (∀ v, Below (w.alloc (.cells #[v0, .slice p1 n q1, v2, .slice p3 N q3] 29)).heap.size (w.alloc (.cells #[v0, .slice p1 n q1, v2, .slice p3 N q3] 29)) v → v.cell? ⟨w.heap.size, 1, none⟩ = some (.slice p1 n q1) ∧ v.cell? ⟨w.heap.size, 3, none⟩ = some (.slice p3 N q3)) := fun v hv => ⟨kc hv f1, kc hv f3⟩
    clear hat hv hr hr3 hr1 hPr hnn hNN hk htm f1 f3
    go_enter Try.func5, Try.ntmps5
    go_wp2_with (go_at_call 8; refine HK1.out.mono ?_; rintro e w1 ⟨rfl, hb1⟩; obtain ⟨g1, g3⟩ := HC.out w1 hb1; have g4 : ((w1.alloc (.cells (madeCells #[.bool false] n) 4)).alloc (.cells #[.pointer (some ⟨w.heap.size, 0, none⟩), .slice (some ⟨w1.heap.size, 0, none⟩) n n, .slice none 0 0, .slice none 0 0] 52)).cell? ⟨w.heap.size, 3, none⟩ = some (.slice p3 N q3) := kc (bel_alloc _ _) (kc (bel_alloc _ _) g3))
    have HB1 : Hid (Below w.heap.size w w1) := bel (bel_alloc _ _) hb1
    have HAT1 : Hid (CdAt w1 w.heap.size v0 (.slice p1 n q1) v2 (.slice p3 N q3) c) := HAT.out.below hb1
    have hs1 : w.heap.size < w1.heap.size := by have := hb1.size; simp at this; omega
    have HS0 := WS.start w1 w.heap.size n
    have HB0 : Below w1.heap.size w1 ((w1.alloc (.cells (madeCells #[.bool false] n) 4)).alloc (.cells #[.pointer (some ⟨w.heap.size, 0, none⟩), .slice (some ⟨w1.heap.size, 0, none⟩) n n, .slice none 0 0, .slice none 0 0] 52)) := bel (bel_alloc _ _) (bel_alloc _ _)
    obtain ⟨W2, hW2⟩ : ∃ W2, (w1.alloc (.cells (madeCells #[.bool false] n) 4)).alloc (.cells #[.pointer (some ⟨w.heap.size, 0, none⟩), .slice (some ⟨w1.heap.size, 0, none⟩) n n, .slice none 0 0, .slice none 0 0] 52) = W2 := ⟨_, rfl⟩
    rw [hW2] at HS0 HB0
    try rw [hW2]
    clear HK1 HC hb1 mk HAT g4 hW2
    go_loopw [19] (fun iv wr => ∃ (j : Nat) (s : Wk) (vs vo : Value), j ≤ N ∧ iv = .int .i64 j ∧ Below w1.heap.size w1 wr ∧ WS w1.heap.size (w1.heap.size + 1) w.heap.size n w1.heap.size vs vo wr s ∧ OkS n s ∧ Hid (goP c s j (c.list.drop j) = Pr)) (fun iv _ => N - (intOf iv).toNat)
    case atStart => exact ⟨0, ⟨[], []⟩, _, _, Nat.zero_le _, rfl, HB0, HS0, OkS.start n, by show _ = _; rw [List.drop_zero]; exact HP.out⟩
    case round =>
      obtain ⟨j, s, vs, vo, hj, rfl, hb, hws, hok, hgo⟩ := hrel
      have HWS : Hid (WS w1.heap.size (w1.heap.size + 1) w.heap.size n w1.heap.size vs vo wr s) := hws
      have HOK : Hid (OkS n s) := hok
      have HBW : Hid (Below w1.heap.size w1 wr) := hb
      have d3 := kc hb g3
      have l3 := hws.c3
      have hol : ∃ p q, vo = .slice p s.opens.length q := own_len hws.opn
      have hnest := hok.nest
      clear HS0 HB0
      by_cases hlt : j < N
      · have hll : j < c.list.length := by rw [HNL.out]; exact hlt
        have hgo' := hgo.out
        rw [List.drop_eq_getElem_cons hll] at hgo'
        have hgi : goP c s j (c.list[j] :: c.list.drop (j + 1)) = if takesP c s c.list[j] then goP c (stepP s c.list[j]) (j + 1) (c.list.drop (j + 1)) else (160, (j : Int)) := rfl
        rw [hgi] at hgo'
        obtain ⟨b, o, rfl, hx⟩ := HROW.out.at hll
        have hbw : b < w.heap.size := mcell_lt (hx 0 (by simp [inC]))
        have hxw := (hx.below HB1.out).below hb
        have KT := take_any w1.heap.size (w1.heap.size + 1) w.heap.size n w1.heap.size vs vo s v0 (.slice p1 n q1) v2 (.slice (some ⟨b, o, none⟩) N q3) c HOKC.out b (o + j * 7) c.list[j] wr hws HNE.out hok hn (HAT1.out.below hb) hxw (by omega) HTM.out (HIB.out _ (List.getElem_mem hll)).1 (HIB.out _ (List.getElem_mem hll)).2
        have hokS : takesP c s c.list[j] = true → OkS n (stepP s c.list[j]) := fun ht => by
          have hq : OkS c.regs.length s := by rw [HNE.out]; exact hok
          have := OkS.step hq ht
          rw [HNE.out] at this
          exact this
        obtain ⟨X, hX⟩ : ∃ X, takesP c s c.list[j] = X := ⟨_, rfl⟩
        rw [hX] at hgo' hokS
        simp only [hX] at KT
        have HKT : Hid (Calls Try.prog 9 #[.pointer (some ⟨w1.heap.size + 1, 0, none⟩), .pointer (some ⟨b, o + j * 7, none⟩)] wr fun e w' => e = .returned (.bool X) ∧ Below w1.heap.size wr w' ∧ (X = true → ∃ vs' vo', WS w1.heap.size (w1.heap.size + 1) w.heap.size n w1.heap.size vs' vo' w' (stepP s c.list[j]))) := KT
        have HGO : Hid ((if X = true then goP c (stepP s c.list[j]) (j + 1) (c.list.drop (j + 1)) else (160, (j : Int))) = Pr) := hgo'
        have HOS : Hid (X = true → OkS n (stepP s c.list[j])) := hokS
        have i1 : (0 : Int) ≤ (j : Int) := by omega
        have i2 : (j : Int) < (N : Int) := by omega
        clear KT hgo hgo' hgi hokS hX hx hxw hws hok hb hol l3
        cases X
        · go_wp2_with (go_at_call 9; refine HKT.out.mono ?_; rintro e w5 ⟨rfl, hb5, hw5⟩; have HB5 : Hid (Below w1.heap.size wr w5) := hb5; clear hb5 hw5)
          go_ret2
          refine ⟨?_, bel HB1.out (HBW.out.trans HB5.out)⟩
          have := HGO.out
          rw [if_neg (by decide)] at this
          rw [← this]
          rfl
        · go_wp2_with (go_at_call 9; refine HKT.out.mono ?_; rintro e w5 ⟨rfl, hb5, hw5⟩; have HB5 : Hid (Below w1.heap.size wr w5) := hb5; have HW5 : Hid (∃ vs' vo', WS w1.heap.size (w1.heap.size + 1) w.heap.size n w1.heap.size vs' vo' w5 (stepP s c.list[j])) := hw5 (by first | rfl | trivial); clear hb5 hw5)
          go_roundw
          case rel =>
            obtain ⟨vs', vo', hw5⟩ := HW5.out
            exact ⟨j + 1, _, vs', vo', by omega, by go_num, HBW.out.trans HB5.out, hw5, HOS.out (by first | rfl | trivial), by show _ = _; have := HGO.out; rw [if_pos (by first | rfl | trivial)] at this; exact this⟩
          case measure => simp [intOf]; omega
      · have : j = N := by omega
        subst this
        have hgo' := hgo.out
        rw [List.drop_of_length_le (by rw [HNL.out]; exact Nat.le_refl _)] at hgo'
        have hgi : goP c s j [] = if s.opens.isEmpty then (0, 0) else (160, (j : Int)) := rfl
        rw [hgi] at hgo'
        obtain ⟨p, q, rfl⟩ := hol
        obtain ⟨M, hM⟩ : ∃ M, s.opens.length = M := ⟨_, rfl⟩
        rw [hM] at l3 hnest
        have hE : s.opens.isEmpty = decide (M = 0) := by
          rw [← hM]
          cases s.opens with
          | nil => rfl
          | cons a l => simp
        rw [hE] at hgo'
        have HGO : Hid ((if decide (M = 0) = true then ((0 : Int), (0 : Int)) else (160, (j : Int))) = Pr) := hgo'
        clear hgo hgo' hgi hE hM hws hok hb
        by_cases hz : M = 0
        · subst hz
          go_wp2
          go_ret2
          refine ⟨?_, bel HB1.out HBW.out⟩
          rw [← HGO.out]
          rfl
        · have hz' : (0 : Int) < (M : Int) := by omega
          have hz2 : 0 < M := by omega
          have HZ : Hid (¬ M = 0) := hz
          clear hz
          go_wp2
          refine wp_region_held_drew (S := (fun v => v.cell? ⟨w.heap.size, 3, none⟩ = some (.slice p3 j q3))) (by kernel_rfl) ?_ (fun hHeld => ?_)
          · ((try dsimp only); go_keep)
          refine wpAnyH_take (i := 0) (v := ?_) (by simp only [List.getElem?_toArray, List.getElem?_cons_succ, List.getElem?_cons_zero]; rfl) (by kernel_rfl) (by kernel_rfl) (by kernel_rfl) (by exact fun _ _ _ h => h) (Or.inl ⟨by rfl, ?_⟩) (by assumption) ?_
          rotate_left 1
          · (intro wS hSw; (try dsimp only at hSw); go_simp; try (with_reducible rfl))
          try simp only [Act.put, List.setIfInBounds_toArray, List.set_cons_zero, List.set_cons_succ]
          refine wpAnyH_take (i := 1) (v := ?_) (by simp only [List.getElem?_toArray, List.getElem?_cons_succ, List.getElem?_cons_zero]; rfl) (by kernel_rfl) (by kernel_rfl) (by kernel_rfl) (by exact fun _ _ _ h => h) (Or.inl ⟨by rfl, ?_⟩) (by assumption) ?_
          rotate_left 1
          · (intro wS hSw; (try dsimp only at hSw); go_simp; try (with_reducible rfl))
          try simp only [Act.put, List.setIfInBounds_toArray, List.set_cons_zero, List.set_cons_succ]
          refine wpAnyH_take (i := 2) (v := ?_) (by simp only [List.getElem?_toArray, List.getElem?_cons_succ, List.getElem?_cons_zero]; rfl) (by kernel_rfl) (by kernel_rfl) (by kernel_rfl) (by exact fun _ _ _ h => h) (Or.inl ⟨by rfl, ?_⟩) (by assumption) ?_
          rotate_left 1
          · (intro wS hSw; (try dsimp only at hSw); go_simp; try (with_reducible rfl))
          try simp only [Act.put, List.setIfInBounds_toArray, List.set_cons_zero, List.set_cons_succ]
          refine wpAnyH_take (i := 3) (v := ?_) (by simp only [List.getElem?_toArray, List.getElem?_cons_succ, List.getElem?_cons_zero]; rfl) (by kernel_rfl) (by kernel_rfl) (by kernel_rfl) (by exact fun _ _ _ h => h) (Or.inl ⟨by rfl, ?_⟩) (by assumption) ?_
          rotate_left 1
          · (intro wS hSw; (try dsimp only at hSw); go_simp; try (with_reducible rfl))
          try simp only [Act.put, List.setIfInBounds_toArray, List.set_cons_zero, List.set_cons_succ]
          refine wpAnyH_take (i := 4) (v := ?_) (by simp only [List.getElem?_toArray, List.getElem?_cons_succ, List.getElem?_cons_zero]; rfl) (by kernel_rfl) (by kernel_rfl) (by kernel_rfl) (by exact fun _ _ _ h => h) (Or.inl ⟨by rfl, ?_⟩) (by assumption) ?_
          rotate_left 1
          · (intro wS hSw; (try dsimp only at hSw); go_simp; try (with_reducible rfl))
          try simp only [Act.put, List.setIfInBounds_toArray, List.set_cons_zero, List.set_cons_succ]
          refine wpAnyH_done (by kernel_rfl) ?_ _
          go_wp2
          go_ret2
          refine ⟨?_, (bel HB1.out HBW.out).drew⟩
          have := HGO.out
          rw [if_neg (by simpa using HZ.out)] at this
          rw [← this]
          rfl
  · rw [if_pos h0]
    have h0' : (A == 0) = false := by simpa using h0
    go_enter Try.func5, Try.ntmps5
    go_wp2_with (go_at_call 8; refine HK1.out.mono ?_; rintro e w1 ⟨rfl, hb1⟩)
    all_goals (go_ret2; exact ⟨rfl, bel (bel_alloc _ _) hb1⟩)

end Go.Proofs.Ytgnjhjkbnchdmaa
/- Layer 16's statements: rows that are copied, small code, works. -/
namespace Go.Proofs.Ytgnjhjkbnchdmaa
open Go.RowKit
set_option linter.unusedVariables false
set_option linter.unusedSimpArgs false

def insV (i : Ins) : Value := .agg #[.int .i64 i.op, .int .i64 i.d, .int .i64 i.a, .int .i64 i.b, .int .i64 i.c, .int .i64 i.n, .int .u32 i.bits]

theorem ins_cells {w v : World} {i : Ins} {t : TypeId} (k : Below (w.alloc (.cells #[.int .i64 i.op, .int .i64 i.d, .int .i64 i.a, .int .i64 i.b, .int .i64 i.c, .int .i64 i.n, .int .u32 i.bits] t)).heap.size (w.alloc (.cells #[.int .i64 i.op, .int .i64 i.d, .int .i64 i.a, .int .i64 i.b, .int .i64 i.c, .int .i64 i.n, .int .u32 i.bits] t)) v) : CellsAt v w.heap.size 0 (inC i) := by
  refine CellsAt.below (fun j hj => ?_) k
  have hj' : j < 7 := hj
  obtain rfl | rfl | rfl | rfl | rfl | rfl | rfl : j = 0 ∨ j = 1 ∨ j = 2 ∨ j = 3 ∨ j = 4 ∨ j = 5 ∨ j = 6 := by omega
  all_goals simp [go_sem, inC]

set_option maxRecDepth 100000 in
set_option maxHeartbeats 1000000 in
theorem sets_any (i : Ins) (w : World) : Calls Try.prog 16 #[insV i] w fun e w' => e = .returned (.bool ((rowP i.op).d != 0)) ∧ Below w.heap.size w w' := by
  have K1 := fun w => rowOf_any i.op w
  obtain ⟨r, hr⟩ : ∃ r, rowP i.op = r := ⟨_, rfl⟩
  obtain ⟨X, hX⟩ : ∃ X, knownP i.op = X := ⟨_, rfl⟩
  simp only [hr, hX] at K1 ⊢
  obtain ⟨L0, L1, L2, L3, L4⟩ := r
  obtain ⟨op, D, A, B, E, n, bt⟩ := i
  unfold insV
  unfold rwV at K1
  simp only at K1 ⊢
  have HK : Hid (∀ w, Calls Try.prog 21 #[.int .i64 op] w fun e w' => e = .returned (.tuple #[.agg #[.int .i64 L0, .int .i64 L1, .int .i64 L2, .int .i64 L3, .int .i64 L4], .bool X]) ∧ Below w.heap.size w w') := K1
  clear K1 hr hX
  go_enter Try.func16, Try.ntmps16
  go_wp2_with (go_at_call 21; refine (HK.out _).mono ?_; rintro e w1 ⟨rfl, hb1⟩)
  go_ret
  exact ⟨rfl, bel (bel (bel_alloc _ _) hb1) (bel_alloc _ _)⟩

set_option maxRecDepth 100000 in
set_option maxHeartbeats 1000000 in
theorem reads_any (i : Ins) (w : World) : Calls Try.prog 17 #[insV i] w fun e w' => ∃ v, e = .returned v ∧ w'.ownsRow w.heap.size 3 1 v (readsP i (rowP i.op)).length (i64s (readsP i (rowP i.op))) ∧ Below w.heap.size w w' := by
  have K1 := fun w => rowOf_any i.op w
  have K2 := fun w h => readBy_any w.heap.size 0 i (rowP i.op) w h
  clear K2
  have K3 := fun b v h => readBy_any b 0 i (rowP i.op) v h
  have HIC := fun (v : World) k => ins_cells (w := w) (v := v) (i := i) (t := 34) k
  obtain ⟨r, hr⟩ : ∃ r, rowP i.op = r := ⟨_, rfl⟩
  obtain ⟨X, hX⟩ : ∃ X, knownP i.op = X := ⟨_, rfl⟩
  simp only [hr, hX] at K1 K3 ⊢
  obtain ⟨RL, hRL⟩ : ∃ x, readsP i r = x := ⟨_, rfl⟩
  simp only [hRL] at K3 ⊢
  obtain ⟨L0, L1, L2, L3, L4⟩ := r
  obtain ⟨op, D, A, B, E, n, bt⟩ := i
  unfold insV
  unfold rwV at K1 K3
  simp only at K1 K3 HIC ⊢
  have HK : Hid (∀ w, Calls Try.prog 21 #[.int .i64 op] w fun e w' => e = .returned (.tuple #[.agg #[.int .i64 L0, .int .i64 L1, .int .i64 L2, .int .i64 L3, .int .i64 L4], .bool X]) ∧ Below w.heap.size w w') := K1
  have HK3 : Hid (∀ b v, CellsAt v b 0 (inC ⟨op, D, A, B, E, n, bt⟩) → Calls Try.prog 24 #[.agg #[.int .i64 L0, .int .i64 L1, .int .i64 L2, .int .i64 L3, .int .i64 L4], .pointer (some ⟨b, 0, none⟩)] v fun e w' => ∃ u, e = .returned u ∧ w'.ownsRow v.heap.size 3 1 u RL.length (i64s RL) ∧ Below v.heap.size v w') := K3
  have HCC : Hid (∀ v, Below (w.alloc (.cells #[.int .i64 op, .int .i64 D, .int .i64 A, .int .i64 B, .int .i64 E, .int .i64 n, .int .u32 bt] 34)).heap.size (w.alloc (.cells #[.int .i64 op, .int .i64 D, .int .i64 A, .int .i64 B, .int .i64 E, .int .i64 n, .int .u32 bt] 34)) v → CellsAt v w.heap.size 0 (inC ⟨op, D, A, B, E, n, bt⟩)) := HIC
  clear K1 K3 HIC hr hX hRL
  go_enter Try.func17, Try.ntmps17
  go_wp2_with (first
    | (go_at_call 21; refine (HK.out _).mono ?_; rintro e w1 ⟨rfl, hb1⟩)
    | (go_at_call 24; refine (HK3.out _ _ (HCC.out _ (bel hb1 (bel_alloc _ _)))).mono ?_; rintro e w2 ⟨u, rfl, hu, hb2⟩; have HU : Hid (w2.ownsRow (w1.alloc (.cells #[.int .i64 L0, .int .i64 L1, .int .i64 L2, .int .i64 L3, .int .i64 L4] 72)).heap.size 3 1 u RL.length (i64s RL)) := hu; have HB2 : Hid (Below w.heap.size w w2) := bel (bel (bel (bel_alloc _ _) hb1) (bel_alloc _ _)) hb2; have hs : w.heap.size ≤ (w1.alloc (.cells #[.int .i64 L0, .int .i64 L1, .int .i64 L2, .int .i64 L3, .int .i64 L4] 72)).heap.size := (bel (bel (bel_alloc _ _) hb1) (bel_alloc _ _)).size; have HSZ : Hid (w.heap.size ≤ (w1.alloc (.cells #[.int .i64 L0, .int .i64 L1, .int .i64 L2, .int .i64 L3, .int .i64 L4] 72)).heap.size) := hs; clear hu hb2 hs))
  go_ret
  exact ⟨_, rfl, own_mono HU.out HSZ.out, HB2.out⟩

/-- Rows, k cells an element. -/
def flat {α : Type} (f : α → List Value) (l : List α) : List Value := l.flatMap f
theorem flat_len {α : Type} {f : α → List Value} {k : Nat} (hf : ∀ x, (f x).length = k) : ∀ l : List α, (flat f l).length = l.length * k
  | [] => by simp [flat]
  | a :: l => by
    have e : flat f (a :: l) = f a ++ flat f l := by simp [flat]
    rw [e, List.length_append, flat_len hf l, hf, List.length_cons, Nat.add_mul, Nat.one_mul, Nat.add_comm]
theorem flat_at {α : Type} {f : α → List Value} {k : Nat} (hf : ∀ x, (f x).length = k) : ∀ (l : List α) (i j : Nat) (hi : i < l.length), j < k → (flat f l)[i * k + j]? = (f l[i])[j]?
  | [], i, j, hi, hj => absurd hi (Nat.not_lt_zero _)
  | a :: l, 0, j, hi, hj => by
    have e : flat f (a :: l) = f a ++ flat f l := by simp [flat]
    rw [e, Nat.zero_mul, Nat.zero_add, List.getElem?_append_left (by rw [hf]; exact hj)]
    rfl
  | a :: l, i + 1, j, hi, hj => by
    have e : flat f (a :: l) = f a ++ flat f l := by simp [flat]
    have e2 : (i + 1) * k + j - (f a).length = i * k + j := by rw [hf, Nat.add_mul, Nat.one_mul]; omega
    rw [e, List.getElem?_append_right (by rw [hf, Nat.add_mul, Nat.one_mul]; omega), e2]
    exact flat_at hf l i j (by simpa using hi) hj
theorem flat_append {α : Type} (f : α → List Value) (l m : List α) : flat f (l ++ m) = flat f l ++ flat f m := by simp [flat]
theorem flat_take {α : Type} {f : α → List Value} {k : Nat} (hf : ∀ x, (f x).length = k) (l : List α) (n : Nat) (h : n ≤ l.length) : (flat f l).take (n * k) = flat f (l.take n) := by
  have e : flat f l = flat f (l.take n) ++ flat f (l.drop n) := by rw [← flat_append, List.take_append_drop]
  have hl : (flat f (l.take n)).length = n * k := by rw [flat_len hf, List.length_take, Nat.min_eq_left h]
  rw [e, List.take_append_of_le_length (by rw [hl]; exact Nat.le_refl _), List.take_of_length_le (by rw [hl]; exact Nat.le_refl _)]
/-- An own row reads. -/
theorem own_row {α : Type} {f : α → List Value} {k : Nat} (hf : ∀ x, (f x).length = k) {w : World} {B : Nat} {t : TypeId} {v : Value} {l : List α} (h : w.ownsRow B t k v l.length (flat f l)) : RowG k f w v l := by
  by_cases h0 : l = []
  · subst h0
    obtain ⟨p, c, hv⟩ := own_len h
    exact ⟨p, c, hv, .inl rfl⟩
  · obtain ⟨g, cap, hv, _, _, _, _, hcl⟩ := own_open h (List.length_pos_iff.2 h0)
    refine ⟨_, cap, hv, .inr ⟨g, 0, rfl, fun i hi j hj => ?_⟩⟩
    rw [Nat.zero_add]
    exact hcl _ _ (by rw [flat_at hf l i j hi (by rw [← hf l[i]]; exact hj)]; exact List.getElem?_eq_getElem hj)
theorem add_none (b o j : Nat) : (⟨b, o, none⟩ : Addr).add j = ⟨b, o + j, none⟩ := by unfold Addr.add; split <;> simp_all
/-- The cells of a row, one behind the other. -/
theorem row_cells {α : Type} {f : α → List Value} {k : Nat} (hk : 0 < k) (hf : ∀ x, (f x).length = k) {w : World} {b o : Nat} {l : List α} (h : ∀ i (hi : i < l.length), CellsAt w b (o + i * k) (f l[i])) (j : Nat) (u : Value) (hu : (flat f l)[j]? = some u) : w.cell? ((⟨b, o, none⟩ : Addr).add j) = some u := by
  have hj : j < l.length * k := by have := (List.getElem?_eq_some_iff.1 hu).1; rwa [flat_len hf] at this
  have hi : j / k < l.length := Nat.div_lt_of_lt_mul (by rw [Nat.mul_comm]; exact hj)
  have hm : j % k < k := Nat.mod_lt _ hk
  have e : j = j / k * k + j % k := by rw [Nat.mul_comm]; exact (Nat.div_add_mod j k).symm
  rw [e, flat_at hf l _ _ hi hm] at hu
  rw [add_none]
  have := (h _ hi).at _ hu
  rw [Nat.add_assoc, ← e] at this
  exact this
/-- append of a row to nothing. -/
theorem app_rowG {α : Type} {f : α → List Value} {k bytes : Nat} {t e : TypeId} {z : Value} {i : TypeInfo} (hk : 0 < k) (hf : ∀ x, (f x).length = k) (h1 : ∀ x, ∀ u ∈ f x, u.oneCell' = true) (ht : Try.prog.underlying t = some (.slice e)) (hi : Try.prog.info? e = some i) (hz : i.zero = some z) (hsize : i.size = k) (hby : i.bytes = bytes) (hzs : z.cells.size = k)
    {l : List α} {v : Value} {w : World} (h : RowG k f w v l) (hl : l.length ≤ maxLen) (hb : l.length * bytes ≤ 140737488355328) (ty : TypeId) :
    ∃ v' w', (Builtin.append_ #[t, t] ty #[.slice none 0 0, v]).run Try.prog w = .ok v' w' ∧ Below w.heap.size w w' ∧ w'.ownsRow w.heap.size e k v' l.length (flat f l) := by
  obtain ⟨p, c, rfl, h⟩ := h
  by_cases h0 : l = []
  · subst h0
    refine ⟨.slice none 0 0, w, ?_, Below.refl _ _, ⟨by simp [flat], .inl ⟨rfl, rfl⟩⟩⟩
    cases p with
    | none => simp [Builtin.append_, run_underlying ht, sizeOf, typeInfo, hi, Builtin.lenOf, Builtin.firstCells, storeCells]
    | some a => simp [Builtin.append_, run_underlying ht, sizeOf, typeInfo, hi, Builtin.lenOf, Builtin.firstCells, storeCells, loadCells, loadCellsFrom]
  · obtain ⟨b, o, rfl, h2⟩ := h.resolve_left h0
    have hpos : 0 < l.length := List.length_pos_iff.2 h0
    obtain ⟨g, cap, w', hr, hown, hg, hat, hlt⟩ := run_append_lies (P := Try.prog) w t ty w.heap.size e i z k bytes ht hi hz hsize hby hzs hk (.slice none 0 0) 0 [] (World.ownsRow_nil w _ _ k) ⟨b, o, none⟩ l.length c (flat f l) (flat_len hf l) (row_cells hk hf h2) (by intro u hu; obtain ⟨x, _, hx⟩ := List.mem_flatMap.1 hu; exact h1 x u hx) hpos (by omega) (by rw [Nat.zero_add]; exact hb) (Nat.le_refl _) w.heap.size rfl
    rw [Nat.zero_add] at hr hown
    exact ⟨_, w', hr, ⟨hg.os, hg.tape, hg.output, hg.size, fun j hj => hg.block j hj (by show some j ≠ none; simp)⟩, by rw [List.nil_append] at hown; exact hown⟩
theorem wpList_app {P : Program} {w w' : World} {ops : Array Oper} {rest : List Oper} {o : Oper} {a : Act} {Q : Exit → Act → World → Prop} (hgd : o.guard = none) (s x : Operand) (t : TypeId)
    (ho : o.op = .call { callee := .builtin .append, args := #[s, x], argTypes := #[t, t] }) (v v2 v' : Value) (hs : a.eval s = v) (hx : a.eval x = v2) (hr : (Builtin.append_ #[t, t] o.type #[v, v2]).run P w = .ok v' w')
    (h : wpList P ops Q rest (a.put o.dst v') w') : wpList P ops Q (o :: rest) a w :=
  wpList_plain hgd fun _ hK => by
    unfold Oper.wp execOp
    simp only [ho, resolve, invoke, builtin, Sem.run_bind, Sem.run_pure, Result.andThen_ok, List.map_toArray, List.map_cons, List.map_nil, hs, hx, hr]
    exact hK _ _ h
theorem inC_one : ∀ x : Ins, ∀ u ∈ inC x, u.oneCell' = true := fun x u hu => by simp [inC] at hu; rcases hu with rfl | rfl | rfl | rfl | rfl | rfl | rfl <;> rfl
theorem info_Inst : (Try.prog.info? 34).map (fun i => (i.zero, i.size, i.bytes)) = some (some (.agg #[.int .i64 0, .int .i64 0, .int .i64 0, .int .i64 0, .int .i64 0, .int .i64 0, .int .u32 0]), 7, 56) := by kernel_rfl
/-- A copy of a list of instructions. -/
theorem app_ins {l : List Ins} {v : Value} {w : World} (h : RowG 7 inC w v l) (hl : l.length * 56 ≤ 140737488355328) (ty : TypeId) :
    ∃ v' w', (Builtin.append_ #[27, 27] ty #[.slice none 0 0, v]).run Try.prog w = .ok v' w' ∧ Below w.heap.size w w' ∧ w'.ownsRow w.heap.size 34 7 v' l.length (flat inC l) := by
  obtain ⟨i0, hi0, hz0, hz1, hz2⟩ := info_parts info_Inst
  exact app_rowG (by decide) inC_len inC_one Try.underlying27 hi0 hz0 hz1 hz2 rfl h (by unfold maxLen; omega) hl ty

end Go.Proofs.Ytgnjhjkbnchdmaa
/- Layer 16's statements: small code, works. -/
namespace Go.Proofs.Ytgnjhjkbnchdmaa
open Go.RowKit
set_option linter.unusedVariables false
set_option linter.unusedSimpArgs false

abbrev wName : ByteArray := ⟨#[119]⟩
def smallC (l : List Ins) : Cd := ⟨[⟨wName, 1, 3⟩], [⟨1, 0⟩, ⟨3, 0⟩, ⟨2, 0⟩], [], l⟩
theorem smallC_ok {l : List Ins} (hl : l.length ≤ 140737488351232) (hb : ∀ i ∈ l, 0 ≤ i.bits ∧ i.bits < 4294967296) : CdOk (smallC l) :=
  ⟨by simp [smallC], fun p hp => by simp [smallC] at hp; subst hp; show wName.size ≤ _; decide, by simp [smallC], by simp [smallC], hl, fun s hs => by simp [smallC] at hs, hb⟩

/-- What small code is made of, in memory. -/
theorem small_rows {w w3 : World} {l : List Ins} {vl : Value} (hb : Below (w.heap.size + 1) (w.alloc (.cells #[.slice none 0 0, .slice none 0 0, .slice none 0 0, .slice none 0 0] 29)) w3) (hl : w3.ownsRow (w.heap.size + 1) 34 7 vl l.length (flat inC l)) (V : World)
    (hV : V = ((((((w3.alloc (.cells #[.string wName, .int .i64 1, .int .i64 3] 43)).alloc (.cells #[.int .i64 1, .int .i64 0, .int .i64 3, .int .i64 0, .int .i64 2, .int .i64 0] 45)).setCell ⟨w.heap.size, 0, none⟩ (.slice (some ⟨w3.heap.size, 0, none⟩) 1 1)).setCell ⟨w.heap.size, 1, none⟩ (.slice (some ⟨w3.heap.size + 1, 0, none⟩) 3 3)).setCell ⟨w.heap.size, 2, none⟩ (.slice none 0 0)).setCell ⟨w.heap.size, 3, none⟩ vl)) :
    Below w.heap.size w V ∧ CdV V (.slice (some ⟨w3.heap.size, 0, none⟩) 1 1) (.slice (some ⟨w3.heap.size + 1, 0, none⟩) 3 3) (.slice none 0 0) vl (smallC l) ∧ V.ownsRow w.heap.size 34 7 vl l.length (flat inC l) := by
  have hs := hb.size
  simp at hs
  have nb : ∀ b, b ≠ w.heap.size → V.heap[b]? = ((w3.alloc (.cells #[.string wName, .int .i64 1, .int .i64 3] 43)).alloc (.cells #[.int .i64 1, .int .i64 0, .int .i64 3, .int .i64 0, .int .i64 2, .int .i64 0] 45)).heap[b]? := fun b hne => by
    rw [hV, Below.heap_setCell _ _ _ _ hne, Below.heap_setCell _ _ _ _ hne, Below.heap_setCell _ _ _ _ hne, Below.heap_setCell _ _ _ _ hne]
  have hb3 : Below w3.heap.size w3 ((w3.alloc (.cells #[.string wName, .int .i64 1, .int .i64 3] 43)).alloc (.cells #[.int .i64 1, .int .i64 0, .int .i64 3, .int .i64 0, .int .i64 2, .int .i64 0] 45)) := bel (bel_alloc _ _) (bel_alloc _ _)
  have hown : V.ownsRow (w.heap.size + 1) 34 7 vl l.length (flat inC l) := own_keep (own_below hl hb3) fun g hg => nb g (by have := (hl.lt g hg).1; omega)
  have c1 : ∀ j, V.cell? ⟨w3.heap.size, j, none⟩ = ((w3.alloc (.cells #[.string wName, .int .i64 1, .int .i64 3] 43)).alloc (.cells #[.int .i64 1, .int .i64 0, .int .i64 3, .int .i64 0, .int .i64 2, .int .i64 0] 45)).cell? ⟨w3.heap.size, j, none⟩ := fun j => World.cell?_of_block (nb _ (by show w3.heap.size ≠ _; omega))
  have c2 : ∀ j, V.cell? ⟨w3.heap.size + 1, j, none⟩ = ((w3.alloc (.cells #[.string wName, .int .i64 1, .int .i64 3] 43)).alloc (.cells #[.int .i64 1, .int .i64 0, .int .i64 3, .int .i64 0, .int .i64 2, .int .i64 0] 45)).cell? ⟨w3.heap.size + 1, j, none⟩ := fun j => World.cell?_of_block (nb _ (by show w3.heap.size + 1 ≠ _; omega))
  refine ⟨?_, ⟨?_, ?_, ⟨none, 0, rfl, .inl rfl⟩, own_row inC_len hown⟩, own_mono hown (by omega)⟩
  · rw [hV]
    exact ((((((bel_alloc w _).trans (hb.mono (by omega))).trans ((hb3.mono (by omega)))).setCell (Nat.le_refl _) _).setCell (Nat.le_refl _) _).setCell (Nat.le_refl _) _).setCell (Nat.le_refl _) _
  · refine ⟨_, _, rfl, .inr ⟨w3.heap.size, 0, rfl, fun i hi j hj => ?_⟩⟩
    have hi' : i < 1 := hi
    have hj' : j < 3 := hj
    obtain rfl : i = 0 := by omega
    obtain rfl | rfl | rfl : j = 0 ∨ j = 1 ∨ j = 2 := by omega
    all_goals
      rw [c1]
      simp [go_sem, smallC, parCells]
  · refine ⟨_, _, rfl, .inr ⟨w3.heap.size + 1, 0, rfl, fun i hi j hj => ?_⟩⟩
    have hi' : i < 3 := hi
    have hj' : j < 2 := hj
    obtain rfl | rfl | rfl : i = 0 ∨ i = 1 ∨ i = 2 := by omega
    all_goals
      obtain rfl | rfl : j = 0 ∨ j = 1 := by omega
      all_goals
        rw [c2]
        simp [go_sem, smallC, tyC]

set_option maxRecDepth 100000 in
set_option maxHeartbeats 2000000 in
theorem small_any (l : List Ins) (hl : l.length ≤ 1000) (v : Value) (w : World) (h : RowG 7 inC w v l) :
    Calls Try.prog 4 #[v] w fun e w' => ∃ v0 v1 v3, e = .returned (.agg #[v0, v1, .slice none 0 0, v3]) ∧ CdV w' v0 v1 (.slice none 0 0) v3 (smallC l) ∧ w'.ownsRow w.heap.size 34 7 v3 l.length (flat inC l) ∧ Below w.heap.size w w' := by
  have hw : (w.alloc (.cells #[.slice none 0 0, .slice none 0 0, .slice none 0 0, .slice none 0 0] 29)).heap.size = w.heap.size + 1 := by simp
  obtain ⟨vl, w3, hr, hb, hown⟩ := app_ins (h.below (bel_alloc w (.cells #[.slice none 0 0, .slice none 0 0, .slice none 0 0, .slice none 0 0] 29))) (by omega) 27
  obtain ⟨p, q, rfl⟩ := own_len hown
  rw [hw] at hb hown
  have HSR := fun V hV => small_rows hb hown V hV
  have HR : Hid ((Builtin.append_ #[27, 27] 27 #[.slice none 0 0, v]).run Try.prog (w.alloc (.cells #[.slice none 0 0, .slice none 0 0, .slice none 0 0, .slice none 0 0] 29)) = .ok (.slice p l.length q) w3) := hr
  have HS : Hid (∀ V, V = ((((((w3.alloc (.cells #[.string wName, .int .i64 1, .int .i64 3] 43)).alloc (.cells #[.int .i64 1, .int .i64 0, .int .i64 3, .int .i64 0, .int .i64 2, .int .i64 0] 45)).setCell ⟨w.heap.size, 0, none⟩ (.slice (some ⟨w3.heap.size, 0, none⟩) 1 1)).setCell ⟨w.heap.size, 1, none⟩ (.slice (some ⟨w3.heap.size + 1, 0, none⟩) 3 3)).setCell ⟨w.heap.size, 2, none⟩ (.slice none 0 0)).setCell ⟨w.heap.size, 3, none⟩ (.slice p l.length q)) → Below w.heap.size w V ∧ CdV V (.slice (some ⟨w3.heap.size, 0, none⟩) 1 1) (.slice (some ⟨w3.heap.size + 1, 0, none⟩) 3 3) (.slice none 0 0) (.slice p l.length q) (smallC l) ∧ V.ownsRow w.heap.size 34 7 (.slice p l.length q) l.length (flat inC l)) := HSR
  have hbb := hb.block w.heap.size (by omega)
  have f0 : w3.heap[w.heap.size]? = some (.cells #[.slice none 0 0, .slice none 0 0, .slice none 0 0, .slice none 0 0] 29) := by rw [hbb]; exact heap_alloc_new w _
  have e0 : w3.cell? ⟨w.heap.size, 0, none⟩ = some (.slice none 0 0) := by simp [World.cell?, f0]
  have e1 : w3.cell? ⟨w.heap.size, 1, none⟩ = some (.slice none 0 0) := by simp [World.cell?, f0]
  have e2 : w3.cell? ⟨w.heap.size, 2, none⟩ = some (.slice none 0 0) := by simp [World.cell?, f0]
  have e3 : w3.cell? ⟨w.heap.size, 3, none⟩ = some (.slice none 0 0) := by simp [World.cell?, f0]
  have z0 : w3.frozen? ⟨w.heap.size, 0, none⟩ = false := by simp [World.frozen?, f0]
  have z1 : w3.frozen? ⟨w.heap.size, 1, none⟩ = false := by simp [World.frozen?, f0]
  have z2 : w3.frozen? ⟨w.heap.size, 2, none⟩ = false := by simp [World.frozen?, f0]
  have z3 : w3.frozen? ⟨w.heap.size, 3, none⟩ = false := by simp [World.frozen?, f0]
  have hs3 := hb.size
  rw [hw] at hs3
  have m1 : w.heap.size ≠ w3.heap.size := by omega
  have m2 : w.heap.size ≠ w3.heap.size + 1 := by omega
  have k0 : ((w3.alloc (.cells #[.string ⟨#[119]⟩, .int .i64 1, .int .i64 3] 43)).alloc (.cells #[.int .i64 1, .int .i64 0, .int .i64 3, .int .i64 0, .int .i64 2, .int .i64 0] 45)).cell? ⟨w.heap.size, 0, none⟩ = some (.slice none 0 0) := kc (bel_alloc _ _) (kc (bel_alloc _ _) e0)
  have y0 : ((w3.alloc (.cells #[.string ⟨#[119]⟩, .int .i64 1, .int .i64 3] 43)).alloc (.cells #[.int .i64 1, .int .i64 0, .int .i64 3, .int .i64 0, .int .i64 2, .int .i64 0] 45)).frozen? ⟨w.heap.size, 0, none⟩ = false := kf (bel_alloc _ _) (kc (bel_alloc _ _) e0) (kf (bel_alloc _ _) e0 z0)
  have k1 : ((w3.alloc (.cells #[.string ⟨#[119]⟩, .int .i64 1, .int .i64 3] 43)).alloc (.cells #[.int .i64 1, .int .i64 0, .int .i64 3, .int .i64 0, .int .i64 2, .int .i64 0] 45)).cell? ⟨w.heap.size, 1, none⟩ = some (.slice none 0 0) := kc (bel_alloc _ _) (kc (bel_alloc _ _) e1)
  have y1 : ((w3.alloc (.cells #[.string ⟨#[119]⟩, .int .i64 1, .int .i64 3] 43)).alloc (.cells #[.int .i64 1, .int .i64 0, .int .i64 3, .int .i64 0, .int .i64 2, .int .i64 0] 45)).frozen? ⟨w.heap.size, 1, none⟩ = false := kf (bel_alloc _ _) (kc (bel_alloc _ _) e1) (kf (bel_alloc _ _) e1 z1)
  have k2 : ((w3.alloc (.cells #[.string ⟨#[119]⟩, .int .i64 1, .int .i64 3] 43)).alloc (.cells #[.int .i64 1, .int .i64 0, .int .i64 3, .int .i64 0, .int .i64 2, .int .i64 0] 45)).cell? ⟨w.heap.size, 2, none⟩ = some (.slice none 0 0) := kc (bel_alloc _ _) (kc (bel_alloc _ _) e2)
  have y2 : ((w3.alloc (.cells #[.string ⟨#[119]⟩, .int .i64 1, .int .i64 3] 43)).alloc (.cells #[.int .i64 1, .int .i64 0, .int .i64 3, .int .i64 0, .int .i64 2, .int .i64 0] 45)).frozen? ⟨w.heap.size, 2, none⟩ = false := kf (bel_alloc _ _) (kc (bel_alloc _ _) e2) (kf (bel_alloc _ _) e2 z2)
  have k3 : ((w3.alloc (.cells #[.string ⟨#[119]⟩, .int .i64 1, .int .i64 3] 43)).alloc (.cells #[.int .i64 1, .int .i64 0, .int .i64 3, .int .i64 0, .int .i64 2, .int .i64 0] 45)).cell? ⟨w.heap.size, 3, none⟩ = some (.slice none 0 0) := kc (bel_alloc _ _) (kc (bel_alloc _ _) e3)
  have y3 : ((w3.alloc (.cells #[.string ⟨#[119]⟩, .int .i64 1, .int .i64 3] 43)).alloc (.cells #[.int .i64 1, .int .i64 0, .int .i64 3, .int .i64 0, .int .i64 2, .int .i64 0] 45)).frozen? ⟨w.heap.size, 3, none⟩ = false := kf (bel_alloc _ _) (kc (bel_alloc _ _) e3) (kf (bel_alloc _ _) e3 z3)
  clear hr hb hown HSR h hbb f0
  go_enter Try.func4, Try.ntmps4
  go_wp2_with (at_builtin; refine wpList_app (by rfl) _ _ _ (by rfl) _ _ _ (by rfl) (by rfl) HR.out ?_)
  refine bodyPost_ret (by simp [results, Try.results4, go_sem, *]; try rfl) rfl ?_
  obtain ⟨hb, hc, ho⟩ := HS.out _ rfl
  exact ⟨_, _, _, rfl, hc, ho, hb⟩

end Go.Proofs.Ytgnjhjkbnchdmaa
/- Layer 16's statements: works. By program (tool/layer16/genworks.py). -/
namespace Go.Proofs.Ytgnjhjkbnchdmaa
open Go.RowKit
set_option linter.unusedVariables false
set_option linter.unusedSimpArgs false

abbrev iG : Ins := ⟨29, 1, 0, 0, 0, 0, 0⟩
abbrev iM : Ins := ⟨6, 1, 1, 0, 0, 0, 0⟩
abbrev iH : Ins := ⟨1, 0, 0, 0, 0, 0, 1056964608⟩
abbrev iO : Ins := ⟨31, 0, 1, 0, 0, 0, 0⟩
abbrev iL : Ins := ⟨36, 0, 0, 0, 0, 0, 0⟩
abbrev iX : Ins := ⟨37, 0, 0, 0, 0, 0, 0⟩
theorem chk4 : checkC (smallC [iG, iH, iM, iO]) = (0, 0) := by decide +kernel
theorem chk2 : checkC (smallC [iG, iM]) = (160, 1) := by decide +kernel
theorem chk3 : checkC (smallC [iL, iG, iX]) = (0, 0) := by decide +kernel
theorem row_new {α : Type} {f : α → List Value} {k : Nat} (hf : ∀ x, (f x).length = k) (w : World) (l : List α) (cs : Array Value) (t : TypeId) (n : Nat) (hn : l.length = n) (e : cs = (flat f l).toArray) : RowG k f (w.alloc (.cells cs t)) (.slice (some ⟨w.heap.size, 0, none⟩) n n) l := by
  subst hn
  refine ⟨_, _, rfl, .inr ⟨w.heap.size, 0, rfl, fun i hi j hj => ?_⟩⟩
  have h1 : (w.alloc (.cells cs t)).cell? ⟨w.heap.size, 0 + i * k + j, none⟩ = cs[i * k + j]? := by
    rw [Nat.zero_add]
    have := heap_alloc_new w (.cells cs t)
    simp only [World.cell?, this]
    rfl
  rw [h1, e, List.getElem?_toArray, flat_at hf l i j hi (by rw [← hf l[i]]; exact hj)]
  exact List.getElem?_eq_getElem hj
theorem bits_ok (l : List Ins) (h : (l.all fun i => decide (0 ≤ i.bits) && decide (i.bits < 4294967296)) = true) : ∀ i ∈ l, 0 ≤ i.bits ∧ i.bits < 4294967296 := fun i hi => by
  have := List.all_eq_true.1 h i hi
  simpa using this

set_option maxRecDepth 100000 in
set_option maxHeartbeats 1000000 in
theorem works_any (w : World) : Calls Try.prog 7 #[] w fun e w' => e = .returned (.bool true) ∧ Below w.heap.size w w' := by
  have HS4 : Hid (∀ w : World, Calls Try.prog 4 #[.slice (some ⟨w.heap.size, 0, none⟩) 4 4] (w.alloc (.cells #[.int .i64 29, .int .i64 1, .int .i64 0, .int .i64 0, .int .i64 0, .int .i64 0, .int .u32 0, .int .i64 1, .int .i64 0, .int .i64 0, .int .i64 0, .int .i64 0, .int .i64 0, .int .u32 1056964608, .int .i64 6, .int .i64 1, .int .i64 1, .int .i64 0, .int .i64 0, .int .i64 0, .int .u32 0, .int .i64 31, .int .i64 0, .int .i64 1, .int .i64 0, .int .i64 0, .int .i64 0, .int .u32 0] 34)) fun e w' => ∃ v0 v1 v3, e = .returned (.agg #[v0, v1, .slice none 0 0, v3]) ∧ CdV w' v0 v1 (.slice none 0 0) v3 (smallC [iG, iH, iM, iO]) ∧ Below (w.alloc (.cells #[.int .i64 29, .int .i64 1, .int .i64 0, .int .i64 0, .int .i64 0, .int .i64 0, .int .u32 0, .int .i64 1, .int .i64 0, .int .i64 0, .int .i64 0, .int .i64 0, .int .i64 0, .int .u32 1056964608, .int .i64 6, .int .i64 1, .int .i64 1, .int .i64 0, .int .i64 0, .int .i64 0, .int .u32 0, .int .i64 31, .int .i64 0, .int .i64 1, .int .i64 0, .int .i64 0, .int .i64 0, .int .u32 0] 34)).heap.size (w.alloc (.cells #[.int .i64 29, .int .i64 1, .int .i64 0, .int .i64 0, .int .i64 0, .int .i64 0, .int .u32 0, .int .i64 1, .int .i64 0, .int .i64 0, .int .i64 0, .int .i64 0, .int .i64 0, .int .u32 1056964608, .int .i64 6, .int .i64 1, .int .i64 1, .int .i64 0, .int .i64 0, .int .i64 0, .int .u32 0, .int .i64 31, .int .i64 0, .int .i64 1, .int .i64 0, .int .i64 0, .int .i64 0, .int .u32 0] 34)) w') := fun w => (small_any [iG, iH, iM, iO] (by decide) _ _ (row_new inC_len w [iG, iH, iM, iO] _ 34 4 rfl rfl)).mono fun e w' ⟨v0, v1, v3, h1, h2, _, h4⟩ => ⟨v0, v1, v3, h1, h2, h4⟩
  have HC4 : Hid (∀ w v0 v1 v3, CdV w v0 v1 (.slice none 0 0) v3 (smallC [iG, iH, iM, iO]) → Calls Try.prog 5 #[.agg #[v0, v1, .slice none 0 0, v3]] w fun e w' => e = .returned (.tuple #[.int .i64 0, .int .i64 0]) ∧ Below w.heap.size w w') := fun w v0 v1 v3 h => by
    have := check_any v0 v1 (.slice none 0 0) v3 (smallC [iG, iH, iM, iO]) (smallC_ok (by decide) (bits_ok _ (by decide))) w h
    rw [chk4] at this
    exact this
  have HS2 : Hid (∀ w : World, Calls Try.prog 4 #[.slice (some ⟨w.heap.size, 0, none⟩) 2 2] (w.alloc (.cells #[.int .i64 29, .int .i64 1, .int .i64 0, .int .i64 0, .int .i64 0, .int .i64 0, .int .u32 0, .int .i64 6, .int .i64 1, .int .i64 1, .int .i64 0, .int .i64 0, .int .i64 0, .int .u32 0] 34)) fun e w' => ∃ v0 v1 v3, e = .returned (.agg #[v0, v1, .slice none 0 0, v3]) ∧ CdV w' v0 v1 (.slice none 0 0) v3 (smallC [iG, iM]) ∧ Below (w.alloc (.cells #[.int .i64 29, .int .i64 1, .int .i64 0, .int .i64 0, .int .i64 0, .int .i64 0, .int .u32 0, .int .i64 6, .int .i64 1, .int .i64 1, .int .i64 0, .int .i64 0, .int .i64 0, .int .u32 0] 34)).heap.size (w.alloc (.cells #[.int .i64 29, .int .i64 1, .int .i64 0, .int .i64 0, .int .i64 0, .int .i64 0, .int .u32 0, .int .i64 6, .int .i64 1, .int .i64 1, .int .i64 0, .int .i64 0, .int .i64 0, .int .u32 0] 34)) w') := fun w => (small_any [iG, iM] (by decide) _ _ (row_new inC_len w [iG, iM] _ 34 2 rfl rfl)).mono fun e w' ⟨v0, v1, v3, h1, h2, _, h4⟩ => ⟨v0, v1, v3, h1, h2, h4⟩
  have HC2 : Hid (∀ w v0 v1 v3, CdV w v0 v1 (.slice none 0 0) v3 (smallC [iG, iM]) → Calls Try.prog 5 #[.agg #[v0, v1, .slice none 0 0, v3]] w fun e w' => e = .returned (.tuple #[.int .i64 160, .int .i64 1]) ∧ Below w.heap.size w w') := fun w v0 v1 v3 h => by
    have := check_any v0 v1 (.slice none 0 0) v3 (smallC [iG, iM]) (smallC_ok (by decide) (bits_ok _ (by decide))) w h
    rw [chk2] at this
    exact this
  have HS3 : Hid (∀ w : World, Calls Try.prog 4 #[.slice (some ⟨w.heap.size, 0, none⟩) 3 3] (w.alloc (.cells #[.int .i64 36, .int .i64 0, .int .i64 0, .int .i64 0, .int .i64 0, .int .i64 0, .int .u32 0, .int .i64 29, .int .i64 1, .int .i64 0, .int .i64 0, .int .i64 0, .int .i64 0, .int .u32 0, .int .i64 37, .int .i64 0, .int .i64 0, .int .i64 0, .int .i64 0, .int .i64 0, .int .u32 0] 34)) fun e w' => ∃ v0 v1 v3, e = .returned (.agg #[v0, v1, .slice none 0 0, v3]) ∧ CdV w' v0 v1 (.slice none 0 0) v3 (smallC [iL, iG, iX]) ∧ Below (w.alloc (.cells #[.int .i64 36, .int .i64 0, .int .i64 0, .int .i64 0, .int .i64 0, .int .i64 0, .int .u32 0, .int .i64 29, .int .i64 1, .int .i64 0, .int .i64 0, .int .i64 0, .int .i64 0, .int .u32 0, .int .i64 37, .int .i64 0, .int .i64 0, .int .i64 0, .int .i64 0, .int .i64 0, .int .u32 0] 34)).heap.size (w.alloc (.cells #[.int .i64 36, .int .i64 0, .int .i64 0, .int .i64 0, .int .i64 0, .int .i64 0, .int .u32 0, .int .i64 29, .int .i64 1, .int .i64 0, .int .i64 0, .int .i64 0, .int .i64 0, .int .u32 0, .int .i64 37, .int .i64 0, .int .i64 0, .int .i64 0, .int .i64 0, .int .i64 0, .int .u32 0] 34)) w') := fun w => (small_any [iL, iG, iX] (by decide) _ _ (row_new inC_len w [iL, iG, iX] _ 34 3 rfl rfl)).mono fun e w' ⟨v0, v1, v3, h1, h2, _, h4⟩ => ⟨v0, v1, v3, h1, h2, h4⟩
  have HC3 : Hid (∀ w v0 v1 v3, CdV w v0 v1 (.slice none 0 0) v3 (smallC [iL, iG, iX]) → Calls Try.prog 5 #[.agg #[v0, v1, .slice none 0 0, v3]] w fun e w' => e = .returned (.tuple #[.int .i64 0, .int .i64 0]) ∧ Below w.heap.size w w') := fun w v0 v1 v3 h => by
    have := check_any v0 v1 (.slice none 0 0) v3 (smallC [iL, iG, iX]) (smallC_ok (by decide) (bits_ok _ (by decide))) w h
    rw [chk3] at this
    exact this
  have HT : Hid (∀ w, Calls Try.prog 16 #[.agg #[.int .i64 6, .int .i64 1, .int .i64 1, .int .i64 0, .int .i64 0, .int .i64 0, .int .u32 0]] w fun e w' => e = .returned (.bool true) ∧ Below w.heap.size w w') := fun w => sets_any iM w
  have HR : Hid (∀ w, Calls Try.prog 17 #[.agg #[.int .i64 6, .int .i64 1, .int .i64 1, .int .i64 0, .int .i64 0, .int .i64 0, .int .u32 0]] w fun e w' => ∃ p c, e = .returned (.slice p 2 c) ∧ Below w.heap.size w w') := fun w => (reads_any iM w).mono fun e w' ⟨v, h1, h2, h3⟩ => by
    obtain ⟨p, c, hv⟩ := own_len h2
    exact ⟨p, c, by rw [h1, hv]; rfl, h3⟩
  have HG : Hid (∀ v, Below (((w.alloc (.cells #[.int .i64 29, .int .i64 1, .int .i64 0, .int .i64 0, .int .i64 0, .int .i64 0, .int .u32 0] 34)).alloc (.cells #[.int .i64 6, .int .i64 1, .int .i64 1, .int .i64 0, .int .i64 0, .int .i64 0, .int .u32 0] 34)).alloc (.cells #[.int .i64 1, .int .i64 0, .int .i64 0, .int .i64 0, .int .i64 0, .int .i64 0, .int .u32 1056964608] 34)).heap.size (((w.alloc (.cells #[.int .i64 29, .int .i64 1, .int .i64 0, .int .i64 0, .int .i64 0, .int .i64 0, .int .u32 0] 34)).alloc (.cells #[.int .i64 6, .int .i64 1, .int .i64 1, .int .i64 0, .int .i64 0, .int .i64 0, .int .u32 0] 34)).alloc (.cells #[.int .i64 1, .int .i64 0, .int .i64 0, .int .i64 0, .int .i64 0, .int .i64 0, .int .u32 1056964608] 34)) v → v.cell? ⟨w.heap.size, 0, none⟩ = some (.int .i64 29) ∧ v.cell? ⟨w.heap.size, 1, none⟩ = some (.int .i64 1) ∧ v.cell? ⟨w.heap.size, 2, none⟩ = some (.int .i64 0) ∧ v.cell? ⟨w.heap.size, 3, none⟩ = some (.int .i64 0) ∧ v.cell? ⟨w.heap.size, 4, none⟩ = some (.int .i64 0) ∧ v.cell? ⟨w.heap.size, 5, none⟩ = some (.int .i64 0) ∧ v.cell? ⟨w.heap.size, 6, none⟩ = some (.int .u32 0)) := fun v hv => ⟨kc hv (by simp [go_sem]), kc hv (by simp [go_sem]), kc hv (by simp [go_sem]), kc hv (by simp [go_sem]), kc hv (by simp [go_sem]), kc hv (by simp [go_sem]), kc hv (by simp [go_sem])⟩
  have HM : Hid (∀ v, Below (((w.alloc (.cells #[.int .i64 29, .int .i64 1, .int .i64 0, .int .i64 0, .int .i64 0, .int .i64 0, .int .u32 0] 34)).alloc (.cells #[.int .i64 6, .int .i64 1, .int .i64 1, .int .i64 0, .int .i64 0, .int .i64 0, .int .u32 0] 34)).alloc (.cells #[.int .i64 1, .int .i64 0, .int .i64 0, .int .i64 0, .int .i64 0, .int .i64 0, .int .u32 1056964608] 34)).heap.size (((w.alloc (.cells #[.int .i64 29, .int .i64 1, .int .i64 0, .int .i64 0, .int .i64 0, .int .i64 0, .int .u32 0] 34)).alloc (.cells #[.int .i64 6, .int .i64 1, .int .i64 1, .int .i64 0, .int .i64 0, .int .i64 0, .int .u32 0] 34)).alloc (.cells #[.int .i64 1, .int .i64 0, .int .i64 0, .int .i64 0, .int .i64 0, .int .i64 0, .int .u32 1056964608] 34)) v → v.cell? ⟨w.heap.size + 1, 0, none⟩ = some (.int .i64 6) ∧ v.cell? ⟨w.heap.size + 1, 1, none⟩ = some (.int .i64 1) ∧ v.cell? ⟨w.heap.size + 1, 2, none⟩ = some (.int .i64 1) ∧ v.cell? ⟨w.heap.size + 1, 3, none⟩ = some (.int .i64 0) ∧ v.cell? ⟨w.heap.size + 1, 4, none⟩ = some (.int .i64 0) ∧ v.cell? ⟨w.heap.size + 1, 5, none⟩ = some (.int .i64 0) ∧ v.cell? ⟨w.heap.size + 1, 6, none⟩ = some (.int .u32 0)) := fun v hv => ⟨kc hv (by simp [go_sem]), kc hv (by simp [go_sem]), kc hv (by simp [go_sem]), kc hv (by simp [go_sem]), kc hv (by simp [go_sem]), kc hv (by simp [go_sem]), kc hv (by simp [go_sem])⟩
  have hs3 : (((w.alloc (.cells #[.int .i64 29, .int .i64 1, .int .i64 0, .int .i64 0, .int .i64 0, .int .i64 0, .int .u32 0] 34)).alloc (.cells #[.int .i64 6, .int .i64 1, .int .i64 1, .int .i64 0, .int .i64 0, .int .i64 0, .int .u32 0] 34)).alloc (.cells #[.int .i64 1, .int .i64 0, .int .i64 0, .int .i64 0, .int .i64 0, .int .i64 0, .int .u32 1056964608] 34)).heap.size = w.heap.size + 1 + 1 + 1 := by simp
  have HS6 : Hid (Calls Try.prog 4 #[.slice (some ⟨w.heap.size + 1 + 1 + 1, 0, none⟩) 4 4] ((((w.alloc (.cells #[.int .i64 29, .int .i64 1, .int .i64 0, .int .i64 0, .int .i64 0, .int .i64 0, .int .u32 0] 34)).alloc (.cells #[.int .i64 6, .int .i64 1, .int .i64 1, .int .i64 0, .int .i64 0, .int .i64 0, .int .u32 0] 34)).alloc (.cells #[.int .i64 1, .int .i64 0, .int .i64 0, .int .i64 0, .int .i64 0, .int .i64 0, .int .u32 1056964608] 34)).alloc (.cells #[.int .i64 29, .int .i64 1, .int .i64 0, .int .i64 0, .int .i64 0, .int .i64 0, .int .u32 0, .int .i64 1, .int .i64 0, .int .i64 0, .int .i64 0, .int .i64 0, .int .i64 0, .int .u32 1056964608, .int .i64 6, .int .i64 1, .int .i64 1, .int .i64 0, .int .i64 0, .int .i64 0, .int .u32 0, .int .i64 31, .int .i64 0, .int .i64 1, .int .i64 0, .int .i64 0, .int .i64 0, .int .u32 0] 34)) fun e w' => ∃ v0 v1 v3, e = .returned (.agg #[v0, v1, .slice none 0 0, v3]) ∧ CdV w' v0 v1 (.slice none 0 0) v3 (smallC [iG, iH, iM, iO]) ∧ Below (((w.alloc (.cells #[.int .i64 29, .int .i64 1, .int .i64 0, .int .i64 0, .int .i64 0, .int .i64 0, .int .u32 0] 34)).alloc (.cells #[.int .i64 6, .int .i64 1, .int .i64 1, .int .i64 0, .int .i64 0, .int .i64 0, .int .u32 0] 34)).alloc (.cells #[.int .i64 1, .int .i64 0, .int .i64 0, .int .i64 0, .int .i64 0, .int .i64 0, .int .u32 1056964608] 34)).heap.size (((w.alloc (.cells #[.int .i64 29, .int .i64 1, .int .i64 0, .int .i64 0, .int .i64 0, .int .i64 0, .int .u32 0] 34)).alloc (.cells #[.int .i64 6, .int .i64 1, .int .i64 1, .int .i64 0, .int .i64 0, .int .i64 0, .int .u32 0] 34)).alloc (.cells #[.int .i64 1, .int .i64 0, .int .i64 0, .int .i64 0, .int .i64 0, .int .i64 0, .int .u32 1056964608] 34)) w') := by
    have h5 := HS4.out (((w.alloc (.cells #[.int .i64 29, .int .i64 1, .int .i64 0, .int .i64 0, .int .i64 0, .int .i64 0, .int .u32 0] 34)).alloc (.cells #[.int .i64 6, .int .i64 1, .int .i64 1, .int .i64 0, .int .i64 0, .int .i64 0, .int .u32 0] 34)).alloc (.cells #[.int .i64 1, .int .i64 0, .int .i64 0, .int .i64 0, .int .i64 0, .int .i64 0, .int .u32 1056964608] 34))
    rw [hs3] at h5
    exact h5.mono fun e w' ⟨v0, v1, v3, h1, h2, h4⟩ => ⟨v0, v1, v3, h1, h2, bel (bel_alloc _ _) h4⟩
  clear hs3 HS4
  have HB0 : Hid (Below w.heap.size w (((w.alloc (.cells #[.int .i64 29, .int .i64 1, .int .i64 0, .int .i64 0, .int .i64 0, .int .i64 0, .int .u32 0] 34)).alloc (.cells #[.int .i64 6, .int .i64 1, .int .i64 1, .int .i64 0, .int .i64 0, .int .i64 0, .int .u32 0] 34)).alloc (.cells #[.int .i64 1, .int .i64 0, .int .i64 0, .int .i64 0, .int .i64 0, .int .i64 0, .int .u32 1056964608] 34))) := bel (bel (bel_alloc _ _) (bel_alloc _ _)) (bel_alloc _ _)
  go_enter Try.func7, Try.ntmps7
  go_wp2_with (first
    | (go_at_call 4; (with_reducible refine HS6.out.mono ?_); rintro e w1 ⟨p0, p1, p3, rfl, hc1, hb1⟩; have HD1 : Hid (CdV w1 p0 p1 (.slice none 0 0) p3 (smallC [iG, iH, iM, iO])) := hc1; have HB1 := hb1; clear hc1 hb1)
    | (go_at_call 4; (with_reducible refine (HS2.out _).mono ?_); rintro e w3 ⟨q0, q1, q3, rfl, hc3, hb3⟩; have HD3 : Hid (CdV w3 q0 q1 (.slice none 0 0) q3 (smallC [iG, iM])) := hc3; have HB3 := bel HB2 (bel (bel_alloc _ _) hb3); clear hc3 hb3)
    | (go_at_call 4; (with_reducible refine (HS3.out _).mono ?_); rintro e w5 ⟨r0, r1, r3, rfl, hc5, hb5⟩; have HD5 : Hid (CdV w5 r0 r1 (.slice none 0 0) r3 (smallC [iL, iG, iX])) := hc5; have HB5 := bel HB4 (bel (bel_alloc _ _) hb5); clear hc5 hb5)
    | (go_at_call 5; (with_reducible refine (HC4.out _ _ _ _ HD1.out).mono ?_); rintro e w2 ⟨rfl, hb2⟩; have HB2 := bel HB1 hb2; obtain ⟨a0, a1, a2, a3, a4, a5, a6⟩ := HG.out w2 HB2; obtain ⟨b0, b1, b2, b3, b4, b5, b6⟩ := HM.out w2 HB2; clear HD1 hb2)
    | (go_at_call 5; (with_reducible refine (HC2.out _ _ _ _ HD3.out).mono ?_); rintro e w4 ⟨rfl, hb4⟩; have HB4 := bel HB3 hb4; obtain ⟨c0, c1, c2, c3, c4, c5, c6⟩ := HG.out w4 HB4; clear HD3 hb4)
    | (go_at_call 5; (with_reducible refine (HC3.out _ _ _ _ HD5.out).mono ?_); rintro e w6 ⟨rfl, hb6⟩; have HB6 := bel HB5 hb6; obtain ⟨d0, d1, d2, d3, d4, d5, d6⟩ := HM.out w6 HB6; clear HD5 hb6)
    | (go_at_call 16; (with_reducible refine (HT.out _).mono ?_); rintro e w7 ⟨rfl, hb7⟩; have HB7 := bel HB6 hb7; obtain ⟨f0, f1, f2, f3, f4, f5, f6⟩ := HM.out w7 HB7; clear hb7)
    | (go_at_call 17; (with_reducible refine (HR.out _).mono ?_); rintro e w8 ⟨pp, cc, rfl, hb8⟩; have HB8 := bel HB7 hb8; clear hb8))
  go_ret
  exact ⟨rfl, bel HB0.out HB8⟩

end Go.Proofs.Ytgnjhjkbnchdmaa
