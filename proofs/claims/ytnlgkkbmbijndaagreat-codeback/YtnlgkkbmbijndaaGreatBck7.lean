import Derived.Test.YtnlgkkbmbijndaaGreatBck6
import Derived.ChangeKeysEq
/- Package ir: whether an instruction may stand there. -/
namespace Go.Proofs.YtnlgkkbmbijndaaGreat
open Go.RowKit
set_option linter.unusedVariables false
set_option linter.unusedSimpArgs false

/-- The worlds behind the copy of the innermost block: the row's letters, the block, the struct, the instruction's Op. -/
structure MW (w : World) (H G C b o : Nat) (vo : Value) (L0 L1 L2 L3 L4 op : Int) (X : Bool) (P A : Int) (v : World) : Prop where
  bel : Below w.heap.size w v
  r0 : v.cell? ⟨w.heap.size, 0, none⟩ = some (.int .i64 L0)
  r1 : v.cell? ⟨w.heap.size, 1, none⟩ = some (.int .i64 L1)
  r2 : v.cell? ⟨w.heap.size, 2, none⟩ = some (.int .i64 L2)
  r3 : v.cell? ⟨w.heap.size, 3, none⟩ = some (.int .i64 L3)
  r4 : v.cell? ⟨w.heap.size, 4, none⟩ = some (.int .i64 L4)
  m0 : v.cell? ⟨H, 0, none⟩ = some (.bool X)
  m1 : v.cell? ⟨H, 1, none⟩ = some (.int .i64 P)
  g0 : v.cell? ⟨G, 0, none⟩ = some (.pointer (some ⟨C, 0, none⟩))
  g3 : v.cell? ⟨G, 3, none⟩ = some vo
  e0 : v.cell? ⟨b, o, none⟩ = some (.int .i64 op)
theorem MW.next {w : World} {H G C b o : Nat} {vo : Value} {L0 L1 L2 L3 L4 op : Int} {X : Bool} {P A : Int} {v v' : World} (h : MW w H G C b o vo L0 L1 L2 L3 L4 op X P A v) (k : Below v.heap.size v v') : MW w H G C b o vo L0 L1 L2 L3 L4 op X P A v' :=
  ⟨Go.Proofs.YtnlgkkbmbijndaaGreat.bel h.bel k, kc k h.r0, kc k h.r1, kc k h.r2, kc k h.r3, kc k h.r4, kc k h.m0, kc k h.m1, kc k h.g0, kc k h.g3, kc k h.e0⟩

set_option maxRecDepth 100000 in
set_option maxHeartbeats 4000000 in
theorem mayStand_any (E G C n gi : Nat) (vs vo : Value) (s : Wk) (v0 v1 v2 v3 : Value) (c : Cd) (hk : CdOk c) (b o : Nat) (i : Ins) (r : Rw) (w : World) (h : WS E G C n gi vs vo w s) (hn : s.opens.length ≤ 64) (hc : CdAt w C v0 v1 v2 v3 c) (hi : CellsAt w b o (inC i)) :
    Calls Tryz.prog 76 #[.pointer (some ⟨G, 0, none⟩), .pointer (some ⟨b, o, none⟩), rwV r] w fun e w' => e = .returned (.bool (mayStandP c s i r)) ∧ Below w.heap.size w w' := by
  have KI := innermost_any E G C n gi vs vo s
  have KM := fun w h k => mainType_any C v0 v1 v2 v3 c hk b o i r w h k
  have KL := looped_any i.op
  have HC0 : Hid (CdAt w C v0 v1 v2 v3 c) := hc
  have HI0 : Hid (CellsAt w b o (inC i)) := hi
  have HS0 : Hid (WS E G C n gi vs vo w s) := h
  have hlen : ∃ p q, vo = .slice p s.opens.length q := own_len h.opn
  obtain ⟨p, q, rfl⟩ := hlen
  have e0 := hi.at 0 rfl
  rw [Nat.add_zero] at e0
  have hop : (!s.opens.isEmpty) = false → inLoop s = false := fun hh => by
    unfold inLoop
    cases hO : s.opens with
    | nil => rfl
    | cons b r => rw [hO] at hh; simp at hh
  unfold mayStandP
  obtain ⟨X, hX⟩ : ∃ X, inLoop s = X := ⟨_, rfl⟩
  obtain ⟨Y, hY⟩ : ∃ Y, (!s.opens.isEmpty) = Y := ⟨_, rfl⟩
  obtain ⟨P, hP⟩ : ∃ P, innerP s = P := ⟨_, rfl⟩
  obtain ⟨Z, hZ⟩ : ∃ Z, loopedP i.op = Z := ⟨_, rfl⟩
  obtain ⟨M, hM⟩ : ∃ M, mainT c.regs i r = M := ⟨_, rfl⟩
  obtain ⟨N, hN⟩ : ∃ N, s.opens.length = N := ⟨_, rfl⟩
  obtain ⟨op, hopp⟩ : ∃ x, i.op = x := ⟨_, rfl⟩
  rw [hX, hY] at hop
  simp only [hX, hY, hP, hN] at KI ⊢
  simp only [hM] at KM ⊢
  simp only [hZ] at KL ⊢
  rw [hN] at HS0 hn
  rw [hopp] at e0 KL ⊢
  obtain ⟨L0, L1, L2, L3, L4⟩ := r
  obtain ⟨K, Q⟩ := M
  unfold rwV at KM ⊢
  unfold tyV at KM
  simp only at KM
  rw [ty_eq]
  have HKI : Hid (∀ w, WS E G C n gi vs (.slice p N q) w s → Calls Tryz.prog 105 #[.pointer (some ⟨G, 0, none⟩)] w fun e w' => (∃ A : Int, e = .returned (.tuple #[.agg #[.bool X, .int .i64 P, .int .i64 A], .bool Y])) ∧ Below w.heap.size w w') := fun w hw => KI w hw hn
  have HKM : Hid (∀ w, CdAt w C v0 v1 v2 v3 c → CellsAt w b o (inC i) → Calls Tryz.prog 101 #[.pointer (some ⟨C, 0, none⟩), .pointer (some ⟨b, o, none⟩), .agg #[.int .i64 L0, .int .i64 L1, .int .i64 L2, .int .i64 L3, .int .i64 L4]] w fun e w' => e = .returned (.agg #[.int .i64 K, .int .i64 Q]) ∧ Below w.heap.size w w') := KM
  have HKL : Hid (∀ w, Calls Tryz.prog 106 #[.int .i64 op] w fun e w' => e = .returned (.bool Z) ∧ w' = w) := KL
  have HE0 : Hid (w.cell? ⟨b, o, none⟩ = some (.int .i64 op)) := e0
  have HOP : Hid (Y = false → X = false) := hop
  clear KI KM KL h hc hi hk hX hY hP hZ hM hN hopp e0 hop hn
  by_cases h34 : op = 34 ∨ op = 36
  · rw [if_pos h34]
    cases X
    · cases Y
      all_goals
        rcases h34 with h | h
        · have e1 : (op == 34) = true := (by have : op = 34 := (by omega); simpa using this); have e2 : (op == 36) = false := (by have : op ≠ 36 := (by omega); simpa using this); have e3 : (op == 35) = false := (by have : op ≠ 35 := (by omega); simpa using this); have e4 : (op == 37) = false := (by have : op ≠ 37 := (by omega); simpa using this)
          clear h
          go_enter Tryz.func76, Tryz.ntmps76
          go_wp2_with (go_at_call 105; refine (HKI.out _ (HS0.out.below (bel_alloc _ _))).mono ?_; rintro e w1 ⟨⟨A, rfl⟩, hb1⟩; have HF : Hid (MW w w1.heap.size G C b o (.slice p N q) L0 L1 L2 L3 L4 op false P A (w1.alloc (.cells #[.bool false, .int .i64 P, .int .i64 A] 173))) := (by have hq := bel (bel_alloc _ _) hb1; exact ⟨bel hq (bel_alloc _ _), kc (bel_alloc _ _) (kc hb1 (by simp [go_sem])), kc (bel_alloc _ _) (kc hb1 (by simp [go_sem])), kc (bel_alloc _ _) (kc hb1 (by simp [go_sem])), kc (bel_alloc _ _) (kc hb1 (by simp [go_sem])), kc (bel_alloc _ _) (kc hb1 (by simp [go_sem])), by simp [go_sem], by simp [go_sem], kc (bel_alloc _ _) (kc hq HS0.out.c0), kc (bel_alloc _ _) (kc hq HS0.out.c3), kc (bel_alloc _ _) (kc hq HE0.out)⟩); have f0 := HF.out.m0; have f1 := HF.out.g3; have f2 := HF.out.e0; have f3 := HF.out.m1; have f4 := HF.out.g0)
          all_goals (go_ret; exact ⟨ret_bool (by simp; try omega), HF.out.bel⟩)
        · have e1 : (op == 34) = false := (by have : op ≠ 34 := (by omega); simpa using this); have e2 : (op == 36) = true := (by have : op = 36 := (by omega); simpa using this); have e3 : (op == 35) = false := (by have : op ≠ 35 := (by omega); simpa using this); have e4 : (op == 37) = false := (by have : op ≠ 37 := (by omega); simpa using this)
          clear h
          go_enter Tryz.func76, Tryz.ntmps76
          go_wp2_with (go_at_call 105; refine (HKI.out _ (HS0.out.below (bel_alloc _ _))).mono ?_; rintro e w1 ⟨⟨A, rfl⟩, hb1⟩; have HF : Hid (MW w w1.heap.size G C b o (.slice p N q) L0 L1 L2 L3 L4 op false P A (w1.alloc (.cells #[.bool false, .int .i64 P, .int .i64 A] 173))) := (by have hq := bel (bel_alloc _ _) hb1; exact ⟨bel hq (bel_alloc _ _), kc (bel_alloc _ _) (kc hb1 (by simp [go_sem])), kc (bel_alloc _ _) (kc hb1 (by simp [go_sem])), kc (bel_alloc _ _) (kc hb1 (by simp [go_sem])), kc (bel_alloc _ _) (kc hb1 (by simp [go_sem])), kc (bel_alloc _ _) (kc hb1 (by simp [go_sem])), by simp [go_sem], by simp [go_sem], kc (bel_alloc _ _) (kc hq HS0.out.c0), kc (bel_alloc _ _) (kc hq HS0.out.c3), kc (bel_alloc _ _) (kc hq HE0.out)⟩); have f0 := HF.out.m0; have f1 := HF.out.g3; have f2 := HF.out.e0; have f3 := HF.out.m1; have f4 := HF.out.g0)
          all_goals (go_ret; exact ⟨ret_bool (by simp; try omega), HF.out.bel⟩)
    · cases Y
      · exact absurd (HOP.out rfl) (by decide)
      · rcases h34 with h | h
        · have e1 : (op == 34) = true := (by have : op = 34 := (by omega); simpa using this); have e2 : (op == 36) = false := (by have : op ≠ 36 := (by omega); simpa using this); have e3 : (op == 35) = false := (by have : op ≠ 35 := (by omega); simpa using this); have e4 : (op == 37) = false := (by have : op ≠ 37 := (by omega); simpa using this)
          clear h
          go_enter Tryz.func76, Tryz.ntmps76
          go_wp2_with (go_at_call 105; refine (HKI.out _ (HS0.out.below (bel_alloc _ _))).mono ?_; rintro e w1 ⟨⟨A, rfl⟩, hb1⟩; have HF : Hid (MW w w1.heap.size G C b o (.slice p N q) L0 L1 L2 L3 L4 op true P A (w1.alloc (.cells #[.bool true, .int .i64 P, .int .i64 A] 173))) := (by have hq := bel (bel_alloc _ _) hb1; exact ⟨bel hq (bel_alloc _ _), kc (bel_alloc _ _) (kc hb1 (by simp [go_sem])), kc (bel_alloc _ _) (kc hb1 (by simp [go_sem])), kc (bel_alloc _ _) (kc hb1 (by simp [go_sem])), kc (bel_alloc _ _) (kc hb1 (by simp [go_sem])), kc (bel_alloc _ _) (kc hb1 (by simp [go_sem])), by simp [go_sem], by simp [go_sem], kc (bel_alloc _ _) (kc hq HS0.out.c0), kc (bel_alloc _ _) (kc hq HS0.out.c3), kc (bel_alloc _ _) (kc hq HE0.out)⟩); have f0 := HF.out.m0; have f1 := HF.out.g3; have f2 := HF.out.e0; have f3 := HF.out.m1; have f4 := HF.out.g0)
          all_goals (go_ret; exact ⟨ret_bool (by simp; try omega), HF.out.bel⟩)
        · have e1 : (op == 34) = false := (by have : op ≠ 34 := (by omega); simpa using this); have e2 : (op == 36) = true := (by have : op = 36 := (by omega); simpa using this); have e3 : (op == 35) = false := (by have : op ≠ 35 := (by omega); simpa using this); have e4 : (op == 37) = false := (by have : op ≠ 37 := (by omega); simpa using this)
          clear h
          go_enter Tryz.func76, Tryz.ntmps76
          go_wp2_with (go_at_call 105; refine (HKI.out _ (HS0.out.below (bel_alloc _ _))).mono ?_; rintro e w1 ⟨⟨A, rfl⟩, hb1⟩; have HF : Hid (MW w w1.heap.size G C b o (.slice p N q) L0 L1 L2 L3 L4 op true P A (w1.alloc (.cells #[.bool true, .int .i64 P, .int .i64 A] 173))) := (by have hq := bel (bel_alloc _ _) hb1; exact ⟨bel hq (bel_alloc _ _), kc (bel_alloc _ _) (kc hb1 (by simp [go_sem])), kc (bel_alloc _ _) (kc hb1 (by simp [go_sem])), kc (bel_alloc _ _) (kc hb1 (by simp [go_sem])), kc (bel_alloc _ _) (kc hb1 (by simp [go_sem])), kc (bel_alloc _ _) (kc hb1 (by simp [go_sem])), by simp [go_sem], by simp [go_sem], kc (bel_alloc _ _) (kc hq HS0.out.c0), kc (bel_alloc _ _) (kc hq HS0.out.c3), kc (bel_alloc _ _) (kc hq HE0.out)⟩); have f0 := HF.out.m0; have f1 := HF.out.g3; have f2 := HF.out.e0; have f3 := HF.out.m1; have f4 := HF.out.g0)
          all_goals (go_ret; exact ⟨ret_bool (by simp; try omega), HF.out.bel⟩)
  rw [if_neg h34]
  by_cases h35 : op = 35
  · rw [if_pos h35]
    have e1 : (op == 34) = false := (by have : op ≠ 34 := (by omega); simpa using this); have e2 : (op == 36) = false := (by have : op ≠ 36 := (by omega); simpa using this); have e3 : (op == 35) = true := (by have : op = 35 := (by omega); simpa using this); have e4 : (op == 37) = false := (by have : op ≠ 37 := (by omega); simpa using this)
    clear h34 h35
    cases X
    · cases Y
      all_goals
        go_enter Tryz.func76, Tryz.ntmps76
        go_wp2_with (go_at_call 105; refine (HKI.out _ (HS0.out.below (bel_alloc _ _))).mono ?_; rintro e w1 ⟨⟨A, rfl⟩, hb1⟩; have HF : Hid (MW w w1.heap.size G C b o (.slice p N q) L0 L1 L2 L3 L4 op false P A (w1.alloc (.cells #[.bool false, .int .i64 P, .int .i64 A] 173))) := (by have hq := bel (bel_alloc _ _) hb1; exact ⟨bel hq (bel_alloc _ _), kc (bel_alloc _ _) (kc hb1 (by simp [go_sem])), kc (bel_alloc _ _) (kc hb1 (by simp [go_sem])), kc (bel_alloc _ _) (kc hb1 (by simp [go_sem])), kc (bel_alloc _ _) (kc hb1 (by simp [go_sem])), kc (bel_alloc _ _) (kc hb1 (by simp [go_sem])), by simp [go_sem], by simp [go_sem], kc (bel_alloc _ _) (kc hq HS0.out.c0), kc (bel_alloc _ _) (kc hq HS0.out.c3), kc (bel_alloc _ _) (kc hq HE0.out)⟩); have f0 := HF.out.m0; have f1 := HF.out.g3; have f2 := HF.out.e0; have f3 := HF.out.m1; have f4 := HF.out.g0)
        all_goals (go_ret; exact ⟨ret_bool (by simp; try omega), HF.out.bel⟩)
    · cases Y
      · exact absurd (HOP.out rfl) (by decide)
      · go_enter Tryz.func76, Tryz.ntmps76
        go_wp2_with (go_at_call 105; refine (HKI.out _ (HS0.out.below (bel_alloc _ _))).mono ?_; rintro e w1 ⟨⟨A, rfl⟩, hb1⟩; have HF : Hid (MW w w1.heap.size G C b o (.slice p N q) L0 L1 L2 L3 L4 op true P A (w1.alloc (.cells #[.bool true, .int .i64 P, .int .i64 A] 173))) := (by have hq := bel (bel_alloc _ _) hb1; exact ⟨bel hq (bel_alloc _ _), kc (bel_alloc _ _) (kc hb1 (by simp [go_sem])), kc (bel_alloc _ _) (kc hb1 (by simp [go_sem])), kc (bel_alloc _ _) (kc hb1 (by simp [go_sem])), kc (bel_alloc _ _) (kc hb1 (by simp [go_sem])), kc (bel_alloc _ _) (kc hb1 (by simp [go_sem])), by simp [go_sem], by simp [go_sem], kc (bel_alloc _ _) (kc hq HS0.out.c0), kc (bel_alloc _ _) (kc hq HS0.out.c3), kc (bel_alloc _ _) (kc hq HE0.out)⟩); have f0 := HF.out.m0; have f1 := HF.out.g3; have f2 := HF.out.e0; have f3 := HF.out.m1; have f4 := HF.out.g0)
        all_goals (go_ret; exact ⟨ret_bool (by simp; try omega), HF.out.bel⟩)
  rw [if_neg h35]
  by_cases h37 : op = 37
  · rw [if_pos h37]
    have e1 : (op == 34) = false := (by have : op ≠ 34 := (by omega); simpa using this); have e2 : (op == 36) = false := (by have : op ≠ 36 := (by omega); simpa using this); have e3 : (op == 35) = false := (by have : op ≠ 35 := (by omega); simpa using this); have e4 : (op == 37) = true := (by have : op = 37 := (by omega); simpa using this)
    clear h34 h35 h37
    cases X
    · cases Y
      all_goals
        go_enter Tryz.func76, Tryz.ntmps76
        go_wp2_with (go_at_call 105; refine (HKI.out _ (HS0.out.below (bel_alloc _ _))).mono ?_; rintro e w1 ⟨⟨A, rfl⟩, hb1⟩; have HF : Hid (MW w w1.heap.size G C b o (.slice p N q) L0 L1 L2 L3 L4 op false P A (w1.alloc (.cells #[.bool false, .int .i64 P, .int .i64 A] 173))) := (by have hq := bel (bel_alloc _ _) hb1; exact ⟨bel hq (bel_alloc _ _), kc (bel_alloc _ _) (kc hb1 (by simp [go_sem])), kc (bel_alloc _ _) (kc hb1 (by simp [go_sem])), kc (bel_alloc _ _) (kc hb1 (by simp [go_sem])), kc (bel_alloc _ _) (kc hb1 (by simp [go_sem])), kc (bel_alloc _ _) (kc hb1 (by simp [go_sem])), by simp [go_sem], by simp [go_sem], kc (bel_alloc _ _) (kc hq HS0.out.c0), kc (bel_alloc _ _) (kc hq HS0.out.c3), kc (bel_alloc _ _) (kc hq HE0.out)⟩); have f0 := HF.out.m0; have f1 := HF.out.g3; have f2 := HF.out.e0; have f3 := HF.out.m1; have f4 := HF.out.g0)
        all_goals (go_ret; exact ⟨ret_bool (by simp; try omega), HF.out.bel⟩)
    · cases Y
      · exact absurd (HOP.out rfl) (by decide)
      · go_enter Tryz.func76, Tryz.ntmps76
        go_wp2_with (go_at_call 105; refine (HKI.out _ (HS0.out.below (bel_alloc _ _))).mono ?_; rintro e w1 ⟨⟨A, rfl⟩, hb1⟩; have HF : Hid (MW w w1.heap.size G C b o (.slice p N q) L0 L1 L2 L3 L4 op true P A (w1.alloc (.cells #[.bool true, .int .i64 P, .int .i64 A] 173))) := (by have hq := bel (bel_alloc _ _) hb1; exact ⟨bel hq (bel_alloc _ _), kc (bel_alloc _ _) (kc hb1 (by simp [go_sem])), kc (bel_alloc _ _) (kc hb1 (by simp [go_sem])), kc (bel_alloc _ _) (kc hb1 (by simp [go_sem])), kc (bel_alloc _ _) (kc hb1 (by simp [go_sem])), kc (bel_alloc _ _) (kc hb1 (by simp [go_sem])), by simp [go_sem], by simp [go_sem], kc (bel_alloc _ _) (kc hq HS0.out.c0), kc (bel_alloc _ _) (kc hq HS0.out.c3), kc (bel_alloc _ _) (kc hq HE0.out)⟩); have f0 := HF.out.m0; have f1 := HF.out.g3; have f2 := HF.out.e0; have f3 := HF.out.m1; have f4 := HF.out.g0)
        all_goals (go_ret; exact ⟨ret_bool (by simp; try omega), HF.out.bel⟩)
  rw [if_neg h37]
  have e1 : (op == 34) = false := by have : op ≠ 34 := (fun e => h34 (.inl e)); simpa using this
  have e2 : (op == 36) = false := by have : op ≠ 36 := (fun e => h34 (.inr e)); simpa using this
  have e3 : (op == 35) = false := by simpa using h35
  have e4 : (op == 37) = false := by simpa using h37
  clear h34 h35 h37
  cases X
  · cases Y
    all_goals
      go_enter Tryz.func76, Tryz.ntmps76
      go_wp2_with (go_at_call 105; refine (HKI.out _ (HS0.out.below (bel_alloc _ _))).mono ?_; rintro e w1 ⟨⟨A, rfl⟩, hb1⟩; have HF : Hid (MW w w1.heap.size G C b o (.slice p N q) L0 L1 L2 L3 L4 op false P A (w1.alloc (.cells #[.bool false, .int .i64 P, .int .i64 A] 173))) := (by have hq := bel (bel_alloc _ _) hb1; exact ⟨bel hq (bel_alloc _ _), kc (bel_alloc _ _) (kc hb1 (by simp [go_sem])), kc (bel_alloc _ _) (kc hb1 (by simp [go_sem])), kc (bel_alloc _ _) (kc hb1 (by simp [go_sem])), kc (bel_alloc _ _) (kc hb1 (by simp [go_sem])), kc (bel_alloc _ _) (kc hb1 (by simp [go_sem])), by simp [go_sem], by simp [go_sem], kc (bel_alloc _ _) (kc hq HS0.out.c0), kc (bel_alloc _ _) (kc hq HS0.out.c3), kc (bel_alloc _ _) (kc hq HE0.out)⟩); have f0 := HF.out.m0; have f1 := HF.out.g3; have f2 := HF.out.e0; have f3 := HF.out.m1; have f4 := HF.out.g0)
      refine wp_region_held_drew (S := (fun v => v.cell? ⟨b, o, none⟩ = some (.int .i64 op))) (by kernel_rfl) ?_ (fun hHeld => ?_)
      · ((try dsimp only); go_keep)
      refine wpAnyH_take (i := 0) (v := ?_) (by simp only [List.getElem?_toArray, List.getElem?_cons_succ, List.getElem?_cons_zero]; rfl) (by kernel_rfl) (by kernel_rfl) (by kernel_rfl) (by exact fun _ _ _ h => h) (Or.inl ⟨by rfl, ?_⟩) (by assumption) ?_
      rotate_left 1
      · (intro wS hSw; (try dsimp only at hSw); go_simp; try (with_reducible rfl))
      try simp only [Act.put, List.setIfInBounds_toArray, List.set_cons_zero, List.set_cons_succ]
      refine wpAnyH_take (i := 1) (v := ?_) (by simp only [List.getElem?_toArray, List.getElem?_cons_succ, List.getElem?_cons_zero]; rfl) (by kernel_rfl) (by kernel_rfl) (by kernel_rfl) (by exact fun _ _ _ h => h) (Or.inl ⟨by rfl, ?_⟩) (by assumption) ?_
      rotate_left 1
      · (intro wS hSw; (try dsimp only at hSw); go_simp; try (with_reducible rfl))
      try simp only [Act.put, List.setIfInBounds_toArray, List.set_cons_zero, List.set_cons_succ]
      refine wpAnyH_take (i := 2) (v := ?_) (by simp only [List.getElem?_toArray, List.getElem?_cons_succ, List.getElem?_cons_zero]; rfl) (by kernel_rfl) (by kernel_rfl) (by kernel_rfl) (by exact fun _ _ _ h => h) (Or.inl ⟨by rfl, ?_⟩) (by assumption) ?_
      rotate_left 1
      · (intro wS hSw; (try dsimp only at hSw); go_simp; try (with_reducible rfl))
      try simp only [Act.put, List.setIfInBounds_toArray, List.set_cons_zero, List.set_cons_succ]
      refine wpAnyH_take (i := 3) (v := undef) (by simp only [List.getElem?_toArray, List.getElem?_cons_succ, List.getElem?_cons_zero]; rfl) (by kernel_rfl) (by kernel_rfl) (by kernel_rfl) (by exact fun _ _ _ h => h) (Or.inr ⟨by rfl, rfl⟩) (by assumption) ?_
      try simp only [Act.put, List.setIfInBounds_toArray, List.set_cons_zero, List.set_cons_succ]
      refine wpAnyH_take (i := 4) (v := undef) (by simp only [List.getElem?_toArray, List.getElem?_cons_succ, List.getElem?_cons_zero]; rfl) (by kernel_rfl) (by kernel_rfl) (by kernel_rfl) (by exact fun _ _ _ h => h) (Or.inr ⟨by rfl, rfl⟩) (by assumption) ?_
      try simp only [Act.put, List.setIfInBounds_toArray, List.set_cons_zero, List.set_cons_succ]
      refine wpAnyH_take (i := 5) (v := undef) (by simp only [List.getElem?_toArray, List.getElem?_cons_succ, List.getElem?_cons_zero]; rfl) (by kernel_rfl) (by kernel_rfl) (by kernel_rfl) (by exact fun _ _ _ h => h) (Or.inr ⟨by rfl, rfl⟩) (by assumption) ?_
      try simp only [Act.put, List.setIfInBounds_toArray, List.set_cons_zero, List.set_cons_succ]
      refine wpAnyH_take (i := 6) (v := undef) (by simp only [List.getElem?_toArray, List.getElem?_cons_succ, List.getElem?_cons_zero]; rfl) (by kernel_rfl) (by kernel_rfl) (by kernel_rfl) (by exact fun _ _ _ h => h) (Or.inr ⟨by rfl, rfl⟩) (by assumption) ?_
      try simp only [Act.put, List.setIfInBounds_toArray, List.set_cons_zero, List.set_cons_succ]
      refine wpAnyH_take (i := 7) (v := undef) (by simp only [List.getElem?_toArray, List.getElem?_cons_succ, List.getElem?_cons_zero]; rfl) (by kernel_rfl) (by kernel_rfl) (by kernel_rfl) (by exact fun _ _ _ h => h) (Or.inr ⟨by rfl, rfl⟩) (by assumption) ?_
      try simp only [Act.put, List.setIfInBounds_toArray, List.set_cons_zero, List.set_cons_succ]
      refine wpAnyH_take (i := 8) (v := undef) (by simp only [List.getElem?_toArray, List.getElem?_cons_succ, List.getElem?_cons_zero]; rfl) (by kernel_rfl) (by kernel_rfl) (by kernel_rfl) (by exact fun _ _ _ h => h) (Or.inr ⟨by rfl, rfl⟩) (by assumption) ?_
      try simp only [Act.put, List.setIfInBounds_toArray, List.set_cons_zero, List.set_cons_succ]
      refine wpAnyH_take (i := 9) (v := undef) (by simp only [List.getElem?_toArray, List.getElem?_cons_succ, List.getElem?_cons_zero]; rfl) (by kernel_rfl) (by kernel_rfl) (by kernel_rfl) (by exact fun _ _ _ h => h) (Or.inr ⟨by rfl, rfl⟩) (by assumption) ?_
      try simp only [Act.put, List.setIfInBounds_toArray, List.set_cons_zero, List.set_cons_succ]
      refine wpAnyH_take (i := 10) (v := undef) (by simp only [List.getElem?_toArray, List.getElem?_cons_succ, List.getElem?_cons_zero]; rfl) (by kernel_rfl) (by kernel_rfl) (by kernel_rfl) (by exact fun _ _ _ h => h) (Or.inr ⟨by rfl, rfl⟩) (by assumption) ?_
      try simp only [Act.put, List.setIfInBounds_toArray, List.set_cons_zero, List.set_cons_succ]
      refine wpAnyH_take (i := 11) (v := undef) (by simp only [List.getElem?_toArray, List.getElem?_cons_succ, List.getElem?_cons_zero]; rfl) (by kernel_rfl) (by kernel_rfl) (by kernel_rfl) (by exact fun _ _ _ h => h) (Or.inr ⟨by rfl, rfl⟩) (by assumption) ?_
      try simp only [Act.put, List.setIfInBounds_toArray, List.set_cons_zero, List.set_cons_succ]
      refine wpAnyH_take (i := 12) (v := undef) (by simp only [List.getElem?_toArray, List.getElem?_cons_succ, List.getElem?_cons_zero]; rfl) (by kernel_rfl) (by kernel_rfl) (by kernel_rfl) (by exact fun _ _ _ h => h) (Or.inr ⟨by rfl, rfl⟩) (by assumption) ?_
      try simp only [Act.put, List.setIfInBounds_toArray, List.set_cons_zero, List.set_cons_succ]
      refine wpAnyH_take (i := 13) (v := undef) (by simp only [List.getElem?_toArray, List.getElem?_cons_succ, List.getElem?_cons_zero]; rfl) (by kernel_rfl) (by kernel_rfl) (by kernel_rfl) (by exact fun _ _ _ h => h) (Or.inr ⟨by rfl, rfl⟩) (by assumption) ?_
      try simp only [Act.put, List.setIfInBounds_toArray, List.set_cons_zero, List.set_cons_succ]
      refine wpAnyH_take (i := 14) (v := undef) (by simp only [List.getElem?_toArray, List.getElem?_cons_succ, List.getElem?_cons_zero]; rfl) (by kernel_rfl) (by kernel_rfl) (by kernel_rfl) (by exact fun _ _ _ h => h) (Or.inr ⟨by rfl, rfl⟩) (by assumption) ?_
      try simp only [Act.put, List.setIfInBounds_toArray, List.set_cons_zero, List.set_cons_succ]
      refine wpAnyH_take (i := 15) (v := undef) (by simp only [List.getElem?_toArray, List.getElem?_cons_succ, List.getElem?_cons_zero]; rfl) (by kernel_rfl) (by kernel_rfl) (by kernel_rfl) (by exact fun _ _ _ h => h) (Or.inr ⟨by rfl, rfl⟩) (by assumption) ?_
      try simp only [Act.put, List.setIfInBounds_toArray, List.set_cons_zero, List.set_cons_succ]
      refine wpAnyH_take (i := 16) (v := undef) (by simp only [List.getElem?_toArray, List.getElem?_cons_succ, List.getElem?_cons_zero]; rfl) (by kernel_rfl) (by kernel_rfl) (by kernel_rfl) (by exact fun _ _ _ h => h) (Or.inr ⟨by rfl, rfl⟩) (by assumption) ?_
      try simp only [Act.put, List.setIfInBounds_toArray, List.set_cons_zero, List.set_cons_succ]
      refine wpAnyH_take (i := 17) (v := undef) (by simp only [List.getElem?_toArray, List.getElem?_cons_succ, List.getElem?_cons_zero]; rfl) (by kernel_rfl) (by kernel_rfl) (by kernel_rfl) (by exact fun _ _ _ h => h) (Or.inr ⟨by rfl, rfl⟩) (by assumption) ?_
      try simp only [Act.put, List.setIfInBounds_toArray, List.set_cons_zero, List.set_cons_succ]
      refine wpAnyH_take (i := 18) (v := undef) (by simp only [List.getElem?_toArray, List.getElem?_cons_succ, List.getElem?_cons_zero]; rfl) (by kernel_rfl) (by kernel_rfl) (by kernel_rfl) (by exact fun _ _ _ h => h) (Or.inr ⟨by rfl, rfl⟩) (by assumption) ?_
      try simp only [Act.put, List.setIfInBounds_toArray, List.set_cons_zero, List.set_cons_succ]
      refine wpAnyH_take (i := 19) (v := undef) (by simp only [List.getElem?_toArray, List.getElem?_cons_succ, List.getElem?_cons_zero]; rfl) (by kernel_rfl) (by kernel_rfl) (by kernel_rfl) (by exact fun _ _ _ h => h) (Or.inr ⟨by rfl, rfl⟩) (by assumption) ?_
      try simp only [Act.put, List.setIfInBounds_toArray, List.set_cons_zero, List.set_cons_succ]
      refine wpAnyH_take (i := 20) (v := undef) (by simp only [List.getElem?_toArray, List.getElem?_cons_succ, List.getElem?_cons_zero]; rfl) (by kernel_rfl) (by kernel_rfl) (by kernel_rfl) (by exact fun _ _ _ h => h) (Or.inr ⟨by rfl, rfl⟩) (by assumption) ?_
      try simp only [Act.put, List.setIfInBounds_toArray, List.set_cons_zero, List.set_cons_succ]
      refine wpAnyH_take (i := 21) (v := ?_) (by simp only [List.getElem?_toArray, List.getElem?_cons_succ, List.getElem?_cons_zero]; rfl) (by kernel_rfl) (by kernel_rfl) (by kernel_rfl) (by exact fun _ _ _ h => h) (Or.inl ⟨by rfl, ?_⟩) (by assumption) ?_
      rotate_left 1
      · (intro wS hSw; (try dsimp only at hSw); go_simp; try (with_reducible rfl))
      try simp only [Act.put, List.setIfInBounds_toArray, List.set_cons_zero, List.set_cons_succ]
      refine wpAnyH_take (i := 22) (v := ?_) (by simp only [List.getElem?_toArray, List.getElem?_cons_succ, List.getElem?_cons_zero]; rfl) (by kernel_rfl) (by kernel_rfl) (by kernel_rfl) (by exact fun _ _ _ h => h) (Or.inl ⟨by rfl, ?_⟩) (by assumption) ?_
      rotate_left 1
      · (intro wS hSw; (try dsimp only at hSw); go_simp; try (with_reducible rfl))
      try simp only [Act.put, List.setIfInBounds_toArray, List.set_cons_zero, List.set_cons_succ]
      refine wpAnyH_done (by kernel_rfl) ?_ _
      go_wp2
      go_ret
      exact ⟨ret_bool (by simp), bel HF.out.bel (bel_d _)⟩
  · cases Y
    · exact absurd (HOP.out rfl) (by decide)
    · cases Z
      · go_enter Tryz.func76, Tryz.ntmps76
        go_wp2_with (go_at_call 105; refine (HKI.out _ (HS0.out.below (bel_alloc _ _))).mono ?_; rintro e w1 ⟨⟨A, rfl⟩, hb1⟩; have HF : Hid (MW w w1.heap.size G C b o (.slice p N q) L0 L1 L2 L3 L4 op true P A (w1.alloc (.cells #[.bool true, .int .i64 P, .int .i64 A] 173))) := (by have hq := bel (bel_alloc _ _) hb1; exact ⟨bel hq (bel_alloc _ _), kc (bel_alloc _ _) (kc hb1 (by simp [go_sem])), kc (bel_alloc _ _) (kc hb1 (by simp [go_sem])), kc (bel_alloc _ _) (kc hb1 (by simp [go_sem])), kc (bel_alloc _ _) (kc hb1 (by simp [go_sem])), kc (bel_alloc _ _) (kc hb1 (by simp [go_sem])), by simp [go_sem], by simp [go_sem], kc (bel_alloc _ _) (kc hq HS0.out.c0), kc (bel_alloc _ _) (kc hq HS0.out.c3), kc (bel_alloc _ _) (kc hq HE0.out)⟩); have f0 := HF.out.m0; have f1 := HF.out.g3; have f2 := HF.out.e0; have f3 := HF.out.m1; have f4 := HF.out.g0)
        refine wp_region_held_drew (S := (fun v => v.cell? ⟨b, o, none⟩ = some (.int .i64 op))) (by kernel_rfl) ?_ (fun hHeld => ?_)
        · ((try dsimp only); go_keep)
        refine wpAnyH_take (i := 0) (v := ?_) (by simp only [List.getElem?_toArray, List.getElem?_cons_succ, List.getElem?_cons_zero]; rfl) (by kernel_rfl) (by kernel_rfl) (by kernel_rfl) (by exact fun _ _ _ h => h) (Or.inl ⟨by rfl, ?_⟩) (by assumption) ?_
        rotate_left 1
        · (intro wS hSw; (try dsimp only at hSw); go_simp; try (with_reducible rfl))
        try simp only [Act.put, List.setIfInBounds_toArray, List.set_cons_zero, List.set_cons_succ]
        refine wpAnyH_take (i := 1) (v := ?_) (by simp only [List.getElem?_toArray, List.getElem?_cons_succ, List.getElem?_cons_zero]; rfl) (by kernel_rfl) (by kernel_rfl) (by kernel_rfl) (by exact fun _ _ _ h => h) (Or.inl ⟨by rfl, ?_⟩) (by assumption) ?_
        rotate_left 1
        · (intro wS hSw; (try dsimp only at hSw); go_simp; try (with_reducible rfl))
        try simp only [Act.put, List.setIfInBounds_toArray, List.set_cons_zero, List.set_cons_succ]
        refine wpAnyH_take (i := 2) (v := ?_) (by simp only [List.getElem?_toArray, List.getElem?_cons_succ, List.getElem?_cons_zero]; rfl) (by kernel_rfl) (by kernel_rfl) (by kernel_rfl) (by exact fun _ _ _ h => h) (Or.inl ⟨by rfl, ?_⟩) (by assumption) ?_
        rotate_left 1
        · (intro wS hSw; (try dsimp only at hSw); go_simp; try (with_reducible rfl))
        try simp only [Act.put, List.setIfInBounds_toArray, List.set_cons_zero, List.set_cons_succ]
        refine wpAnyH_take (i := 3) (v := ?_) (by simp only [List.getElem?_toArray, List.getElem?_cons_succ, List.getElem?_cons_zero]; rfl) (by kernel_rfl) (by kernel_rfl) (by kernel_rfl) (by exact fun _ _ _ h => h) (Or.inl ⟨by rfl, ?_⟩) (by assumption) ?_
        rotate_left 1
        · (intro wS hSw; (try dsimp only at hSw); go_simp; try (with_reducible rfl))
        try simp only [Act.put, List.setIfInBounds_toArray, List.set_cons_zero, List.set_cons_succ]
        refine wpAnyH_take (i := 4) (v := ?_) (by simp only [List.getElem?_toArray, List.getElem?_cons_succ, List.getElem?_cons_zero]; rfl) (by kernel_rfl) (by kernel_rfl) (by kernel_rfl) (by exact fun _ _ _ h => h) (Or.inl ⟨by rfl, ?_⟩) (by assumption) ?_
        rotate_left 1
        · (intro wS hSw; (try dsimp only at hSw); go_simp; try (with_reducible rfl))
        try simp only [Act.put, List.setIfInBounds_toArray, List.set_cons_zero, List.set_cons_succ]
        refine wpAnyH_take (i := 5) (v := ?_) (by simp only [List.getElem?_toArray, List.getElem?_cons_succ, List.getElem?_cons_zero]; rfl) (by kernel_rfl) (by kernel_rfl) (by kernel_rfl) (by exact fun _ _ _ h => h) (Or.inl ⟨by rfl, ?_⟩) (by assumption) ?_
        rotate_left 1
        · (intro wS hSw; (try dsimp only at hSw); go_simp; try (with_reducible rfl))
        try simp only [Act.put, List.setIfInBounds_toArray, List.set_cons_zero, List.set_cons_succ]
        refine wpAnyH_take (i := 6) (v := ?_) (by simp only [List.getElem?_toArray, List.getElem?_cons_succ, List.getElem?_cons_zero]; rfl) (by kernel_rfl) (by kernel_rfl) (by kernel_rfl) (by exact fun _ _ _ h => h) (Or.inl ⟨by rfl, ?_⟩) (by assumption) ?_
        rotate_left 1
        · (intro wS hSw; (try dsimp only at hSw); go_simp; try (with_reducible rfl))
        try simp only [Act.put, List.setIfInBounds_toArray, List.set_cons_zero, List.set_cons_succ]
        clear hHeld
        refine wpAnyH_ready (rs := [7]) (by kernel_rfl) (by simp) ?_
        refine AllReadyH.cons (i := 7) (by simp only [List.getElem?_toArray, List.getElem?_cons_succ, List.getElem?_cons_zero]; rfl) (fun K hK => ?_) AllReadyH.nil
        go_simp
        (go_at_call 106; refine (HKL.out _).mono ?_; rintro e w3 ⟨rfl, rfl⟩)
        try (go_wp2_with fail)
        refine hK.out _ _ ?_ (fun hHeld => ?_)
        · ((try dsimp only); go_keep)
        clear hK K
        try simp only [Act.put, List.setIfInBounds_toArray, List.set_cons_zero, List.set_cons_succ]
        refine wpAnyH_take (i := 8) (v := ?_) (by simp only [List.getElem?_toArray, List.getElem?_cons_succ, List.getElem?_cons_zero]; rfl) (by kernel_rfl) (by kernel_rfl) (by kernel_rfl) (by exact fun _ _ _ h => h) (Or.inl ⟨by rfl, ?_⟩) (by assumption) ?_
        rotate_left 1
        · (intro wS hSw; (try dsimp only at hSw); go_simp; try (with_reducible rfl))
        try simp only [Act.put, List.setIfInBounds_toArray, List.set_cons_zero, List.set_cons_succ]
        refine wpAnyH_take (i := 9) (v := undef) (by simp only [List.getElem?_toArray, List.getElem?_cons_succ, List.getElem?_cons_zero]; rfl) (by kernel_rfl) (by kernel_rfl) (by kernel_rfl) (by exact fun _ _ _ h => h) (Or.inr ⟨by rfl, rfl⟩) (by assumption) ?_
        try simp only [Act.put, List.setIfInBounds_toArray, List.set_cons_zero, List.set_cons_succ]
        refine wpAnyH_take (i := 10) (v := undef) (by simp only [List.getElem?_toArray, List.getElem?_cons_succ, List.getElem?_cons_zero]; rfl) (by kernel_rfl) (by kernel_rfl) (by kernel_rfl) (by exact fun _ _ _ h => h) (Or.inr ⟨by rfl, rfl⟩) (by assumption) ?_
        try simp only [Act.put, List.setIfInBounds_toArray, List.set_cons_zero, List.set_cons_succ]
        refine wpAnyH_take (i := 11) (v := undef) (by simp only [List.getElem?_toArray, List.getElem?_cons_succ, List.getElem?_cons_zero]; rfl) (by kernel_rfl) (by kernel_rfl) (by kernel_rfl) (by exact fun _ _ _ h => h) (Or.inr ⟨by rfl, rfl⟩) (by assumption) ?_
        try simp only [Act.put, List.setIfInBounds_toArray, List.set_cons_zero, List.set_cons_succ]
        refine wpAnyH_take (i := 12) (v := undef) (by simp only [List.getElem?_toArray, List.getElem?_cons_succ, List.getElem?_cons_zero]; rfl) (by kernel_rfl) (by kernel_rfl) (by kernel_rfl) (by exact fun _ _ _ h => h) (Or.inr ⟨by rfl, rfl⟩) (by assumption) ?_
        try simp only [Act.put, List.setIfInBounds_toArray, List.set_cons_zero, List.set_cons_succ]
        refine wpAnyH_take (i := 13) (v := undef) (by simp only [List.getElem?_toArray, List.getElem?_cons_succ, List.getElem?_cons_zero]; rfl) (by kernel_rfl) (by kernel_rfl) (by kernel_rfl) (by exact fun _ _ _ h => h) (Or.inr ⟨by rfl, rfl⟩) (by assumption) ?_
        try simp only [Act.put, List.setIfInBounds_toArray, List.set_cons_zero, List.set_cons_succ]
        refine wpAnyH_take (i := 14) (v := undef) (by simp only [List.getElem?_toArray, List.getElem?_cons_succ, List.getElem?_cons_zero]; rfl) (by kernel_rfl) (by kernel_rfl) (by kernel_rfl) (by exact fun _ _ _ h => h) (Or.inr ⟨by rfl, rfl⟩) (by assumption) ?_
        try simp only [Act.put, List.setIfInBounds_toArray, List.set_cons_zero, List.set_cons_succ]
        refine wpAnyH_take (i := 15) (v := undef) (by simp only [List.getElem?_toArray, List.getElem?_cons_succ, List.getElem?_cons_zero]; rfl) (by kernel_rfl) (by kernel_rfl) (by kernel_rfl) (by exact fun _ _ _ h => h) (Or.inr ⟨by rfl, rfl⟩) (by assumption) ?_
        try simp only [Act.put, List.setIfInBounds_toArray, List.set_cons_zero, List.set_cons_succ]
        refine wpAnyH_take (i := 16) (v := undef) (by simp only [List.getElem?_toArray, List.getElem?_cons_succ, List.getElem?_cons_zero]; rfl) (by kernel_rfl) (by kernel_rfl) (by kernel_rfl) (by exact fun _ _ _ h => h) (Or.inr ⟨by rfl, rfl⟩) (by assumption) ?_
        try simp only [Act.put, List.setIfInBounds_toArray, List.set_cons_zero, List.set_cons_succ]
        refine wpAnyH_take (i := 17) (v := undef) (by simp only [List.getElem?_toArray, List.getElem?_cons_succ, List.getElem?_cons_zero]; rfl) (by kernel_rfl) (by kernel_rfl) (by kernel_rfl) (by exact fun _ _ _ h => h) (Or.inr ⟨by rfl, rfl⟩) (by assumption) ?_
        try simp only [Act.put, List.setIfInBounds_toArray, List.set_cons_zero, List.set_cons_succ]
        refine wpAnyH_take (i := 18) (v := undef) (by simp only [List.getElem?_toArray, List.getElem?_cons_succ, List.getElem?_cons_zero]; rfl) (by kernel_rfl) (by kernel_rfl) (by kernel_rfl) (by exact fun _ _ _ h => h) (Or.inr ⟨by rfl, rfl⟩) (by assumption) ?_
        try simp only [Act.put, List.setIfInBounds_toArray, List.set_cons_zero, List.set_cons_succ]
        refine wpAnyH_take (i := 19) (v := undef) (by simp only [List.getElem?_toArray, List.getElem?_cons_succ, List.getElem?_cons_zero]; rfl) (by kernel_rfl) (by kernel_rfl) (by kernel_rfl) (by exact fun _ _ _ h => h) (Or.inr ⟨by rfl, rfl⟩) (by assumption) ?_
        try simp only [Act.put, List.setIfInBounds_toArray, List.set_cons_zero, List.set_cons_succ]
        refine wpAnyH_take (i := 20) (v := ?_) (by simp only [List.getElem?_toArray, List.getElem?_cons_succ, List.getElem?_cons_zero]; rfl) (by kernel_rfl) (by kernel_rfl) (by kernel_rfl) (by exact fun _ _ _ h => h) (Or.inl ⟨by rfl, ?_⟩) (by assumption) ?_
        rotate_left 1
        · (intro wS hSw; (try dsimp only at hSw); go_simp; try (with_reducible rfl))
        try simp only [Act.put, List.setIfInBounds_toArray, List.set_cons_zero, List.set_cons_succ]
        refine wpAnyH_take (i := 21) (v := ?_) (by simp only [List.getElem?_toArray, List.getElem?_cons_succ, List.getElem?_cons_zero]; rfl) (by kernel_rfl) (by kernel_rfl) (by kernel_rfl) (by exact fun _ _ _ h => h) (Or.inl ⟨by rfl, ?_⟩) (by assumption) ?_
        rotate_left 1
        · (intro wS hSw; (try dsimp only at hSw); go_simp; try (with_reducible rfl))
        try simp only [Act.put, List.setIfInBounds_toArray, List.set_cons_zero, List.set_cons_succ]
        refine wpAnyH_take (i := 22) (v := ?_) (by simp only [List.getElem?_toArray, List.getElem?_cons_succ, List.getElem?_cons_zero]; rfl) (by kernel_rfl) (by kernel_rfl) (by kernel_rfl) (by exact fun _ _ _ h => h) (Or.inl ⟨by rfl, ?_⟩) (by assumption) ?_
        rotate_left 1
        · (intro wS hSw; (try dsimp only at hSw); go_simp; try (with_reducible rfl))
        try simp only [Act.put, List.setIfInBounds_toArray, List.set_cons_zero, List.set_cons_succ]
        refine wpAnyH_done (by kernel_rfl) ?_ _
        go_wp2
        go_ret
        exact ⟨ret_bool (by simp), bel HF.out.bel (bel_d _)⟩
      · cases hl : (K == 3) <;> cases hq : (Q == P)
        all_goals
          go_enter Tryz.func76, Tryz.ntmps76
          go_wp2_with (go_at_call 105; refine (HKI.out _ (HS0.out.below (bel_alloc _ _))).mono ?_; rintro e w1 ⟨⟨A, rfl⟩, hb1⟩; have HF : Hid (MW w w1.heap.size G C b o (.slice p N q) L0 L1 L2 L3 L4 op true P A (w1.alloc (.cells #[.bool true, .int .i64 P, .int .i64 A] 173))) := (by have hq := bel (bel_alloc _ _) hb1; exact ⟨bel hq (bel_alloc _ _), kc (bel_alloc _ _) (kc hb1 (by simp [go_sem])), kc (bel_alloc _ _) (kc hb1 (by simp [go_sem])), kc (bel_alloc _ _) (kc hb1 (by simp [go_sem])), kc (bel_alloc _ _) (kc hb1 (by simp [go_sem])), kc (bel_alloc _ _) (kc hb1 (by simp [go_sem])), by simp [go_sem], by simp [go_sem], kc (bel_alloc _ _) (kc hq HS0.out.c0), kc (bel_alloc _ _) (kc hq HS0.out.c3), kc (bel_alloc _ _) (kc hq HE0.out)⟩); have f0 := HF.out.m0; have f1 := HF.out.g3; have f2 := HF.out.e0; have f3 := HF.out.m1; have f4 := HF.out.g0)
          have HCX : Hid (∀ v, Below (w1.alloc (.cells #[.bool true, .int .i64 P, .int .i64 A] 173)).heap.size (w1.alloc (.cells #[.bool true, .int .i64 P, .int .i64 A] 173)) v → v.cell? ⟨b, o, none⟩ = some (.int .i64 op) ∧ v.cell? ⟨G, 0, none⟩ = some (.pointer (some ⟨C, 0, none⟩)) ∧ v.cell? ⟨w1.heap.size, 1, none⟩ = some (.int .i64 P) ∧ v.cell? ⟨w.heap.size, 0, none⟩ = some (.int .i64 L0) ∧ v.cell? ⟨w.heap.size, 1, none⟩ = some (.int .i64 L1) ∧ v.cell? ⟨w.heap.size, 2, none⟩ = some (.int .i64 L2) ∧ v.cell? ⟨w.heap.size, 3, none⟩ = some (.int .i64 L3) ∧ v.cell? ⟨w.heap.size, 4, none⟩ = some (.int .i64 L4)) := fun v hv => ⟨(HF.out.next hv).e0, (HF.out.next hv).g0, (HF.out.next hv).m1, (HF.out.next hv).r0, (HF.out.next hv).r1, (HF.out.next hv).r2, (HF.out.next hv).r3, (HF.out.next hv).r4⟩
          have f5 := HF.out.r0; have f6 := HF.out.r1; have f7 := HF.out.r2; have f8 := HF.out.r3; have f9 := HF.out.r4
          refine wp_region_held_drew (S := (fun v => v.cell? ⟨b, o, none⟩ = some (.int .i64 op) ∧ v.cell? ⟨G, 0, none⟩ = some (.pointer (some ⟨C, 0, none⟩)) ∧ v.cell? ⟨w1.heap.size, 1, none⟩ = some (.int .i64 P) ∧ v.cell? ⟨w.heap.size, 0, none⟩ = some (.int .i64 L0) ∧ v.cell? ⟨w.heap.size, 1, none⟩ = some (.int .i64 L1) ∧ v.cell? ⟨w.heap.size, 2, none⟩ = some (.int .i64 L2) ∧ v.cell? ⟨w.heap.size, 3, none⟩ = some (.int .i64 L3) ∧ v.cell? ⟨w.heap.size, 4, none⟩ = some (.int .i64 L4))) (by kernel_rfl) ?_ (fun hHeld => ?_)
          · ((try dsimp only); go_keep)
          refine wpAnyH_take (i := 0) (v := ?_) (by simp only [List.getElem?_toArray, List.getElem?_cons_succ, List.getElem?_cons_zero]; rfl) (by kernel_rfl) (by kernel_rfl) (by kernel_rfl) (by exact fun _ _ _ h => h) (Or.inl ⟨by rfl, ?_⟩) (by assumption) ?_
          rotate_left 1
          · (intro wS hSw; (try dsimp only at hSw); go_simp; try (with_reducible rfl))
          try simp only [Act.put, List.setIfInBounds_toArray, List.set_cons_zero, List.set_cons_succ]
          refine wpAnyH_take (i := 1) (v := ?_) (by simp only [List.getElem?_toArray, List.getElem?_cons_succ, List.getElem?_cons_zero]; rfl) (by kernel_rfl) (by kernel_rfl) (by kernel_rfl) (by exact fun _ _ _ h => h) (Or.inl ⟨by rfl, ?_⟩) (by assumption) ?_
          rotate_left 1
          · (intro wS hSw; (try dsimp only at hSw); go_simp; try (with_reducible rfl))
          try simp only [Act.put, List.setIfInBounds_toArray, List.set_cons_zero, List.set_cons_succ]
          refine wpAnyH_take (i := 2) (v := ?_) (by simp only [List.getElem?_toArray, List.getElem?_cons_succ, List.getElem?_cons_zero]; rfl) (by kernel_rfl) (by kernel_rfl) (by kernel_rfl) (by exact fun _ _ _ h => h) (Or.inl ⟨by rfl, ?_⟩) (by assumption) ?_
          rotate_left 1
          · (intro wS hSw; (try dsimp only at hSw); go_simp; try (with_reducible rfl))
          try simp only [Act.put, List.setIfInBounds_toArray, List.set_cons_zero, List.set_cons_succ]
          refine wpAnyH_take (i := 3) (v := ?_) (by simp only [List.getElem?_toArray, List.getElem?_cons_succ, List.getElem?_cons_zero]; rfl) (by kernel_rfl) (by kernel_rfl) (by kernel_rfl) (by exact fun _ _ _ h => h) (Or.inl ⟨by rfl, ?_⟩) (by assumption) ?_
          rotate_left 1
          · (intro wS hSw; (try dsimp only at hSw); go_simp; try (with_reducible rfl))
          try simp only [Act.put, List.setIfInBounds_toArray, List.set_cons_zero, List.set_cons_succ]
          refine wpAnyH_take (i := 4) (v := ?_) (by simp only [List.getElem?_toArray, List.getElem?_cons_succ, List.getElem?_cons_zero]; rfl) (by kernel_rfl) (by kernel_rfl) (by kernel_rfl) (by exact fun _ _ _ h => h) (Or.inl ⟨by rfl, ?_⟩) (by assumption) ?_
          rotate_left 1
          · (intro wS hSw; (try dsimp only at hSw); go_simp; try (with_reducible rfl))
          try simp only [Act.put, List.setIfInBounds_toArray, List.set_cons_zero, List.set_cons_succ]
          refine wpAnyH_take (i := 5) (v := ?_) (by simp only [List.getElem?_toArray, List.getElem?_cons_succ, List.getElem?_cons_zero]; rfl) (by kernel_rfl) (by kernel_rfl) (by kernel_rfl) (by exact fun _ _ _ h => h) (Or.inl ⟨by rfl, ?_⟩) (by assumption) ?_
          rotate_left 1
          · (intro wS hSw; (try dsimp only at hSw); go_simp; try (with_reducible rfl))
          try simp only [Act.put, List.setIfInBounds_toArray, List.set_cons_zero, List.set_cons_succ]
          refine wpAnyH_take (i := 6) (v := ?_) (by simp only [List.getElem?_toArray, List.getElem?_cons_succ, List.getElem?_cons_zero]; rfl) (by kernel_rfl) (by kernel_rfl) (by kernel_rfl) (by exact fun _ _ _ h => h) (Or.inl ⟨by rfl, ?_⟩) (by assumption) ?_
          rotate_left 1
          · (intro wS hSw; (try dsimp only at hSw); go_simp; try (with_reducible rfl))
          try simp only [Act.put, List.setIfInBounds_toArray, List.set_cons_zero, List.set_cons_succ]
          clear hHeld
          refine wpAnyH_ready (rs := [7]) (by kernel_rfl) (by simp) ?_
          refine AllReadyH.cons (i := 7) (by simp only [List.getElem?_toArray, List.getElem?_cons_succ, List.getElem?_cons_zero]; rfl) (fun K hK => ?_) AllReadyH.nil
          go_simp
          (go_at_call 106; refine (HKL.out _).mono ?_; rintro e w3 ⟨rfl, rfl⟩)
          try (go_wp2_with fail)
          refine hK.out _ _ ?_ (fun hHeld => ?_)
          · ((try dsimp only); go_keep)
          clear hK K
          try simp only [Act.put, List.setIfInBounds_toArray, List.set_cons_zero, List.set_cons_succ]
          refine wpAnyH_take (i := 8) (v := ?_) (by simp only [List.getElem?_toArray, List.getElem?_cons_succ, List.getElem?_cons_zero]; rfl) (by kernel_rfl) (by kernel_rfl) (by kernel_rfl) (by exact fun _ _ _ h => h) (Or.inl ⟨by rfl, ?_⟩) (by assumption) ?_
          rotate_left 1
          · (intro wS hSw; (try dsimp only at hSw); go_simp; try (with_reducible rfl))
          try simp only [Act.put, List.setIfInBounds_toArray, List.set_cons_zero, List.set_cons_succ]
          refine wpAnyH_take (i := 9) (v := ?_) (by simp only [List.getElem?_toArray, List.getElem?_cons_succ, List.getElem?_cons_zero]; rfl) (by kernel_rfl) (by kernel_rfl) (by kernel_rfl) (by exact fun _ _ _ h => h) (Or.inl ⟨by rfl, ?_⟩) (by assumption) ?_
          rotate_left 1
          · (intro wS hSw; (try dsimp only at hSw); go_simp; try (with_reducible rfl))
          try simp only [Act.put, List.setIfInBounds_toArray, List.set_cons_zero, List.set_cons_succ]
          refine wpAnyH_take (i := 10) (v := ?_) (by simp only [List.getElem?_toArray, List.getElem?_cons_succ, List.getElem?_cons_zero]; rfl) (by kernel_rfl) (by kernel_rfl) (by kernel_rfl) (by exact fun _ _ _ h => h) (Or.inl ⟨by rfl, ?_⟩) (by assumption) ?_
          rotate_left 1
          · (intro wS hSw; (try dsimp only at hSw); go_simp; try (with_reducible rfl))
          try simp only [Act.put, List.setIfInBounds_toArray, List.set_cons_zero, List.set_cons_succ]
          refine wpAnyH_take (i := 11) (v := ?_) (by simp only [List.getElem?_toArray, List.getElem?_cons_succ, List.getElem?_cons_zero]; rfl) (by kernel_rfl) (by kernel_rfl) (by kernel_rfl) (by exact fun _ _ _ h => h) (Or.inl ⟨by rfl, ?_⟩) (by assumption) ?_
          rotate_left 1
          · (intro wS hSw; (try dsimp only at hSw); go_simp; try (with_reducible rfl))
          try simp only [Act.put, List.setIfInBounds_toArray, List.set_cons_zero, List.set_cons_succ]
          refine wpAnyH_take (i := 12) (v := ?_) (by simp only [List.getElem?_toArray, List.getElem?_cons_succ, List.getElem?_cons_zero]; rfl) (by kernel_rfl) (by kernel_rfl) (by kernel_rfl) (by exact fun _ _ _ h => h) (Or.inl ⟨by rfl, ?_⟩) (by assumption) ?_
          rotate_left 1
          · (intro wS hSw; (try dsimp only at hSw); go_simp; try (with_reducible rfl))
          try simp only [Act.put, List.setIfInBounds_toArray, List.set_cons_zero, List.set_cons_succ]
          refine wpAnyH_take (i := 13) (v := ?_) (by simp only [List.getElem?_toArray, List.getElem?_cons_succ, List.getElem?_cons_zero]; rfl) (by kernel_rfl) (by kernel_rfl) (by kernel_rfl) (by exact fun _ _ _ h => h) (Or.inl ⟨by rfl, ?_⟩) (by assumption) ?_
          rotate_left 1
          · (intro wS hSw; (try dsimp only at hSw); go_simp; try (with_reducible rfl))
          try simp only [Act.put, List.setIfInBounds_toArray, List.set_cons_zero, List.set_cons_succ]
          refine wpAnyH_take (i := 14) (v := ?_) (by simp only [List.getElem?_toArray, List.getElem?_cons_succ, List.getElem?_cons_zero]; rfl) (by kernel_rfl) (by kernel_rfl) (by kernel_rfl) (by exact fun _ _ _ h => h) (Or.inl ⟨by rfl, ?_⟩) (by assumption) ?_
          rotate_left 1
          · (intro wS hSw; (try dsimp only at hSw); go_simp; try (with_reducible rfl))
          try simp only [Act.put, List.setIfInBounds_toArray, List.set_cons_zero, List.set_cons_succ]
          refine wpAnyH_take (i := 16) (v := ?_) (by simp only [List.getElem?_toArray, List.getElem?_cons_succ, List.getElem?_cons_zero]; rfl) (by kernel_rfl) (by kernel_rfl) (by kernel_rfl) (by exact fun _ _ _ h => h) (Or.inl ⟨by rfl, ?_⟩) (by assumption) ?_
          rotate_left 1
          · (intro wS hSw; (try dsimp only at hSw); go_simp; try (with_reducible rfl))
          try simp only [Act.put, List.setIfInBounds_toArray, List.set_cons_zero, List.set_cons_succ]
          refine wpAnyH_take (i := 17) (v := ?_) (by simp only [List.getElem?_toArray, List.getElem?_cons_succ, List.getElem?_cons_zero]; rfl) (by kernel_rfl) (by kernel_rfl) (by kernel_rfl) (by exact fun _ _ _ h => h) (Or.inl ⟨by rfl, ?_⟩) (by assumption) ?_
          rotate_left 1
          · (intro wS hSw; (try dsimp only at hSw); go_simp; try (with_reducible rfl))
          try simp only [Act.put, List.setIfInBounds_toArray, List.set_cons_zero, List.set_cons_succ]
          refine wpAnyH_take (i := 18) (v := ?_) (by simp only [List.getElem?_toArray, List.getElem?_cons_succ, List.getElem?_cons_zero]; rfl) (by kernel_rfl) (by kernel_rfl) (by kernel_rfl) (by exact fun _ _ _ h => h) (Or.inl ⟨by rfl, ?_⟩) (by assumption) ?_
          rotate_left 1
          · (intro wS hSw; (try dsimp only at hSw); go_simp; try (with_reducible rfl))
          try simp only [Act.put, List.setIfInBounds_toArray, List.set_cons_zero, List.set_cons_succ]
          clear hHeld
          refine wpAnyH_ready (rs := [15]) (by kernel_rfl) (by simp) ?_
          refine AllReadyH.cons (i := 15) (by simp only [List.getElem?_toArray, List.getElem?_cons_succ, List.getElem?_cons_zero]; rfl) (fun K hK => ?_) AllReadyH.nil
          go_simp
          (go_at_call 101; refine (HKM.out _ (HC0.out.below (bel HF.out.bel (bel_d _))) (HI0.out.below (bel HF.out.bel (bel_d _)))).mono ?_; rintro e w3 ⟨rfl, hb3⟩; have HB3 := bel (bel_d _) hb3; obtain ⟨y0, y1, y2, y3, y4, y5, y6, y7⟩ := HCX.out w3 HB3)
          try (go_wp2_with fail)
          refine hK.out _ _ ?_ (fun hHeld => ?_)
          · ((try dsimp only); go_keep)
          clear hK K
          try simp only [Act.put, List.setIfInBounds_toArray, List.set_cons_zero, List.set_cons_succ]
          refine wpAnyH_take (i := 19) (v := ?_) (by simp only [List.getElem?_toArray, List.getElem?_cons_succ, List.getElem?_cons_zero]; rfl) (by kernel_rfl) (by kernel_rfl) (by kernel_rfl) (by exact fun _ _ _ h => h) (Or.inl ⟨by rfl, ?_⟩) (by assumption) ?_
          rotate_left 1
          · (intro wS hSw; (try dsimp only at hSw); go_simp; try (with_reducible rfl))
          try simp only [Act.put, List.setIfInBounds_toArray, List.set_cons_zero, List.set_cons_succ]
          refine wpAnyH_take (i := 20) (v := ?_) (by simp only [List.getElem?_toArray, List.getElem?_cons_succ, List.getElem?_cons_zero]; rfl) (by kernel_rfl) (by kernel_rfl) (by kernel_rfl) (by exact fun _ _ _ h => h) (Or.inl ⟨by rfl, ?_⟩) (by assumption) ?_
          rotate_left 1
          · (intro wS hSw; (try dsimp only at hSw); go_simp; try (with_reducible rfl))
          try simp only [Act.put, List.setIfInBounds_toArray, List.set_cons_zero, List.set_cons_succ]
          refine wpAnyH_take (i := 21) (v := ?_) (by simp only [List.getElem?_toArray, List.getElem?_cons_succ, List.getElem?_cons_zero]; rfl) (by kernel_rfl) (by kernel_rfl) (by kernel_rfl) (by exact fun _ _ _ h => h) (Or.inl ⟨by rfl, ?_⟩) (by assumption) ?_
          rotate_left 1
          · (intro wS hSw; (try dsimp only at hSw); go_simp; try (with_reducible rfl))
          try simp only [Act.put, List.setIfInBounds_toArray, List.set_cons_zero, List.set_cons_succ]
          refine wpAnyH_take (i := 22) (v := ?_) (by simp only [List.getElem?_toArray, List.getElem?_cons_succ, List.getElem?_cons_zero]; rfl) (by kernel_rfl) (by kernel_rfl) (by kernel_rfl) (by exact fun _ _ _ h => h) (Or.inl ⟨by rfl, ?_⟩) (by assumption) ?_
          rotate_left 1
          · (intro wS hSw; (try dsimp only at hSw); go_simp; try (with_reducible rfl))
          try simp only [Act.put, List.setIfInBounds_toArray, List.set_cons_zero, List.set_cons_succ]
          refine wpAnyH_done (by kernel_rfl) ?_ _
          go_wp2
          go_ret
          exact ⟨ret_bool (by simp [hl, hq]), (HF.out.next HB3).bel⟩

end Go.Proofs.YtnlgkkbmbijndaaGreat
/- Package ir: how the walk's state changes in memory. -/
namespace Go.Proofs.YtnlgkkbmbijndaaGreat
open Go.RowKit
set_option linter.unusedVariables false
set_option linter.unusedSimpArgs false

def sfromG (p : Option Addr) (c k sz : Nat) : Option Addr := if c = k then p else p.map (·.add (k * sz))
theorem sliced_to (p : Option Addr) (h c sz : Nat) : sliced p 0 h c sz = .slice p h c := by
  unfold sliced
  by_cases c0 : c = 0
  · subst c0; simp
  · rw [if_neg (by omega)]; cases p <;> simp [Addr.add]
theorem slice_toG {t : TypeId} {sz : Nat} (hu : Tryz.prog.underlying t = some (.slice (Tryz.prog.elem t))) (hz : ∀ w, (sizeOf (Tryz.prog.elem t)).run Tryz.prog w = .ok sz w) (p : Option Addr) (n c h : Nat) (hh : h ≤ c) (w : World) :
    (Instr.sliceAt t (.slice p n c) none (some (.int .i64 h)) none).run Tryz.prog w = .ok (.slice p h c) w := by
  rw [run_sliceAt_slice (h := hu), run_slice_h (ht := hu) (h0 := by omega) (h2 := by omega), hz]
  rw [Result.andThen_ok, Int.toNat_natCast, sliced_to p h c sz]
theorem slice_fromG {t : TypeId} {sz : Nat} (hu : Tryz.prog.underlying t = some (.slice (Tryz.prog.elem t))) (hz : ∀ w, (sizeOf (Tryz.prog.elem t)).run Tryz.prog w = .ok sz w) (p : Option Addr) (n c k : Nat) (hk : k ≤ n) (w : World) :
    (Instr.sliceAt t (.slice p n c) (some (.int .i64 k)) none none).run Tryz.prog w = .ok (.slice (sfromG p c k sz) (n - k) (c - k)) w := by
  rw [run_sliceAt_slice (h := hu), run_slice_l (ht := hu) (h0 := by omega) (h1 := by omega), hz]
  rw [Result.andThen_ok, Int.toNat_natCast]
  unfold sliced sfromG
  simp
theorem und_I : Tryz.prog.underlying 96 = some (.slice (Tryz.prog.elem 96)) := by kernel_rfl
theorem elem_I : Tryz.prog.elem 96 = 3 := by kernel_rfl
theorem size_I (w : World) : (sizeOf (Tryz.prog.elem 96)).run Tryz.prog w = .ok 1 w := by rw [elem_I]; exact Tryz.sizeOf3 w
theorem und_B : Tryz.prog.underlying 97 = some (.slice (Tryz.prog.elem 97)) := by kernel_rfl
theorem elem_B : Tryz.prog.elem 97 = 173 := by kernel_rfl
theorem size_B (w : World) : (sizeOf (Tryz.prog.elem 97)).run Tryz.prog w = .ok 3 w := by rw [elem_B]; exact Tryz.sizeOf173 w
theorem info_Block : (Tryz.prog.info? 173).map (fun i => (i.zero, i.size, i.bytes)) = some (some (.agg #[.bool false, .int .i64 0, .int .i64 0]), 3, 24) := by kernel_rfl

/-- A beginning of an own row is one. -/
theorem own_take {w : World} {B : Nat} {t : TypeId} {k : Nat} {p : Option Addr} {n c : Nat} {xs : List Value} (h : w.ownsRow B t k (.slice p n c) n xs) {m : Nat} (hm : m ≤ n) : w.ownsRow B t k (.slice p m c) m (xs.take (m * k)) := by
  obtain ⟨hl, h⟩ := h
  have hle : m * k ≤ n * k := Nat.mul_le_mul_right k hm
  refine ⟨by rw [List.length_take, hl]; exact Nat.min_eq_left hle, ?_⟩
  rcases h with ⟨hv, h0⟩ | ⟨g, cap, cur, hv, hB, hg, hc1, hc2, hsz, htk⟩
  · left
    subst h0
    have : m = 0 := by omega
    subst this
    exact ⟨hv, rfl⟩
  · simp only [Value.slice.injEq] at hv
    obtain ⟨rfl, -, rfl⟩ := hv
    refine .inr ⟨g, c, cur, rfl, hB, hg, by omega, hc2, hsz, ?_⟩
    rw [← htk, List.take_take, Nat.min_eq_left hle]

/-- The state, the registers that are set told by a function. -/
structure WX (E G C n gi : Nat) (vs vo : Value) (w : World) (S : List Nat) (O : List Bk) (X : Nat → Bool) : Prop where
  g : w.rowIs G 99 4 (wkF C gi n vs vo)
  i : w.rowIs gi 4 n (fun j => .bool (X j))
  set : w.ownsRow E 3 1 vs S.length (setC S)
  opn : w.ownsRow E 173 3 vo O.length (cellsB O.reverse)
  hG : E ≤ G
  hgi : E ≤ gi
  n1 : gi ≠ G
  n2 : vs.ownBlock ≠ some G
  n3 : vs.ownBlock ≠ some gi
  n4 : vo.ownBlock ≠ some G
  n5 : vo.ownBlock ≠ some gi
  n6 : ∀ b, vs.ownBlock = some b → vo.ownBlock ≠ some b
section
variable {E G C n gi : Nat} {vs vo : Value} {w w' : World} {S : List Nat} {O : List Bk} {X : Nat → Bool} {s : Wk}
theorem WS.x (h : WS E G C n gi vs vo w s) : WX E G C n gi vs vo w s.set s.opens (fun j => decide (j ∈ s.set)) := ⟨h.g, h.i, h.set, h.opn, h.hG, h.hgi, h.n1, h.n2, h.n3, h.n4, h.n5, h.n6⟩
theorem WX.st (h : WX E G C n gi vs vo w s.set s.opens X) (hx : ∀ j, j < n → X j = decide (j ∈ s.set)) : WS E G C n gi vs vo w s :=
  ⟨h.g, h.i.congr fun j hj => by rw [hx j hj], h.set, h.opn, h.hG, h.hgi, h.n1, h.n2, h.n3, h.n4, h.n5, h.n6⟩
theorem WX.below (h : WX E G C n gi vs vo w S O X) (k : Below w.heap.size w w') : WX E G C n gi vs vo w' S O X :=
  ⟨h.g.of_block (k.block _ h.g.lt), h.i.of_block (k.block _ h.i.lt), own_below h.set k, own_below h.opn k, h.hG, h.hgi, h.n1, h.n2, h.n3, h.n4, h.n5, h.n6⟩
theorem WX.c1 (h : WX E G C n gi vs vo w S O X) : w.cell? ⟨G, 1, none⟩ = some (.slice (some ⟨gi, 0, none⟩) n n) := h.g.cell (i := 1) (by decide)
theorem WX.c2 (h : WX E G C n gi vs vo w S O X) : w.cell? ⟨G, 2, none⟩ = some vs := h.g.cell (i := 2) (by decide)
theorem WX.lt (h : WX E G C n gi vs vo w S O X) : E ≤ w.heap.size := Nat.le_trans h.hG (Nat.le_of_lt h.g.lt)
/-- The open blocks are others. -/
theorem WX.opens {vo' : Value} {O' : List Bk} (h : WX E G C n gi vs vo w S O X) (ho : w.ownsRow E 173 3 vo' O'.length (cellsB O'.reverse)) (m4 : vo'.ownBlock ≠ some G) (m5 : vo'.ownBlock ≠ some gi) (m6 : ∀ b, vs.ownBlock = some b → vo'.ownBlock ≠ some b) :
    WX E G C n gi vs vo' (w.setCell ⟨G, 3, none⟩ vo') S O' X := by
  have nb : ∀ b, b ≠ G → (w.setCell ⟨G, 3, none⟩ vo').heap[b]? = w.heap[b]? := fun b hb => Below.heap_setCell _ _ _ _ hb
  refine ⟨(h.g.set 3 vo').congr fun j hj => ?_, h.i.of_block (nb _ h.n1), own_keep h.set fun b hb => nb b fun e => h.n2 (e ▸ hb), own_keep ho fun b hb => nb b fun e => m4 (e ▸ hb), h.hG, h.hgi, h.n1, h.n2, h.n3, m4, m5, m6⟩
  unfold wkF
  obtain rfl | rfl | rfl | rfl : j = 0 ∨ j = 1 ∨ j = 2 ∨ j = 3 := by omega
  all_goals rfl
/-- What is set is another list. -/
theorem WX.sets {vs' : Value} {S' : List Nat} (h : WX E G C n gi vs vo w S O X) (hs : w.ownsRow E 3 1 vs' S'.length (setC S')) (m2 : vs'.ownBlock ≠ some G) (m3 : vs'.ownBlock ≠ some gi) (m6 : ∀ b, vs'.ownBlock = some b → vo.ownBlock ≠ some b) :
    WX E G C n gi vs' vo (w.setCell ⟨G, 2, none⟩ vs') S' O X := by
  have nb : ∀ b, b ≠ G → (w.setCell ⟨G, 2, none⟩ vs').heap[b]? = w.heap[b]? := fun b hb => Below.heap_setCell _ _ _ _ hb
  refine ⟨(h.g.set 2 vs').congr fun j hj => ?_, h.i.of_block (nb _ h.n1), own_keep hs fun b hb => nb b fun e => m2 (e ▸ hb), own_keep h.opn fun b hb => nb b fun e => h.n4 (e ▸ hb), h.hG, h.hgi, h.n1, m2, m3, h.n4, h.n5, m6⟩
  unfold wkF
  obtain rfl | rfl | rfl | rfl : j = 0 ∨ j = 1 ∨ j = 2 ∨ j = 3 := by omega
  all_goals rfl
/-- A register is set, or not. -/
theorem WX.put (h : WX E G C n gi vs vo w S O X) (x : Nat) (v : Bool) : WX E G C n gi vs vo (w.setCell ⟨gi, x, none⟩ (.bool v)) S O (fun j => if j = x then v else X j) := by
  have nb : ∀ b, b ≠ gi → (w.setCell ⟨gi, x, none⟩ (.bool v)).heap[b]? = w.heap[b]? := fun b hb => Below.heap_setCell _ _ _ _ hb
  refine ⟨h.g.of_block (nb _ (Ne.symm h.n1)), (h.i.set x (.bool v)).congr fun j hj => ?_, own_keep h.set fun b hb => nb b fun e => h.n3 (e ▸ hb), own_keep h.opn fun b hb => nb b fun e => h.n5 (e ▸ hb), h.hG, h.hgi, h.n1, h.n2, h.n3, h.n4, h.n5, h.n6⟩
  show (if j = x then _ else _) = _
  split <;> rfl
theorem WX.of {X' : Nat → Bool} (h : WX E G C n gi vs vo w S O X) (e : ∀ j, j < n → X j = X' j) : WX E G C n gi vs vo w S O X' :=
  ⟨h.g, h.i.congr fun j hj => by rw [e j hj], h.set, h.opn, h.hG, h.hgi, h.n1, h.n2, h.n3, h.n4, h.n5, h.n6⟩
/-- Behind an append to the open blocks: the row's own block or a new one. -/
theorem WX.grown {row : Option Nat} (h : WX E G C n gi vs vo w S O X) (hg : w.grownBy w' row) (hr : row = vo.ownBlock ∨ row = vs.ownBlock) :
    w'.rowIs G 99 4 (wkF C gi n vs vo) ∧ w'.rowIs gi 4 n (fun j => .bool (X j)) ∧ (row = vo.ownBlock → w'.ownsRow E 3 1 vs S.length (setC S)) ∧ (row = vs.ownBlock → w'.ownsRow E 173 3 vo O.length (cellsB O.reverse)) := by
  have k1 : some G ≠ row := fun e => by
    rcases hr with hr | hr
    · rw [hr] at e; exact h.n4 e.symm
    · rw [hr] at e; exact h.n2 e.symm
  have k2 : some gi ≠ row := fun e => by
    rcases hr with hr | hr
    · rw [hr] at e; exact h.n5 e.symm
    · rw [hr] at e; exact h.n3 e.symm
  exact ⟨h.g.of_block (hg.block _ h.g.lt k1), h.i.of_block (hg.block _ h.i.lt k2), fun hr => own_keep h.set fun b hb => hg.block b (h.set.lt b hb).2 fun e => h.n6 b hb (by rw [← hr]; exact e.symm), fun hr => own_keep h.opn fun b hb => hg.block b (h.opn.lt b hb).2 fun e => h.n6 b (by rw [← hr]; exact e.symm) hb⟩
end

end Go.Proofs.YtnlgkkbmbijndaaGreat
