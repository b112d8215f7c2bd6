import Derived.Test.YtgcmnkanjcfndaaGreatDoorTxt1
import Derived.Test.YtgcmnkanjcfndaaGreatDoorTxt3
import Derived.ChangeKeysEq
namespace Go.Proofs.YtgcmnkanjcfndaaGreatDoor
open Go.RowKit
set_option linter.unusedVariables false
set_option linter.unusedSimpArgs false
structure MW (w : World) (H G C b o : Nat) (vo : Value) (L0 L1 L2 L3 L4 op : Int) (X : Bool) (P A : Int) (v : World) : Prop where
 bel : Below w.heap.size w v
 r0 : v.cell? ⟨w.heap.size, 0, none⟩ = some (.int .i64 L0)
 r1 : v.cell? ⟨w.heap.size, 1, none⟩ = some (.int .i64 L1)
 r2 : v.cell? ⟨w.heap.size, 2, none⟩ = some (.int .i64 L2)
 r3 : v.cell? ⟨w.heap.size, 3, none⟩ = some (.int .i64 L3)
 r4 : v.cell? ⟨w.heap.size, 4, none⟩ = some (.int .i64 L4)
 m0 : v.cell? ⟨H, 0, none⟩ = some (.bool X)
 m1 : v.cell? ⟨H, 1, none⟩ = some (.int .i64 P)
 g0 : v.cell? ⟨G, 0, none⟩ = some (.pointer (some ⟨C, 0, none⟩))
 g3 : v.cell? ⟨G, 3, none⟩ = some vo
 e0 : v.cell? ⟨b, o, none⟩ = some (.int .i64 op)
theorem MW.next {w : World} {H G C b o : Nat} {vo : Value} {L0 L1 L2 L3 L4 op : Int} {X : Bool} {P A : Int} {v v' : World} (h : MW w H G C b o vo L0 L1 L2 L3 L4 op X P A v) (k : Below v.heap.size v v') : MW w H G C b o vo L0 L1 L2 L3 L4 op X P A v' :=
 ⟨Go.Proofs.YtgcmnkanjcfndaaGreatDoor.bel h.bel k, kc k h.r0, kc k h.r1, kc k h.r2, kc k h.r3, kc k h.r4, kc k h.m0, kc k h.m1, kc k h.g0, kc k h.g3, kc k h.e0⟩
set_option maxRecDepth 100000 in
set_option maxHeartbeats 4000000 in
theorem mayStand_any (E G C n gi : Nat) (vs vo : Value) (s : Wk) (v0 v1 v2 v3 : Value) (c : Cd) (hk : CdOk c) (b o : Nat) (i : Ins) (r : Rw) (w : World) (h : WS E G C n gi vs vo w s) (hn : s.opens.length ≤ 64) (hc : CdAt w C v0 v1 v2 v3 c) (hi : CellsAt w b o (inC i)) :
  Calls Tryz.prog 74 #[.pointer (some ⟨G, 0, none⟩), .pointer (some ⟨b, o, none⟩), rwV r] w fun e w' => e = .returned (.bool (mayStandP c s i r)) ∧ Below w.heap.size w w' := by
 have KI := innermost_any E G C n gi vs vo s
 have KM := fun w h k => mainType_any C v0 v1 v2 v3 c hk b o i r w h k
 have KL := looped_any i.op
 have HC0 : Hid (CdAt w C v0 v1 v2 v3 c) := hc
 have HI0 : Hid (CellsAt w b o (inC i)) := hi
 have HS0 : Hid (WS E G C n gi vs vo w s) := h
 have hlen : ∃ p q, vo = .slice p s.opens.length q := own_len h.opn
 obtain ⟨p, q, rfl⟩ := hlen
 have e0 := hi.at 0 rfl
 rw [Nat.add_zero] at e0
 have hop : (!s.opens.isEmpty) = false → inLoop s = false := fun hh => by
  unfold inLoop
  cases hO : s.opens with
  | nil => rfl
  | cons b r => rw [hO] at hh; simp at hh
 unfold mayStandP
 obtain ⟨X, hX⟩ : ∃ X, inLoop s = X := ⟨_, rfl⟩
 obtain ⟨Y, hY⟩ : ∃ Y, (!s.opens.isEmpty) = Y := ⟨_, rfl⟩
 obtain ⟨P, hP⟩ : ∃ P, innerP s = P := ⟨_, rfl⟩
 obtain ⟨Z, hZ⟩ : ∃ Z, loopedP i.op = Z := ⟨_, rfl⟩
 obtain ⟨M, hM⟩ : ∃ M, mainT c.regs i r = M := ⟨_, rfl⟩
 obtain ⟨N, hN⟩ : ∃ N, s.opens.length = N := ⟨_, rfl⟩
 obtain ⟨op, hopp⟩ : ∃ x, i.op = x := ⟨_, rfl⟩
 rw [hX, hY] at hop
 simp only [hX, hY, hP, hN] at KI ⊢
 simp only [hM] at KM ⊢
 simp only [hZ] at KL ⊢
 rw [hN] at HS0 hn
 rw [hopp] at e0 KL ⊢
 obtain ⟨L0, L1, L2, L3, L4⟩ := r
 obtain ⟨K, Q⟩ := M
 unfold rwV at KM ⊢
 unfold tyV at KM
 simp only at KM
 rw [ty_eq]
 have HKI : Hid (∀ w, WS E G C n gi vs (.slice p N q) w s → Calls Tryz.prog 108 #[.pointer (some ⟨G, 0, none⟩)] w fun e w' => (∃ A : Int, e = .returned (.tuple #[.agg #[.bool X, .int .i64 P, .int .i64 A], .bool Y])) ∧ Below w.heap.size w w') := fun w hw => KI w hw hn
 have HKM : Hid (∀ w, CdAt w C v0 v1 v2 v3 c → CellsAt w b o (inC i) → Calls Tryz.prog 104 #[.pointer (some ⟨C, 0, none⟩), .pointer (some ⟨b, o, none⟩), .agg #[.int .i64 L0, .int .i64 L1, .int .i64 L2, .int .i64 L3, .int .i64 L4]] w fun e w' => e = .returned (.agg #[.int .i64 K, .int .i64 Q]) ∧ Below w.heap.size w w') := KM
 have HKL : Hid (∀ w, Calls Tryz.prog 109 #[.int .i64 op] w fun e w' => e = .returned (.bool Z) ∧ w' = w) := KL
 have HE0 : Hid (w.cell? ⟨b, o, none⟩ = some (.int .i64 op)) := e0
 have HOP : Hid (Y = false → X = false) := hop
 clear KI KM KL h hc hi hk hX hY hP hZ hM hN hopp e0 hop hn
 by_cases h34 : op = 34 ∨ op = 36
 ·rw [if_pos h34]
  cases X
  ·cases Y
   all_goals
    rcases h34 with h | h
    ·have e1 : (op == 34) = true := (by have : op = 34 := (by omega); simpa using this); have e2 : (op == 36) = false := (by have : op ≠ 36 := (by omega); simpa using this); have e3 : (op == 35) = false := (by have : op ≠ 35 := (by omega); simpa using this); have e4 : (op == 37) = false := (by have : op ≠ 37 := (by omega); simpa using this)
     clear h
     go_enter Tryz.func74, Tryz.ntmps74
     go_wp2_with (go_at_call 108; refine (HKI.out _ (HS0.out.below (bel_alloc _ _))).mono ?_; rintro e w1 ⟨⟨A, rfl⟩, hb1⟩; have HF : Hid (MW w w1.heap.size G C b o (.slice p N q) L0 L1 L2 L3 L4 op false P A (w1.alloc (.cells #[.bool false, .int .i64 P, .int .i64 A] 165))) := (by have hq := bel (bel_alloc _ _) hb1; exact ⟨bel hq (bel_alloc _ _), kc (bel_alloc _ _) (kc hb1 (by simp [go_sem])), kc (bel_alloc _ _) (kc hb1 (by simp [go_sem])), kc (bel_alloc _ _) (kc hb1 (by simp [go_sem])), kc (bel_alloc _ _) (kc hb1 (by simp [go_sem])), kc (bel_alloc _ _) (kc hb1 (by simp [go_sem])), by simp [go_sem], by simp [go_sem], kc (bel_alloc _ _) (kc hq HS0.out.c0), kc (bel_alloc _ _) (kc hq HS0.out.c3), kc (bel_alloc _ _) (kc hq HE0.out)⟩); have f0 := HF.out.m0; have f1 := HF.out.g3; have f2 := HF.out.e0; have f3 := HF.out.m1; have f4 := HF.out.g0)
     all_goals (go_ret; exact ⟨ret_bool (by simp; try omega), HF.out.bel⟩)
    ·have e1 : (op == 34) = false := (by have : op ≠ 34 := (by omega); simpa using this); have e2 : (op == 36) = true := (by have : op = 36 := (by omega); simpa using this); have e3 : (op == 35) = false := (by have : op ≠ 35 := (by omega); simpa using this); have e4 : (op == 37) = false := (by have : op ≠ 37 := (by omega); simpa using this)
     clear h
     go_enter Tryz.func74, Tryz.ntmps74
     go_wp2_with (go_at_call 108; refine (HKI.out _ (HS0.out.below (bel_alloc _ _))).mono ?_; rintro e w1 ⟨⟨A, rfl⟩, hb1⟩; have HF : Hid (MW w w1.heap.size G C b o (.slice p N q) L0 L1 L2 L3 L4 op false P A (w1.alloc (.cells #[.bool false, .int .i64 P, .int .i64 A] 165))) := (by have hq := bel (bel_alloc _ _) hb1; exact ⟨bel hq (bel_alloc _ _), kc (bel_alloc _ _) (kc hb1 (by simp [go_sem])), kc (bel_alloc _ _) (kc hb1 (by simp [go_sem])), kc (bel_alloc _ _) (kc hb1 (by simp [go_sem])), kc (bel_alloc _ _) (kc hb1 (by simp [go_sem])), kc (bel_alloc _ _) (kc hb1 (by simp [go_sem])), by simp [go_sem], by simp [go_sem], kc (bel_alloc _ _) (kc hq HS0.out.c0), kc (bel_alloc _ _) (kc hq HS0.out.c3), kc (bel_alloc _ _) (kc hq HE0.out)⟩); have f0 := HF.out.m0; have f1 := HF.out.g3; have f2 := HF.out.e0; have f3 := HF.out.m1; have f4 := HF.out.g0)
     all_goals (go_ret; exact ⟨ret_bool (by simp; try omega), HF.out.bel⟩)
  ·cases Y
   ·exact absurd (HOP.out rfl) (by decide)
   ·rcases h34 with h | h
    ·have e1 : (op == 34) = true := (by have : op = 34 := (by omega); simpa using this); have e2 : (op == 36) = false := (by have : op ≠ 36 := (by omega); simpa using this); have e3 : (op == 35) = false := (by have : op ≠ 35 := (by omega); simpa using this); have e4 : (op == 37) = false := (by have : op ≠ 37 := (by omega); simpa using this)
     clear h
     go_enter Tryz.func74, Tryz.ntmps74
     go_wp2_with (go_at_call 108; refine (HKI.out _ (HS0.out.below (bel_alloc _ _))).mono ?_; rintro e w1 ⟨⟨A, rfl⟩, hb1⟩; have HF : Hid (MW w w1.heap.size G C b o (.slice p N q) L0 L1 L2 L3 L4 op true P A (w1.alloc (.cells #[.bool true, .int .i64 P, .int .i64 A] 165))) := (by have hq := bel (bel_alloc _ _) hb1; exact ⟨bel hq (bel_alloc _ _), kc (bel_alloc _ _) (kc hb1 (by simp [go_sem])), kc (bel_alloc _ _) (kc hb1 (by simp [go_sem])), kc (bel_alloc _ _) (kc hb1 (by simp [go_sem])), kc (bel_alloc _ _) (kc hb1 (by simp [go_sem])), kc (bel_alloc _ _) (kc hb1 (by simp [go_sem])), by simp [go_sem], by simp [go_sem], kc (bel_alloc _ _) (kc hq HS0.out.c0), kc (bel_alloc _ _) (kc hq HS0.out.c3), kc (bel_alloc _ _) (kc hq HE0.out)⟩); have f0 := HF.out.m0; have f1 := HF.out.g3; have f2 := HF.out.e0; have f3 := HF.out.m1; have f4 := HF.out.g0)
     all_goals (go_ret; exact ⟨ret_bool (by simp; try omega), HF.out.bel⟩)
    ·have e1 : (op == 34) = false := (by have : op ≠ 34 := (by omega); simpa using this); have e2 : (op == 36) = true := (by have : op = 36 := (by omega); simpa using this); have e3 : (op == 35) = false := (by have : op ≠ 35 := (by omega); simpa using this); have e4 : (op == 37) = false := (by have : op ≠ 37 := (by omega); simpa using this)
     clear h
     go_enter Tryz.func74, Tryz.ntmps74
     go_wp2_with (go_at_call 108; refine (HKI.out _ (HS0.out.below (bel_alloc _ _))).mono ?_; rintro e w1 ⟨⟨A, rfl⟩, hb1⟩; have HF : Hid (MW w w1.heap.size G C b o (.slice p N q) L0 L1 L2 L3 L4 op true P A (w1.alloc (.cells #[.bool true, .int .i64 P, .int .i64 A] 165))) := (by have hq := bel (bel_alloc _ _) hb1; exact ⟨bel hq (bel_alloc _ _), kc (bel_alloc _ _) (kc hb1 (by simp [go_sem])), kc (bel_alloc _ _) (kc hb1 (by simp [go_sem])), kc (bel_alloc _ _) (kc hb1 (by simp [go_sem])), kc (bel_alloc _ _) (kc hb1 (by simp [go_sem])), kc (bel_alloc _ _) (kc hb1 (by simp [go_sem])), by simp [go_sem], by simp [go_sem], kc (bel_alloc _ _) (kc hq HS0.out.c0), kc (bel_alloc _ _) (kc hq HS0.out.c3), kc (bel_alloc _ _) (kc hq HE0.out)⟩); have f0 := HF.out.m0; have f1 := HF.out.g3; have f2 := HF.out.e0; have f3 := HF.out.m1; have f4 := HF.out.g0)
     all_goals (go_ret; exact ⟨ret_bool (by simp; try omega), HF.out.bel⟩)
 rw [if_neg h34]
 by_cases h35 : op = 35
 ·rw [if_pos h35]
  have e1 : (op == 34) = false := (by have : op ≠ 34 := (by omega); simpa using this); have e2 : (op == 36) = false := (by have : op ≠ 36 := (by omega); simpa using this); have e3 : (op == 35) = true := (by have : op = 35 := (by omega); simpa using this); have e4 : (op == 37) = false := (by have : op ≠ 37 := (by omega); simpa using this)
  clear h34 h35
  cases X
  ·cases Y
   all_goals
    go_enter Tryz.func74, Tryz.ntmps74
    go_wp2_with (go_at_call 108; refine (HKI.out _ (HS0.out.below (bel_alloc _ _))).mono ?_; rintro e w1 ⟨⟨A, rfl⟩, hb1⟩; have HF : Hid (MW w w1.heap.size G C b o (.slice p N q) L0 L1 L2 L3 L4 op false P A (w1.alloc (.cells #[.bool false, .int .i64 P, .int .i64 A] 165))) := (by have hq := bel (bel_alloc _ _) hb1; exact ⟨bel hq (bel_alloc _ _), kc (bel_alloc _ _) (kc hb1 (by simp [go_sem])), kc (bel_alloc _ _) (kc hb1 (by simp [go_sem])), kc (bel_alloc _ _) (kc hb1 (by simp [go_sem])), kc (bel_alloc _ _) (kc hb1 (by simp [go_sem])), kc (bel_alloc _ _) (kc hb1 (by simp [go_sem])), by simp [go_sem], by simp [go_sem], kc (bel_alloc _ _) (kc hq HS0.out.c0), kc (bel_alloc _ _) (kc hq HS0.out.c3), kc (bel_alloc _ _) (kc hq HE0.out)⟩); have f0 := HF.out.m0; have f1 := HF.out.g3; have f2 := HF.out.e0; have f3 := HF.out.m1; have f4 := HF.out.g0)
    all_goals (go_ret; exact ⟨ret_bool (by simp; try omega), HF.out.bel⟩)
  ·cases Y
   ·exact absurd (HOP.out rfl) (by decide)
   ·go_enter Tryz.func74, Tryz.ntmps74
    go_wp2_with (go_at_call 108; refine (HKI.out _ (HS0.out.below (bel_alloc _ _))).mono ?_; rintro e w1 ⟨⟨A, rfl⟩, hb1⟩; have HF : Hid (MW w w1.heap.size G C b o (.slice p N q) L0 L1 L2 L3 L4 op true P A (w1.alloc (.cells #[.bool true, .int .i64 P, .int .i64 A] 165))) := (by have hq := bel (bel_alloc _ _) hb1; exact ⟨bel hq (bel_alloc _ _), kc (bel_alloc _ _) (kc hb1 (by simp [go_sem])), kc (bel_alloc _ _) (kc hb1 (by simp [go_sem])), kc (bel_alloc _ _) (kc hb1 (by simp [go_sem])), kc (bel_alloc _ _) (kc hb1 (by simp [go_sem])), kc (bel_alloc _ _) (kc hb1 (by simp [go_sem])), by simp [go_sem], by simp [go_sem], kc (bel_alloc _ _) (kc hq HS0.out.c0), kc (bel_alloc _ _) (kc hq HS0.out.c3), kc (bel_alloc _ _) (kc hq HE0.out)⟩); have f0 := HF.out.m0; have f1 := HF.out.g3; have f2 := HF.out.e0; have f3 := HF.out.m1; have f4 := HF.out.g0)
    all_goals (go_ret; exact ⟨ret_bool (by simp; try omega), HF.out.bel⟩)
 rw [if_neg h35]
 by_cases h37 : op = 37
 ·rw [if_pos h37]
  have e1 : (op == 34) = false := (by have : op ≠ 34 := (by omega); simpa using this); have e2 : (op == 36) = false := (by have : op ≠ 36 := (by omega); simpa using this); have e3 : (op == 35) = false := (by have : op ≠ 35 := (by omega); simpa using this); have e4 : (op == 37) = true := (by have : op = 37 := (by omega); simpa using this)
  clear h34 h35 h37
  cases X
  ·cases Y
   all_goals
    go_enter Tryz.func74, Tryz.ntmps74
    go_wp2_with (go_at_call 108; refine (HKI.out _ (HS0.out.below (bel_alloc _ _))).mono ?_; rintro e w1 ⟨⟨A, rfl⟩, hb1⟩; have HF : Hid (MW w w1.heap.size G C b o (.slice p N q) L0 L1 L2 L3 L4 op false P A (w1.alloc (.cells #[.bool false, .int .i64 P, .int .i64 A] 165))) := (by have hq := bel (bel_alloc _ _) hb1; exact ⟨bel hq (bel_alloc _ _), kc (bel_alloc _ _) (kc hb1 (by simp [go_sem])), kc (bel_alloc _ _) (kc hb1 (by simp [go_sem])), kc (bel_alloc _ _) (kc hb1 (by simp [go_sem])), kc (bel_alloc _ _) (kc hb1 (by simp [go_sem])), kc (bel_alloc _ _) (kc hb1 (by simp [go_sem])), by simp [go_sem], by simp [go_sem], kc (bel_alloc _ _) (kc hq HS0.out.c0), kc (bel_alloc _ _) (kc hq HS0.out.c3), kc (bel_alloc _ _) (kc hq HE0.out)⟩); have f0 := HF.out.m0; have f1 := HF.out.g3; have f2 := HF.out.e0; have f3 := HF.out.m1; have f4 := HF.out.g0)
    all_goals (go_ret; exact ⟨ret_bool (by simp; try omega), HF.out.bel⟩)
  ·cases Y
   ·exact absurd (HOP.out rfl) (by decide)
   ·go_enter Tryz.func74, Tryz.ntmps74
    go_wp2_with (go_at_call 108; refine (HKI.out _ (HS0.out.below (bel_alloc _ _))).mono ?_; rintro e w1 ⟨⟨A, rfl⟩, hb1⟩; have HF : Hid (MW w w1.heap.size G C b o (.slice p N q) L0 L1 L2 L3 L4 op true P A (w1.alloc (.cells #[.bool true, .int .i64 P, .int .i64 A] 165))) := (by have hq := bel (bel_alloc _ _) hb1; exact ⟨bel hq (bel_alloc _ _), kc (bel_alloc _ _) (kc hb1 (by simp [go_sem])), kc (bel_alloc _ _) (kc hb1 (by simp [go_sem])), kc (bel_alloc _ _) (kc hb1 (by simp [go_sem])), kc (bel_alloc _ _) (kc hb1 (by simp [go_sem])), kc (bel_alloc _ _) (kc hb1 (by simp [go_sem])), by simp [go_sem], by simp [go_sem], kc (bel_alloc _ _) (kc hq HS0.out.c0), kc (bel_alloc _ _) (kc hq HS0.out.c3), kc (bel_alloc _ _) (kc hq HE0.out)⟩); have f0 := HF.out.m0; have f1 := HF.out.g3; have f2 := HF.out.e0; have f3 := HF.out.m1; have f4 := HF.out.g0)
    all_goals (go_ret; exact ⟨ret_bool (by simp; try omega), HF.out.bel⟩)
 rw [if_neg h37]
 have e1 : (op == 34) = false := by have : op ≠ 34 := (fun e => h34 (.inl e)); simpa using this
 have e2 : (op == 36) = false := by have : op ≠ 36 := (fun e => h34 (.inr e)); simpa using this
 have e3 : (op == 35) = false := by simpa using h35
 have e4 : (op == 37) = false := by simpa using h37
 clear h34 h35 h37
 cases X
 ·cases Y
  all_goals
   go_enter Tryz.func74, Tryz.ntmps74
   go_wp2_with (go_at_call 108; refine (HKI.out _ (HS0.out.below (bel_alloc _ _))).mono ?_; rintro e w1 ⟨⟨A, rfl⟩, hb1⟩; have HF : Hid (MW w w1.heap.size G C b o (.slice p N q) L0 L1 L2 L3 L4 op false P A (w1.alloc (.cells #[.bool false, .int .i64 P, .int .i64 A] 165))) := (by have hq := bel (bel_alloc _ _) hb1; exact ⟨bel hq (bel_alloc _ _), kc (bel_alloc _ _) (kc hb1 (by simp [go_sem])), kc (bel_alloc _ _) (kc hb1 (by simp [go_sem])), kc (bel_alloc _ _) (kc hb1 (by simp [go_sem])), kc (bel_alloc _ _) (kc hb1 (by simp [go_sem])), kc (bel_alloc _ _) (kc hb1 (by simp [go_sem])), by simp [go_sem], by simp [go_sem], kc (bel_alloc _ _) (kc hq HS0.out.c0), kc (bel_alloc _ _) (kc hq HS0.out.c3), kc (bel_alloc _ _) (kc hq HE0.out)⟩); have f0 := HF.out.m0; have f1 := HF.out.g3; have f2 := HF.out.e0; have f3 := HF.out.m1; have f4 := HF.out.g0)
   refine wp_region_held_drew (S := (fun v => v.cell? ⟨b, o, none⟩ = some (.int .i64 op))) (by kernel_rfl) ?_ (fun hHeld => ?_)
   ·((try dsimp only); go_keep)
   refine tkT 0 ?_
   refine tkT 1 ?_
   refine tkT 2 ?_
   refine tkK 3 ?_
   refine tkK 4 ?_
   refine tkK 5 ?_
   refine tkK 6 ?_
   refine tkK 7 ?_
   refine tkK 8 ?_
   refine tkK 9 ?_
   refine tkK 10 ?_
   refine tkK 11 ?_
   refine tkK 12 ?_
   refine tkK 13 ?_
   refine tkK 14 ?_
   refine tkK 15 ?_
   refine tkK 16 ?_
   refine tkK 17 ?_
   refine tkK 18 ?_
   refine tkK 19 ?_
   refine tkK 20 ?_
   refine tkT 21 ?_
   refine tkT 22 ?_
   refine wpAnyH_done (by kernel_rfl) ?_ _
   go_wp2
   go_ret
   exact ⟨ret_bool (by simp), bel HF.out.bel (bel_d _)⟩
 ·cases Y
  ·exact absurd (HOP.out rfl) (by decide)
  ·cases Z
   ·go_enter Tryz.func74, Tryz.ntmps74
    go_wp2_with (go_at_call 108; refine (HKI.out _ (HS0.out.below (bel_alloc _ _))).mono ?_; rintro e w1 ⟨⟨A, rfl⟩, hb1⟩; have HF : Hid (MW w w1.heap.size G C b o (.slice p N q) L0 L1 L2 L3 L4 op true P A (w1.alloc (.cells #[.bool true, .int .i64 P, .int .i64 A] 165))) := (by have hq := bel (bel_alloc _ _) hb1; exact ⟨bel hq (bel_alloc _ _), kc (bel_alloc _ _) (kc hb1 (by simp [go_sem])), kc (bel_alloc _ _) (kc hb1 (by simp [go_sem])), kc (bel_alloc _ _) (kc hb1 (by simp [go_sem])), kc (bel_alloc _ _) (kc hb1 (by simp [go_sem])), kc (bel_alloc _ _) (kc hb1 (by simp [go_sem])), by simp [go_sem], by simp [go_sem], kc (bel_alloc _ _) (kc hq HS0.out.c0), kc (bel_alloc _ _) (kc hq HS0.out.c3), kc (bel_alloc _ _) (kc hq HE0.out)⟩); have f0 := HF.out.m0; have f1 := HF.out.g3; have f2 := HF.out.e0; have f3 := HF.out.m1; have f4 := HF.out.g0)
    refine wp_region_held_drew (S := (fun v => v.cell? ⟨b, o, none⟩ = some (.int .i64 op))) (by kernel_rfl) ?_ (fun hHeld => ?_)
    ·((try dsimp only); go_keep)
    refine tkT 0 ?_
    refine tkT 1 ?_
    refine tkT 2 ?_
    refine tkT 3 ?_
    refine tkT 4 ?_
    refine tkT 5 ?_
    refine tkT 6 ?_
    clear hHeld
    refine wpAnyH_ready (rs := [7]) (by kernel_rfl) (by simp) ?_
    refine AllReadyH.cons (i := 7) (by simp only [List.getElem?_toArray, List.getElem?_cons_succ, List.getElem?_cons_zero]; rfl) (fun K hK => ?_) AllReadyH.nil
    go_simp
    (go_at_call 109; refine (HKL.out _).mono ?_; rintro e w3 ⟨rfl, rfl⟩)
    try (go_wp2_with fail)
    refine hK.out _ _ ?_ (fun hHeld => ?_)
    ·((try dsimp only); go_keep)
    clear hK K
    try simp only [Act.put, List.setIfInBounds_toArray, List.set_cons_zero, List.set_cons_succ]
    refine tkT 8 ?_
    refine tkK 9 ?_
    refine tkK 10 ?_
    refine tkK 11 ?_
    refine tkK 12 ?_
    refine tkK 13 ?_
    refine tkK 14 ?_
    refine tkK 15 ?_
    refine tkK 16 ?_
    refine tkK 17 ?_
    refine tkK 18 ?_
    refine tkK 19 ?_
    refine tkT 20 ?_
    refine tkT 21 ?_
    refine tkT 22 ?_
    refine wpAnyH_done (by kernel_rfl) ?_ _
    go_wp2
    go_ret
    exact ⟨ret_bool (by simp), bel HF.out.bel (bel_d _)⟩
   ·cases hl : (K == 3) <;> cases hq : (Q == P)
    all_goals
     go_enter Tryz.func74, Tryz.ntmps74
     go_wp2_with (go_at_call 108; refine (HKI.out _ (HS0.out.below (bel_alloc _ _))).mono ?_; rintro e w1 ⟨⟨A, rfl⟩, hb1⟩; have HF : Hid (MW w w1.heap.size G C b o (.slice p N q) L0 L1 L2 L3 L4 op true P A (w1.alloc (.cells #[.bool true, .int .i64 P, .int .i64 A] 165))) := (by have hq := bel (bel_alloc _ _) hb1; exact ⟨bel hq (bel_alloc _ _), kc (bel_alloc _ _) (kc hb1 (by simp [go_sem])), kc (bel_alloc _ _) (kc hb1 (by simp [go_sem])), kc (bel_alloc _ _) (kc hb1 (by simp [go_sem])), kc (bel_alloc _ _) (kc hb1 (by simp [go_sem])), kc (bel_alloc _ _) (kc hb1 (by simp [go_sem])), by simp [go_sem], by simp [go_sem], kc (bel_alloc _ _) (kc hq HS0.out.c0), kc (bel_alloc _ _) (kc hq HS0.out.c3), kc (bel_alloc _ _) (kc hq HE0.out)⟩); have f0 := HF.out.m0; have f1 := HF.out.g3; have f2 := HF.out.e0; have f3 := HF.out.m1; have f4 := HF.out.g0)
     have HCX : Hid (∀ v, Below (w1.alloc (.cells #[.bool true, .int .i64 P, .int .i64 A] 165)).heap.size (w1.alloc (.cells #[.bool true, .int .i64 P, .int .i64 A] 165)) v → v.cell? ⟨b, o, none⟩ = some (.int .i64 op) ∧ v.cell? ⟨G, 0, none⟩ = some (.pointer (some ⟨C, 0, none⟩)) ∧ v.cell? ⟨w1.heap.size, 1, none⟩ = some (.int .i64 P) ∧ v.cell? ⟨w.heap.size, 0, none⟩ = some (.int .i64 L0) ∧ v.cell? ⟨w.heap.size, 1, none⟩ = some (.int .i64 L1) ∧ v.cell? ⟨w.heap.size, 2, none⟩ = some (.int .i64 L2) ∧ v.cell? ⟨w.heap.size, 3, none⟩ = some (.int .i64 L3) ∧ v.cell? ⟨w.heap.size, 4, none⟩ = some (.int .i64 L4)) := fun v hv => ⟨(HF.out.next hv).e0, (HF.out.next hv).g0, (HF.out.next hv).m1, (HF.out.next hv).r0, (HF.out.next hv).r1, (HF.out.next hv).r2, (HF.out.next hv).r3, (HF.out.next hv).r4⟩
     have f5 := HF.out.r0; have f6 := HF.out.r1; have f7 := HF.out.r2; have f8 := HF.out.r3; have f9 := HF.out.r4
     refine wp_region_held_drew (S := (fun v => v.cell? ⟨b, o, none⟩ = some (.int .i64 op) ∧ v.cell? ⟨G, 0, none⟩ = some (.pointer (some ⟨C, 0, none⟩)) ∧ v.cell? ⟨w1.heap.size, 1, none⟩ = some (.int .i64 P) ∧ v.cell? ⟨w.heap.size, 0, none⟩ = some (.int .i64 L0) ∧ v.cell? ⟨w.heap.size, 1, none⟩ = some (.int .i64 L1) ∧ v.cell? ⟨w.heap.size, 2, none⟩ = some (.int .i64 L2) ∧ v.cell? ⟨w.heap.size, 3, none⟩ = some (.int .i64 L3) ∧ v.cell? ⟨w.heap.size, 4, none⟩ = some (.int .i64 L4))) (by kernel_rfl) ?_ (fun hHeld => ?_)
     ·((try dsimp only); go_keep)
     refine tkT 0 ?_
     refine tkT 1 ?_
     refine tkT 2 ?_
     refine tkT 3 ?_
     refine tkT 4 ?_
     refine tkT 5 ?_
     refine tkT 6 ?_
     clear hHeld
     refine wpAnyH_ready (rs := [7]) (by kernel_rfl) (by simp) ?_
     refine AllReadyH.cons (i := 7) (by simp only [List.getElem?_toArray, List.getElem?_cons_succ, List.getElem?_cons_zero]; rfl) (fun K hK => ?_) AllReadyH.nil
     go_simp
     (go_at_call 109; refine (HKL.out _).mono ?_; rintro e w3 ⟨rfl, rfl⟩)
     try (go_wp2_with fail)
     refine hK.out _ _ ?_ (fun hHeld => ?_)
     ·((try dsimp only); go_keep)
     clear hK K
     try simp only [Act.put, List.setIfInBounds_toArray, List.set_cons_zero, List.set_cons_succ]
     refine tkT 8 ?_
     refine tkT 9 ?_
     refine tkT 10 ?_
     refine tkT 11 ?_
     refine tkT 12 ?_
     refine tkT 13 ?_
     refine tkT 14 ?_
     refine tkT 16 ?_
     refine tkT 17 ?_
     refine tkT 18 ?_
     clear hHeld
     refine wpAnyH_ready (rs := [15]) (by kernel_rfl) (by simp) ?_
     refine AllReadyH.cons (i := 15) (by simp only [List.getElem?_toArray, List.getElem?_cons_succ, List.getElem?_cons_zero]; rfl) (fun K hK => ?_) AllReadyH.nil
     go_simp
     (go_at_call 104; refine (HKM.out _ (HC0.out.below (bel HF.out.bel (bel_d _))) (HI0.out.below (bel HF.out.bel (bel_d _)))).mono ?_; rintro e w3 ⟨rfl, hb3⟩; have HB3 := bel (bel_d _) hb3; obtain ⟨y0, y1, y2, y3, y4, y5, y6, y7⟩ := HCX.out w3 HB3)
     try (go_wp2_with fail)
     refine hK.out _ _ ?_ (fun hHeld => ?_)
     ·((try dsimp only); go_keep)
     clear hK K
     try simp only [Act.put, List.setIfInBounds_toArray, List.set_cons_zero, List.set_cons_succ]
     refine tkT 19 ?_
     refine tkT 20 ?_
     refine tkT 21 ?_
     refine tkT 22 ?_
     refine wpAnyH_done (by kernel_rfl) ?_ _
     go_wp2
     go_ret
     exact ⟨ret_bool (by simp [hl, hq]), (HF.out.next HB3).bel⟩
end Go.Proofs.YtgcmnkanjcfndaaGreatDoor
namespace Go.Proofs.YtgcmnkanjcfndaaGreatDoor
open Go.RowKit
set_option linter.unusedVariables false
set_option linter.unusedSimpArgs false
def sfromG (p : Option Addr) (c k sz : Nat) : Option Addr := if c = k then p else p.map (·.add (k * sz))
theorem sliced_to (p : Option Addr) (h c sz : Nat) : sliced p 0 h c sz = .slice p h c := by
 unfold sliced
 by_cases c0 : c = 0
 ·subst c0; simp
 ·rw [if_neg (by omega)]; cases p <;> simp [Addr.add]
theorem slice_toG {t : TypeId} {sz : Nat} (hu : Tryz.prog.underlying t = some (.slice (Tryz.prog.elem t))) (hz : ∀ w, (sizeOf (Tryz.prog.elem t)).run Tryz.prog w = .ok sz w) (p : Option Addr) (n c h : Nat) (hh : h ≤ c) (w : World) :
  (Instr.sliceAt t (.slice p n c) none (some (.int .i64 h)) none).run Tryz.prog w = .ok (.slice p h c) w := by
 rw [run_sliceAt_slice (h := hu), run_slice_h (ht := hu) (h0 := by omega) (h2 := by omega), hz]
 rw [Result.andThen_ok, Int.toNat_natCast, sliced_to p h c sz]
theorem slice_fromG {t : TypeId} {sz : Nat} (hu : Tryz.prog.underlying t = some (.slice (Tryz.prog.elem t))) (hz : ∀ w, (sizeOf (Tryz.prog.elem t)).run Tryz.prog w = .ok sz w) (p : Option Addr) (n c k : Nat) (hk : k ≤ n) (w : World) :
  (Instr.sliceAt t (.slice p n c) (some (.int .i64 k)) none none).run Tryz.prog w = .ok (.slice (sfromG p c k sz) (n - k) (c - k)) w := by
 rw [run_sliceAt_slice (h := hu), run_slice_l (ht := hu) (h0 := by omega) (h1 := by omega), hz]
 rw [Result.andThen_ok, Int.toNat_natCast]
 unfold sliced sfromG
 simp
theorem und_I : Tryz.prog.underlying 90 = some (.slice (Tryz.prog.elem 90)) := by kernel_rfl
theorem elem_I : Tryz.prog.elem 90 = 3 := by kernel_rfl
theorem size_I (w : World) : (sizeOf (Tryz.prog.elem 90)).run Tryz.prog w = .ok 1 w := by rw [elem_I]; exact Tryz.sizeOf3 w
theorem und_B : Tryz.prog.underlying 91 = some (.slice (Tryz.prog.elem 91)) := by kernel_rfl
theorem elem_B : Tryz.prog.elem 91 = 165 := by kernel_rfl
theorem size_B (w : World) : (sizeOf (Tryz.prog.elem 91)).run Tryz.prog w = .ok 3 w := by rw [elem_B]; exact Tryz.sizeOf165 w
theorem info_Block : (Tryz.prog.info? 165).map (fun i => (i.zero, i.size, i.bytes)) = some (some (.agg #[.bool false, .int .i64 0, .int .i64 0]), 3, 24) := by kernel_rfl
theorem own_take {w : World} {B : Nat} {t : TypeId} {k : Nat} {p : Option Addr} {n c : Nat} {xs : List Value} (h : w.ownsRow B t k (.slice p n c) n xs) {m : Nat} (hm : m ≤ n) : w.ownsRow B t k (.slice p m c) m (xs.take (m * k)) := by
 obtain ⟨hl, h⟩ := h
 have hle : m * k ≤ n * k := Nat.mul_le_mul_right k hm
 refine ⟨by rw [List.length_take, hl]; exact Nat.min_eq_left hle, ?_⟩
 rcases h with ⟨hv, h0⟩ | ⟨g, cap, cur, hv, hB, hg, hc1, hc2, hsz, htk⟩
 ·left
  subst h0
  have : m = 0 := by omega
  subst this
  exact ⟨hv, rfl⟩
 ·simp only [Value.slice.injEq] at hv
  obtain ⟨rfl, -, rfl⟩ := hv
  refine .inr ⟨g, c, cur, rfl, hB, hg, by omega, hc2, hsz, ?_⟩
  rw [← htk, List.take_take, Nat.min_eq_left hle]
structure WX (E G C n gi : Nat) (vs vo : Value) (w : World) (S : List Nat) (O : List Bk) (X : Nat → Bool) : Prop where
 g : w.rowIs G 93 4 (wkF C gi n vs vo)
 i : w.rowIs gi 4 n (fun j => .bool (X j))
 set : w.ownsRow E 3 1 vs S.length (setC S)
 opn : w.ownsRow E 165 3 vo O.length (cellsB O.reverse)
 hG : E ≤ G
 hgi : E ≤ gi
 n1 : gi ≠ G
 n2 : vs.ownBlock ≠ some G
 n3 : vs.ownBlock ≠ some gi
 n4 : vo.ownBlock ≠ some G
 n5 : vo.ownBlock ≠ some gi
 n6 : ∀ b, vs.ownBlock = some b → vo.ownBlock ≠ some b
section
variable {E G C n gi : Nat} {vs vo : Value} {w w' : World} {S : List Nat} {O : List Bk} {X : Nat → Bool} {s : Wk}
theorem WS.x (h : WS E G C n gi vs vo w s) : WX E G C n gi vs vo w s.set s.opens (fun j => decide (j ∈ s.set)) := ⟨h.g, h.i, h.set, h.opn, h.hG, h.hgi, h.n1, h.n2, h.n3, h.n4, h.n5, h.n6⟩
theorem WX.st (h : WX E G C n gi vs vo w s.set s.opens X) (hx : ∀ j, j < n → X j = decide (j ∈ s.set)) : WS E G C n gi vs vo w s :=
 ⟨h.g, h.i.congr fun j hj => by rw [hx j hj], h.set, h.opn, h.hG, h.hgi, h.n1, h.n2, h.n3, h.n4, h.n5, h.n6⟩
theorem WX.below (h : WX E G C n gi vs vo w S O X) (k : Below w.heap.size w w') : WX E G C n gi vs vo w' S O X :=
 ⟨h.g.of_block (k.block _ h.g.lt), h.i.of_block (k.block _ h.i.lt), own_below h.set k, own_below h.opn k, h.hG, h.hgi, h.n1, h.n2, h.n3, h.n4, h.n5, h.n6⟩
theorem WX.c1 (h : WX E G C n gi vs vo w S O X) : w.cell? ⟨G, 1, none⟩ = some (.slice (some ⟨gi, 0, none⟩) n n) := h.g.cell (i := 1) (by decide)
theorem WX.c2 (h : WX E G C n gi vs vo w S O X) : w.cell? ⟨G, 2, none⟩ = some vs := h.g.cell (i := 2) (by decide)
theorem WX.lt (h : WX E G C n gi vs vo w S O X) : E ≤ w.heap.size := Nat.le_trans h.hG (Nat.le_of_lt h.g.lt)
theorem WX.opens {vo' : Value} {O' : List Bk} (h : WX E G C n gi vs vo w S O X) (ho : w.ownsRow E 165 3 vo' O'.length (cellsB O'.reverse)) (m4 : vo'.ownBlock ≠ some G) (m5 : vo'.ownBlock ≠ some gi) (m6 : ∀ b, vs.ownBlock = some b → vo'.ownBlock ≠ some b) :
  WX E G C n gi vs vo' (w.setCell ⟨G, 3, none⟩ vo') S O' X := by
 have nb : ∀ b, b ≠ G → (w.setCell ⟨G, 3, none⟩ vo').heap[b]? = w.heap[b]? := fun b hb => Below.heap_setCell _ _ _ _ hb
 refine ⟨(h.g.set 3 vo').congr fun j hj => ?_, h.i.of_block (nb _ h.n1), own_keep h.set fun b hb => nb b fun e => h.n2 (e ▸ hb), own_keep ho fun b hb => nb b fun e => m4 (e ▸ hb), h.hG, h.hgi, h.n1, h.n2, h.n3, m4, m5, m6⟩
 unfold wkF
 obtain rfl | rfl | rfl | rfl : j = 0 ∨ j = 1 ∨ j = 2 ∨ j = 3 := by omega
 all_goals rfl
theorem WX.sets {vs' : Value} {S' : List Nat} (h : WX E G C n gi vs vo w S O X) (hs : w.ownsRow E 3 1 vs' S'.length (setC S')) (m2 : vs'.ownBlock ≠ some G) (m3 : vs'.ownBlock ≠ some gi) (m6 : ∀ b, vs'.ownBlock = some b → vo.ownBlock ≠ some b) :
  WX E G C n gi vs' vo (w.setCell ⟨G, 2, none⟩ vs') S' O X := by
 have nb : ∀ b, b ≠ G → (w.setCell ⟨G, 2, none⟩ vs').heap[b]? = w.heap[b]? := fun b hb => Below.heap_setCell _ _ _ _ hb
 refine ⟨(h.g.set 2 vs').congr fun j hj => ?_, h.i.of_block (nb _ h.n1), own_keep hs fun b hb => nb b fun e => m2 (e ▸ hb), own_keep h.opn fun b hb => nb b fun e => h.n4 (e ▸ hb), h.hG, h.hgi, h.n1, m2, m3, h.n4, h.n5, m6⟩
 unfold wkF
 obtain rfl | rfl | rfl | rfl : j = 0 ∨ j = 1 ∨ j = 2 ∨ j = 3 := by omega
 all_goals rfl
theorem WX.put (h : WX E G C n gi vs vo w S O X) (x : Nat) (v : Bool) : WX E G C n gi vs vo (w.setCell ⟨gi, x, none⟩ (.bool v)) S O (fun j => if j = x then v else X j) := by
 have nb : ∀ b, b ≠ gi → (w.setCell ⟨gi, x, none⟩ (.bool v)).heap[b]? = w.heap[b]? := fun b hb => Below.heap_setCell _ _ _ _ hb
 refine ⟨h.g.of_block (nb _ (Ne.symm h.n1)), (h.i.set x (.bool v)).congr fun j hj => ?_, own_keep h.set fun b hb => nb b fun e => h.n3 (e ▸ hb), own_keep h.opn fun b hb => nb b fun e => h.n5 (e ▸ hb), h.hG, h.hgi, h.n1, h.n2, h.n3, h.n4, h.n5, h.n6⟩
 show (if j = x then _ else _) = _
 split <;> rfl
theorem WX.of {X' : Nat → Bool} (h : WX E G C n gi vs vo w S O X) (e : ∀ j, j < n → X j = X' j) : WX E G C n gi vs vo w S O X' :=
 ⟨h.g, h.i.congr fun j hj => by rw [e j hj], h.set, h.opn, h.hG, h.hgi, h.n1, h.n2, h.n3, h.n4, h.n5, h.n6⟩
theorem WX.grown {row : Option Nat} (h : WX E G C n gi vs vo w S O X) (hg : w.grownBy w' row) (hr : row = vo.ownBlock ∨ row = vs.ownBlock) :
  w'.rowIs G 93 4 (wkF C gi n vs vo) ∧ w'.rowIs gi 4 n (fun j => .bool (X j)) ∧ (row = vo.ownBlock → w'.ownsRow E 3 1 vs S.length (setC S)) ∧ (row = vs.ownBlock → w'.ownsRow E 165 3 vo O.length (cellsB O.reverse)) := by
 have k1 : some G ≠ row := fun e => by
  rcases hr with hr | hr
  ·rw [hr] at e; exact h.n4 e.symm
  ·rw [hr] at e; exact h.n2 e.symm
 have k2 : some gi ≠ row := fun e => by
  rcases hr with hr | hr
  ·rw [hr] at e; exact h.n5 e.symm
  ·rw [hr] at e; exact h.n3 e.symm
 exact ⟨h.g.of_block (hg.block _ h.g.lt k1), h.i.of_block (hg.block _ h.i.lt k2), fun hr => own_keep h.set fun b hb => hg.block b (h.set.lt b hb).2 fun e => h.n6 b hb (by rw [← hr]; exact e.symm), fun hr => own_keep h.opn fun b hb => hg.block b (h.opn.lt b hb).2 fun e => h.n6 b (by rw [← hr]; exact e.symm) hb⟩
end
end Go.Proofs.YtgcmnkanjcfndaaGreatDoor
namespace Go.Proofs.YtgcmnkanjcfndaaGreatDoor
open Go.RowKit
set_option linter.unusedVariables false
set_option linter.unusedSimpArgs false
structure LW (E G C n gi : Nat) (vs vo : Value) (w : World) (S : List Nat) (O : List Bk) (X : Nat → Bool) (H : Nat) (L : Bool) (A : Nat) (v : World) : Prop where
 bel : Below E w v
 st : WX E G C n gi vs vo v S O X
 b0 : v.cell? ⟨H, 0, none⟩ = some (.bool L)
 b2 : v.cell? ⟨H, 2, none⟩ = some (.int .i64 (A : Int))
 hH : H ≠ G
 hI : H ≠ gi
 off : ∀ k, k < w.heap.size → k ≠ G → k ≠ gi → v.heap[k]? = w.heap[k]?
section
variable {E G C n gi : Nat} {vs vo : Value} {w v v' : World} {S : List Nat} {O : List Bk} {X : Nat → Bool} {H : Nat} {L : Bool} {A : Nat}
theorem LW.below (h : LW E G C n gi vs vo w S O X H L A v) (k : Below v.heap.size v v') : LW E G C n gi vs vo w S O X H L A v' :=
 ⟨h.bel.trans (k.mono h.st.lt), h.st.below k, kc k h.b0, kc k h.b2, h.hH, h.hI, fun j hj h1 h2 => (k.block j (Nat.lt_of_lt_of_le hj h.bel.size)).trans (h.off j hj h1 h2)⟩
theorem LW.put (h : LW E G C n gi vs vo w S O X H L A v) (x : Nat) (b : Bool) : LW E G C n gi vs vo w S O (fun j => if j = x then b else X j) H L A (v.setCell ⟨gi, x, none⟩ (.bool b)) := by
 have f : ∀ j, (v.setCell ⟨gi, x, none⟩ (.bool b)).cell? ⟨H, j, none⟩ = v.cell? ⟨H, j, none⟩ := fun j => World.cell?_of_block (Below.heap_setCell _ _ _ _ h.hI)
 exact ⟨h.bel.setCell h.st.hgi _, h.st.put x b, (f 0).trans h.b0, (f 2).trans h.b2, h.hH, h.hI, fun j hj h1 h2 => (Below.heap_setCell _ _ _ _ h2).trans (h.off j hj h1 h2)⟩
theorem LW.of {X' : Nat → Bool} (h : LW E G C n gi vs vo w S O X H L A v) (e : ∀ j, j < n → X j = X' j) : LW E G C n gi vs vo w S O X' H L A v := ⟨h.bel, h.st.of e, h.b0, h.b2, h.hH, h.hI, h.off⟩
end
theorem own_cap {w : World} {B : Nat} {t : TypeId} {k : Nat} {p : Option Addr} {n c : Nat} {xs : List Value} (h : w.ownsRow B t k (.slice p n c) n xs) : n ≤ c := by
 rcases h.2 with ⟨hv, h0⟩ | ⟨g, cap, cur, hv, hB, hg, hc1, hc2, hsz, htk⟩
 ·omega
 ·simp only [Value.slice.injEq] at hv; omega
theorem set_from {w : World} {B : Nat} {t : TypeId} {p : Option Addr} {c : Nat} {S : List Nat} (h : w.ownsRow B t 1 (.slice p S.length c) S.length (setC S)) {A j : Nat} (hj : A + j < S.length) :
  ∃ g, p = some ⟨g, 0, none⟩ ∧ sfromG p c A 1 = some ⟨g, A, none⟩ ∧ w.cell? ⟨g, A + j, none⟩ = some (.int .i64 (S[A + j] : Int)) := by
 obtain ⟨g, cap, hv, _, _, hc1, _, hcl⟩ := own_open h (by omega)
 simp only [Value.slice.injEq] at hv
 obtain ⟨rfl, -, rfl⟩ := hv
 refine ⟨g, rfl, ?_, hcl _ _ (by simp [setC, List.getElem?_eq_getElem hj])⟩
 unfold sfromG
 rw [if_neg (by omega)]
 by_cases h0 : A = 0
 ·subst h0; simp [Addr.add]
 ·simp [Addr.add, h0]
theorem ownBlock_len (p : Option Addr) (a b c : Nat) : (Value.slice p a c).ownBlock = (Value.slice p b c).ownBlock := by cases p <;> rfl
def offX (S : List Nat) (A q : Nat) (j : Nat) : Bool := decide (j ∈ S) && !decide (j ∈ (S.drop A).take q)
theorem offX_zero (S : List Nat) (A j : Nat) : offX S A 0 j = decide (j ∈ S) := by simp [offX]
theorem offX_succ {S : List Nat} {A q : Nat} (h : A + q < S.length) (j : Nat) : (if j = S[A + q] then false else offX S A q j) = offX S A (q + 1) j := by
 have e : (S.drop A).take (q + 1) = (S.drop A).take q ++ [S[A + q]] := by
  rw [List.take_succ_eq_append_getElem (by rw [List.length_drop]; omega)]
  simp
 unfold offX
 rw [e]
 by_cases hj : j = S[A + q]
 ·rw [if_pos hj, hj]; simp
 ·rw [if_neg hj]; simp [hj]
theorem offX_all {S : List Nat} {A : Nat} (hd : S.Nodup) (j : Nat) : offX S A (S.length - A) j = decide (j ∈ S.take A) := by
 have e : (S.drop A).take (S.length - A) = S.drop A := List.take_of_length_le (by simp)
 unfold offX
 rw [e]
 have hs : S = S.take A ++ S.drop A := (List.take_append_drop A S).symm
 have hd' := hd
 rw [hs, List.nodup_append] at hd'
 by_cases h1 : j ∈ S.take A
 ·have h2 : j ∉ S.drop A := fun h2 => hd'.2.2 j h1 j h2 rfl
  have h3 : j ∈ S := List.mem_of_mem_take h1
  simp [h1, h2, h3]
 ·by_cases h2 : j ∈ S.drop A
  ·simp [h1, h2]
  ·have h3 : j ∉ S := fun h3 => by rw [hs] at h3; exact (List.mem_append.1 h3).elim h1 h2
   simp [h1, h3]
set_option maxRecDepth 100000 in
set_option maxHeartbeats 4000000 in
theorem leave_any (E G C n gi : Nat) (vs vo : Value) (s : Wk) (w : World) (h : WS E G C n gi vs vo w s) (ok : OkS n s) (hn : n ≤ 16384) (hop : s.opens ≠ []) :
  Calls Tryz.prog 110 #[.pointer (some ⟨G, 0, none⟩)] w fun e w' => e = .returned (.tuple #[]) ∧ Below E w w' ∧ (∀ k, k < w.heap.size → k ≠ G → k ≠ gi → w'.heap[k]? = w.heap[k]?) ∧ ∃ vs' vo', WS E G C n gi vs' vo' w' (leaveP s) := by
 obtain ⟨S, O⟩ := s
 cases O with
 | nil => exact absurd rfl hop
 | cons bk r =>
  clear hop
  obtain ⟨L, P, A⟩ := bk
  have hlen := ok.len
  obtain ⟨hnd, hlt, ⟨hA, hAr⟩, hne⟩ := ok
  simp only at hnd hlt hA hAr hne hlen
  have hx := h.x
  have hG := h.g.lt
  have hgi := h.i.lt
  have hE := h.lt
  obtain ⟨g, cap, rfl, hE2, hg, hc1, hc2, hcl⟩ := own_open h.opn (by simp)
  obtain ⟨pS, cS, rfl⟩ := own_len h.set
  have hcs := own_cap h.set
  simp only at hcs
  have hl : r.reverse.length = r.length := List.length_reverse
  simp only [List.reverse_cons] at hcl
  have x0 := hcl (r.length * 3) (.bool L) (by have := cellsB_last r.reverse ⟨L, P, A⟩ 0 (u := .bool L) rfl; rwa [hl] at this)
  have x1 := hcl (r.length * 3 + 1) (.int .i64 P) (by have := cellsB_last r.reverse ⟨L, P, A⟩ 1 (u := .int .i64 P) rfl; rwa [hl] at this)
  have x2 := hcl (r.length * 3 + 2) (.int .i64 A) (by have := cellsB_last r.reverse ⟨L, P, A⟩ 2 (u := .int .i64 A) rfl; rwa [hl] at this)
  have c3 := h.c3
  have HX : Hid (WX E G C n gi (.slice pS S.length cS) (.slice (some ⟨g, 0, none⟩) (r.length + 1) cap) w S (⟨L, P, A⟩ :: r) (fun j => decide (j ∈ S))) := hx
  simp only [List.length_cons] at c3 hne hc1
  -- behind the cut of the open blocks
  have HL1 : Hid (LW E G C n gi (.slice pS S.length cS) (.slice (some ⟨g, 0, none⟩) r.length cap) w S r (offX S A 0) w.heap.size L A ((w.setCell ⟨G, 3, none⟩ (.slice (some ⟨g, 0, none⟩) r.length cap)).alloc (.cells #[.bool L, .int .i64 P, .int .i64 (A : Int)] 165))) := by
   have ho := own_take (m := r.length) hx.opn (by simp)
   have he : (cellsB ((⟨L, P, A⟩ :: r).reverse)).take (r.length * 3) = cellsB r.reverse := by
    rw [List.reverse_cons, cellsB_snoc, List.take_append_of_le_length (by rw [cellsB_len, hl]; exact Nat.le_refl _), List.take_of_length_le (by rw [cellsB_len, hl]; exact Nat.le_refl _)]
   rw [he] at ho
   have hs : (w.setCell ⟨G, 3, none⟩ (.slice (some ⟨g, 0, none⟩) r.length cap)).heap.size = w.heap.size := by simp
   have q := hx.opens ho hx.n4 hx.n5 hx.n6
   obtain ⟨V, hV⟩ : ∃ V, w.setCell ⟨G, 3, none⟩ (.slice (some ⟨g, 0, none⟩) r.length cap) = V := ⟨_, rfl⟩
   have hbV : Below E w V := by rw [← hV]; exact (Below.refl E w).setCell hx.hG _
   have hoV : ∀ k, k ≠ G → V.heap[k]? = w.heap[k]? := fun k hk => by rw [← hV]; exact Below.heap_setCell _ _ _ _ hk
   rw [hV] at hs q ⊢
   exact ⟨hbV.alloc (by omega) _, (q.below (bel_alloc V _)).of fun j _ => (offX_zero S A j).symm, by rw [← hs]; simp [go_sem], by rw [← hs]; simp [go_sem], by omega, by omega, fun k hk h1 _ => (Below.heap_alloc _ _ _ (by omega)).trans (hoV k h1)⟩
  have HOW : Hid (∀ v, WX E G C n gi (.slice pS S.length cS) (.slice (some ⟨g, 0, none⟩) r.length cap) v S r (offX S A (S.length - A)) → WS E G C n gi (.slice pS A cS) (.slice (some ⟨g, 0, none⟩) r.length cap) (v.setCell ⟨G, 2, none⟩ (.slice pS A cS)) ⟨S.take A, r⟩) := fun v hv => by
   have ho := own_take (m := A) hv.set hA
   rw [Nat.mul_one, setC_take] at ho
   have hlA : (S.take A).length = A := by rw [List.length_take]; omega
   have ho' : v.ownsRow E 3 1 (.slice pS A cS) (S.take A).length (setC (S.take A)) := by rw [hlA]; exact ho
   have q := hv.sets (vs' := .slice pS A cS) (S' := S.take A) ho' (by rw [ownBlock_len pS A S.length cS]; exact hv.n2) (by rw [ownBlock_len pS A S.length cS]; exact hv.n3) (by rw [ownBlock_len pS A S.length cS]; exact hv.n6)
   exact WX.st (s := ⟨S.take A, r⟩) q fun j _ => offX_all hnd j
  have HFR : Hid (∀ v : World, v.ownsRow E 3 1 (.slice pS S.length cS) S.length (setC S) → ∀ j, A + j < S.length → ∃ (gs x : Nat), sfromG pS cS A 1 = some ⟨gs, A, none⟩ ∧ v.cell? ⟨gs, A + j, none⟩ = some (.int .i64 (x : Int)) ∧ x < n ∧ ∀ i, (if i = x then false else offX S A j i) = offX S A (j + 1) i) := fun v hv j hj => by
   obtain ⟨gs, _, h2, h3⟩ := set_from hv hj
   exact ⟨gs, S[A + j], h2, h3, hlt _ (List.getElem_mem hj), fun i => offX_succ hj i⟩
  have HLT : Hid (WX E G C n gi (.slice pS S.length cS) (.slice (some ⟨g, 0, none⟩) r.length cap) w S r (offX S A 0) → True) := fun _ => trivial
  have HL3 : Hid (∀ v, WX E G C n gi (.slice pS S.length cS) (.slice (some ⟨g, 0, none⟩) r.length cap) v S r (offX S A 0) → WS E G C n gi (.slice pS S.length cS) (.slice (some ⟨g, 0, none⟩) r.length cap) v ⟨S, r⟩) := fun v hv => WX.st (s := ⟨S, r⟩) hv fun j _ => offX_zero S A j
  have s1 := fun w => slice_toG und_B size_B (some ⟨g, 0, none⟩) (r.length + 1) cap r.length (by omega) w
  have s2 := fun w => slice_fromG und_I size_I pS S.length cS A hA w
  have s3 := fun w => slice_toG und_I size_I pS S.length cS A (by omega) w
  obtain ⟨m, hm⟩ : ∃ m, r.length = m := ⟨_, rfl⟩
  obtain ⟨K, hK⟩ : ∃ K, S.length = K := ⟨_, rfl⟩
  obtain ⟨pF, hpF⟩ : ∃ p, sfromG pS cS A 1 = p := ⟨_, rfl⟩
  simp only [leaveP]
  rw [hm] at x0 x1 x2 c3 hne hc1 s1 HX HL1 HOW HL3
  rw [hK] at s2 s3 HL1 HOW HL3 hA hlen hcs HX
  simp only [hpF] at s2
  simp only [hpF, hK] at HFR
  have HD : Hid (K - A ≤ 16384) := by show _ ≤ _; omega
  obtain ⟨N, hN⟩ : ∃ N, m + 1 = N := ⟨_, rfl⟩
  rw [hN] at c3 hne hc1 s1 HX
  obtain ⟨D, hD⟩ : ∃ D, K - A = D := ⟨_, rfl⟩
  rw [hD] at s2 HOW HD
  have HDD : Hid (K - A = D) := hD
  have HKK : Hid (S.length = K) := hK
  have hw : IntKind.i64.wrap ((N : Int) - 1) = (m : Int) := by rw [IntKind.wrap_i64]; omega
  have i1 : (0 : Int) ≤ (m : Int) := by omega
  have i2 : (m : Int) < (N : Int) := by omega
  have ng : g ≠ w.heap.size := by omega
  have nG : G ≠ w.heap.size := by omega
  have fz := h.g.frozen 3
  have HB0 : Hid (D ≤ 16384) := HD
  have hDb : D ≤ 16384 := HD.out
  clear hcl hl hm hK hpF hN hD h hx hAr hlt hnd HLT HD
  go_enter Tryz.func110, Tryz.ntmps110
  go_upto_region 2 with fail
  go_cut [3] (fun bv wx => bv = .pointer (some ⟨w.heap.size, 0, none⟩) ∧ LW E G C n gi (.slice pS K cS) (.slice (some ⟨g, 0, none⟩) m cap) w S r (offX S A 0) w.heap.size L A wx)
  case first =>
   go_wp2
   go_meet
   exact ⟨rfl, HL1.out⟩
  case rest =>
   obtain ⟨rfl, lw⟩ := hcut
   have HLW : Hid (LW E G C n gi (.slice pS K cS) (.slice (some ⟨g, 0, none⟩) m cap) w S r (offX S A 0) w.heap.size L A wc) := lw
   have b0 := lw.b0
   have b2 := lw.b2
   have d2 := lw.st.c2
   clear lw HL1 HX x0 x1 x2 c3 fz
   cases L
   ·go_wp2
    refine wp_region_held_drew (S := (fun v => v.cell? ⟨G, 2, none⟩ = some (.slice pS K cS) ∧ v.cell? ⟨w.heap.size, 2, none⟩ = some (.int .i64 (A : Int)))) (by kernel_rfl) ?_ (fun hHeld => ?_)
    ·((try dsimp only); go_keep)
    refine tkT 0 ?_
    refine tkT 1 ?_
    refine tkT 2 ?_
    refine tkT 3 ?_
    refine tkT 4 ?_
    refine tkT 5 ?_
    refine tkT 6 ?_
    refine tkT 7 ?_
    refine tkT 8 ?_
    refine wpAnyH_done (by kernel_rfl) ?_ _
    go_wp2
    go_loopw [38] (fun iv wr => ∃ j : Nat, j ≤ D ∧ iv = .int .i64 j ∧ LW E G C n gi (.slice pS K cS) (.slice (some ⟨g, 0, none⟩) m cap) w S r (offX S A j) w.heap.size false A wr) (fun iv _ => D - (intOf iv).toNat)
    case atStart => exact ⟨0, Nat.zero_le _, rfl, HLW.out.below (bel_d _)⟩
    case round =>
     clear HLW b0 b2 d2
     obtain ⟨j, hj, rfl, lw⟩ := hrel
     have HLW : Hid (LW E G C n gi (.slice pS K cS) (.slice (some ⟨g, 0, none⟩) m cap) w S r (offX S A j) w.heap.size false A wr) := lw
     by_cases hlt : j < D
     ·obtain ⟨gs, x, rfl, xj, hxn, hsv⟩ := HFR.out wr (by have := lw.st.set; rw [HKK.out] at this; exact this) j (by have := HDD.out; omega)
      have HSV : Hid (∀ i, (if i = x then false else offX S A j i) = offX S A (j + 1) i) := hsv
      have d1 := lw.st.c1
      have y1 := lw.st.i.cell hxn
      have y2 := lw.st.i.frozen x
      have i3 : (0 : Int) ≤ (j : Int) := by omega
      have i4 : (j : Int) < (D : Int) := by omega
      have i5 : (0 : Int) ≤ (x : Int) := by omega
      have i6 : (x : Int) < (n : Int) := by omega
      clear lw hsv
      go_wp2
      go_roundw
      case rel => exact ⟨j + 1, by omega, by go_num, (HLW.out.put x false).of fun i _ => HSV.out i⟩
      case measure => simp [intOf]; omega
     ·have : j = D := by omega
      subst this
      have d2 := lw.st.c2
      have b2 := lw.b2
      have d3 := lw.st.g.frozen 2
      have hGr : G ≠ w.heap.size := by omega
      clear lw
      go_wp2
      refine wp_region_held_drew (S := (fun v => v.cell? ⟨w.heap.size, 2, none⟩ = some (.int .i64 (A : Int)))) (by kernel_rfl) ?_ (fun hHeld => ?_)
      ·((try dsimp only); go_keep)
      refine tkT 0 ?_
      refine tkT 1 ?_
      refine tkT 2 ?_
      refine tkT 3 ?_
      refine tkT 5 ?_
      refine tkT 6 ?_
      clear hHeld
      refine wpAnyH_ready (rs := [4]) (by kernel_rfl) (by simp) ?_
      refine AllReadyH.cons (i := 4) (by simp only [List.getElem?_toArray, List.getElem?_cons_succ, List.getElem?_cons_zero]; rfl) (fun K hK => ?_) AllReadyH.nil
      go_simp
      refine hK.out _ _ ?_ (fun hHeld => ?_)
      ·((try dsimp only); go_keep)
      clear hK K
      try simp only [Act.put, List.setIfInBounds_toArray, List.set_cons_zero, List.set_cons_succ]
      refine tkT 7 ?_
      refine tkT 8 ?_
      refine tkT 9 ?_
      clear hHeld
      refine wpAnyH_ready (rs := [10]) (by kernel_rfl) (by simp) ?_
      refine AllReadyH.cons (i := 10) (by simp only [List.getElem?_toArray, List.getElem?_cons_succ, List.getElem?_cons_zero]; rfl) (fun K hK => ?_) AllReadyH.nil
      go_simp
      refine hK.out _ _ ?_ (fun hHeld => ?_)
      ·((try dsimp only); go_keep)
      clear hK K
      try simp only [Act.put, List.setIfInBounds_toArray, List.set_cons_zero, List.set_cons_succ]
      refine wpAnyH_done (by kernel_rfl) ?_ _
      go_wp2
      first | go_end0 | (simp only [Exit.inBlock, Exit.then]; refine bodyPost_ret (results_none rfl _ _ _) rfl ?_) | refine bodyPost_ret (results_none rfl _ _ _) rfl ?_
      exact ⟨rfl, (HLW.out.bel.drew).setCell HLW.out.st.hG _, fun k hk h1 h2 => (Below.heap_setCell _ _ _ _ h1).trans (HLW.out.off k hk h1 h2), _, _, HOW.out _ (HLW.out.below (bel_d _)).st⟩
   ·go_wp2
    first | go_end0 | (simp only [Exit.inBlock, Exit.then]; refine bodyPost_ret (results_none rfl _ _ _) rfl ?_) | refine bodyPost_ret (results_none rfl _ _ _) rfl ?_
    exact ⟨rfl, HLW.out.bel, HLW.out.off, _, _, HL3.out _ HLW.out.st⟩
end Go.Proofs.YtgcmnkanjcfndaaGreatDoor
namespace Go.Proofs.YtgcmnkanjcfndaaGreatDoor
open Go.RowKit
set_option linter.unusedVariables false
set_option linter.unusedSimpArgs false
theorem step_app {P : Program} {w w' : World} {ops : Array Oper} {o : Oper} {a : Act} {K : Act → World → Prop} {Q : Exit → Act → World → Prop} {E : Prop} (hgd : o.guard = none) (s x : Operand) (t : TypeId)
  (ho : o.op = .call { callee := .builtin .append, args := #[s, x], argTypes := #[t, t] }) (v v2 v' : Value) (hs : a.eval s = v) (hx : a.eval x = v2) (hr : (Builtin.append_ #[t, t] o.type #[v, v2]).run P w = .ok v' w') (h : K (a.put o.dst v') w') :
  if Region.wanted o (yielded ops a.tmps) = true then Oper.wp P o a w K Q else E := by
 have hw : Region.wanted o (yielded ops a.tmps) = true := by simp [Region.wanted, hgd]
 rw [if_pos hw]
 unfold Oper.wp execOp
 simp only [ho, resolve, invoke, builtin, Sem.run_bind, Sem.run_pure, Result.andThen_ok, List.map_toArray, List.map_cons, List.map_nil, hs, hx, hr]
 exact h
section
variable {E G C n gi : Nat} {vs vo : Value} {V : World} {S : List Nat} {O : List Bk} {X : Nat → Bool}
theorem app_set (h : WX E G C n gi vs vo V S O X) (hS : S.length ≤ 16384) (x : Nat) :
  ∃ g cap w3, (Builtin.append_ #[90, 90] 90 #[vs, .slice (some ⟨V.heap.size, 0, none⟩) 1 1]).run Tryz.prog (V.drew.alloc (.cells #[.int .i64 (x : Int)] 3)) = .ok (.slice (some ⟨g, 0, none⟩) (S.length + 1) cap) w3 ∧ Below E V w3 ∧ w3.cell? ⟨G, 2, none⟩ = some vs ∧ w3.frozen? ⟨G, 2, none⟩ = false ∧
   WX E G C n gi (.slice (some ⟨g, 0, none⟩) (S.length + 1) cap) vo (w3.setCell ⟨G, 2, none⟩ (.slice (some ⟨g, 0, none⟩) (S.length + 1) cap)) (S ++ [x]) O X := by
 obtain ⟨i0, hi0, hz0, hz1, hz2⟩ := info_parts info_Int
 have hb0 : Below V.heap.size V (V.drew.alloc (.cells #[.int .i64 (x : Int)] 3)) := bel (bel_d V) (bel_alloc _ _)
 have h0 := h.below hb0
 have hlt0 := h.lt
 obtain ⟨g, cap, w3, hr, hown, hgrow, hat, hlt⟩ := run_append_lies (P := Tryz.prog) (V.drew.alloc (.cells #[.int .i64 (x : Int)] 3)) 90 90 E 3 i0 _ 1 8 Tryz.underlying90 hi0 hz0 hz1 hz2 rfl (by decide) vs S.length (setC S) h0.set ⟨V.heap.size, 0, none⟩ 1 1 [.int .i64 (x : Int)] rfl
  (World.news_of_block (cs := #[.int .i64 (x : Int)]) (t := 3) (fr := (0, 0)) (heap_alloc_new V.drew _)) (by simp [Value.oneCell']) (by decide) (by unfold maxLen; omega) (by omega) (by simp; omega) _ rfl
 obtain ⟨k1, k2, -, k4⟩ := h0.grown hgrow (.inr rfl)
 have hG := h.g.lt
 have hgi := h.i.lt
 have hsz : (V.drew.alloc (.cells #[.int .i64 (x : Int)] 3)).heap.size = V.heap.size + 1 := by simp
 have m2 : g ≠ G := by
  rcases hat with hat | hat
  ·exact fun e => h.n2 (e ▸ hat)
  ·omega
 have m3 : g ≠ gi := by
  rcases hat with hat | hat
  ·exact fun e => h.n3 (e ▸ hat)
  ·omega
 have m6 : ∀ b, vo.ownBlock = some b → g ≠ b := fun b hb e => by
  rcases hat with hat | hat
  ·exact h.n6 g hat (e ▸ hb)
  ·have := (h.opn.lt b hb).2; omega
 have hV3 : WX E G C n gi vs vo w3 S O X → True := fun _ => trivial
 have hn : (S ++ [x]).length = S.length + 1 := by simp
 have o4 := k4 rfl
 refine ⟨g, cap, w3, hr, ?_, k1.cell (i := 2) (by decide), k1.frozen 2, ?_⟩
 ·exact (hb0.mono hlt0).grown hgrow (by omega) (fun q e => (h0.set.lt q e).1)
 ·have nb : ∀ b, b ≠ G → (w3.setCell ⟨G, 2, none⟩ (.slice (some ⟨g, 0, none⟩) (S.length + 1) cap)).heap[b]? = w3.heap[b]? := fun b hb => Below.heap_setCell _ _ _ _ hb
  refine ⟨(k1.set 2 _).congr fun j hj => ?_, k2.of_block (nb _ h.n1), ?_, own_keep o4 fun b hb => nb b fun e => h.n4 (e ▸ hb), h.hG, h.hgi, h.n1, fun e => m2 (Option.some.inj e), fun e => m3 (Option.some.inj e), h.n4, h.n5, fun b e hb => m6 b hb (Option.some.inj e)⟩
  ·unfold wkF
   obtain rfl | rfl | rfl | rfl : j = 0 ∨ j = 1 ∨ j = 2 ∨ j = 3 := by omega
   all_goals rfl
  ·rw [hn, setC_snoc]
   exact own_keep hown fun b hb => nb b fun e => m2 (by rw [← e]; exact Option.some.inj hb)
theorem app_open (h : WX E G C n gi vs vo V S O X) (hO : O.length ≤ 64) (L : Bool) (P : Int) (A : Nat) :
  ∃ g cap w3, (Builtin.append_ #[91, 91] 91 #[vo, .slice (some ⟨V.heap.size, 0, none⟩) 1 1]).run Tryz.prog (V.drew.alloc (.cells #[.bool L, .int .i64 P, .int .i64 (A : Int)] 165)) = .ok (.slice (some ⟨g, 0, none⟩) (O.length + 1) cap) w3 ∧ Below E V w3 ∧ w3.cell? ⟨G, 3, none⟩ = some vo ∧ w3.frozen? ⟨G, 3, none⟩ = false ∧ w3.cell? ⟨G, 2, none⟩ = some vs ∧
   (∀ a, a.block < V.heap.size → vo.ownBlock ≠ some a.block → w3.cell? a = V.cell? a) ∧
   WX E G C n gi vs (.slice (some ⟨g, 0, none⟩) (O.length + 1) cap) (w3.setCell ⟨G, 3, none⟩ (.slice (some ⟨g, 0, none⟩) (O.length + 1) cap)) S (⟨L, P, A⟩ :: O) X := by
 obtain ⟨i0, hi0, hz0, hz1, hz2⟩ := info_parts info_Block
 have hb0 : Below V.heap.size V (V.drew.alloc (.cells #[.bool L, .int .i64 P, .int .i64 (A : Int)] 165)) := bel (bel_d V) (bel_alloc _ _)
 have h0 := h.below hb0
 have hlt0 := h.lt
 obtain ⟨g, cap, w3, hr, hown, hgrow, hat, hlt⟩ := run_append_lies (P := Tryz.prog) (V.drew.alloc (.cells #[.bool L, .int .i64 P, .int .i64 (A : Int)] 165)) 91 91 E 165 i0 _ 3 24 Tryz.underlying91 hi0 hz0 hz1 hz2 rfl (by decide) vo O.length (cellsB O.reverse) h0.opn ⟨V.heap.size, 0, none⟩ 1 1 (bkC ⟨L, P, A⟩) rfl
  (World.news_of_block (cs := #[.bool L, .int .i64 P, .int .i64 (A : Int)]) (t := 165) (fr := (0, 0)) (heap_alloc_new V.drew _)) (by simp [bkC, Value.oneCell']) (by decide) (by unfold maxLen; omega) (by omega) (by simp; omega) _ rfl
 obtain ⟨k1, k2, k3, -⟩ := h0.grown hgrow (.inl rfl)
 have hG := h.g.lt
 have hgi := h.i.lt
 have hsz : (V.drew.alloc (.cells #[.bool L, .int .i64 P, .int .i64 (A : Int)] 165)).heap.size = V.heap.size + 1 := by simp
 have m2 : g ≠ G := by
  rcases hat with hat | hat
  ·exact fun e => h.n4 (e ▸ hat)
  ·omega
 have m3 : g ≠ gi := by
  rcases hat with hat | hat
  ·exact fun e => h.n5 (e ▸ hat)
  ·omega
 have m6 : ∀ b, vs.ownBlock = some b → g ≠ b := fun b hb e => by
  rcases hat with hat | hat
  ·exact h.n6 b hb (e ▸ hat)
  ·have := (h.set.lt b hb).2; omega
 have o3 := k3 rfl
 refine ⟨g, cap, w3, hr, ?_, k1.cell (i := 3) (by decide), k1.frozen 3, k1.cell (i := 2) (by decide), fun a ha hb => ?_, ?_⟩
 ·exact (hb0.mono hlt0).grown hgrow (by omega) (fun q e => (h0.opn.lt q e).1)
 ·rw [World.cell?_of_block (hgrow.block a.block (by omega) (Ne.symm hb)), hb0.cell ha]
 ·have nb : ∀ b, b ≠ G → (w3.setCell ⟨G, 3, none⟩ (.slice (some ⟨g, 0, none⟩) (O.length + 1) cap)).heap[b]? = w3.heap[b]? := fun b hb => Below.heap_setCell _ _ _ _ hb
  refine ⟨(k1.set 3 _).congr fun j hj => ?_, k2.of_block (nb _ h.n1), own_keep o3 fun b hb => nb b fun e => h.n2 (e ▸ hb), ?_, h.hG, h.hgi, h.n1, h.n2, h.n3, fun e => m2 (Option.some.inj e), fun e => m3 (Option.some.inj e), fun b hb e => m6 b hb (Option.some.inj e)⟩
  ·unfold wkF
   obtain rfl | rfl | rfl | rfl : j = 0 ∨ j = 1 ∨ j = 2 ∨ j = 3 := by omega
   all_goals rfl
  ·rw [List.reverse_cons, cellsB_snoc]
   exact own_keep hown fun b hb => nb b fun e => m2 (by rw [← e]; exact Option.some.inj hb)
end
end Go.Proofs.YtgcmnkanjcfndaaGreatDoor
