import Derived.Test.YtgcmnkanjcfndaaGreatDoorTxt1
import Derived.Test.YtgcmnkanjcfndaaGreatDoorTxt2
namespace Go.Proofs.YtgcmnkanjcfndaaGreatDoor
open Go.RowKit
set_option linter.unusedVariables false
set_option linter.unusedSimpArgs false
set_option maxRecDepth 100000 in
set_option maxHeartbeats 1000000 in
theorem registersOf_any (b o : Nat) (i : Ins) (w : World) (hi : CellsAt w b o (inC i)) :
  Calls Tryz.prog 105 #[.pointer (some ⟨b, o, none⟩)] w fun e w' => e = .returned (.agg #[.int .i64 i.d, .int .i64 i.a, .int .i64 i.b, .int .i64 i.c]) ∧ Below w.heap.size w w' := by
 have e1 := hi.at 1 rfl
 have e2 := hi.at 2 rfl
 have e3 := hi.at 3 rfl
 have e4 := hi.at 4 rfl
 have hb := mcell_lt e1
 simp only at hb
 have n1 : b ≠ w.heap.size := by omega
 have f1 : (w.alloc (.cells #[.int .i64 0, .int .i64 0, .int .i64 0, .int .i64 0] 160)).cell? ⟨b, o + 1, none⟩ = some (.int .i64 i.d) := kc (bel_alloc w _) e1
 have f2 : (w.alloc (.cells #[.int .i64 0, .int .i64 0, .int .i64 0, .int .i64 0] 160)).cell? ⟨b, o + 2, none⟩ = some (.int .i64 i.a) := kc (bel_alloc w _) e2
 have f3 : (w.alloc (.cells #[.int .i64 0, .int .i64 0, .int .i64 0, .int .i64 0] 160)).cell? ⟨b, o + 3, none⟩ = some (.int .i64 i.b) := kc (bel_alloc w _) e3
 have f4 : (w.alloc (.cells #[.int .i64 0, .int .i64 0, .int .i64 0, .int .i64 0] 160)).cell? ⟨b, o + 4, none⟩ = some (.int .i64 i.c) := kc (bel_alloc w _) e4
 clear hi
 go_enter Tryz.func105, Tryz.ntmps105
 go_wp2
 refine wp_region_held_drew (S := (fun v => v.cell? ⟨b, o + 1, none⟩ = some (.int .i64 i.d) ∧ v.cell? ⟨b, o + 2, none⟩ = some (.int .i64 i.a) ∧ v.cell? ⟨b, o + 3, none⟩ = some (.int .i64 i.b) ∧ v.cell? ⟨b, o + 4, none⟩ = some (.int .i64 i.c))) (by kernel_rfl) ?_ (fun hHeld => ?_)
 ·((try dsimp only); go_keep)
 refine tkT 0 ?_
 refine tkT 1 ?_
 refine tkT 2 ?_
 refine tkT 3 ?_
 refine tkT 4 ?_
 refine tkT 5 ?_
 refine tkT 6 ?_
 refine tkT 7 ?_
 refine tkT 8 ?_
 refine tkT 9 ?_
 refine tkT 10 ?_
 refine tkT 11 ?_
 refine tkT 12 ?_
 refine tkT 13 ?_
 refine tkT 14 ?_
 refine tkT 15 ?_
 refine tkT 16 ?_
 clear hHeld
 refine wpAnyH_ready (rs := [17]) (by kernel_rfl) (by simp) ?_
 refine AllReadyH.cons (i := 17) (by simp only [List.getElem?_toArray, List.getElem?_cons_succ, List.getElem?_cons_zero]; rfl) (fun K hK => ?_) AllReadyH.nil
 go_simp
 refine hK.out _ _ ?_ (fun hHeld => ?_)
 ·((try dsimp only); go_keep)
 clear hK K
 try simp only [Act.put, List.setIfInBounds_toArray, List.set_cons_zero, List.set_cons_succ]
 refine wpAnyH_done (by kernel_rfl) ?_ _
 go_wp2
 refine bodyPost_ret (by simp [results, Tryz.results105, go_sem, *]; try rfl) rfl ?_
 exact ⟨rfl, by go_grown⟩
theorem ix4 (D A B E : Int) (w : World) :
  (Instr.index 160 (.agg #[.int .i64 D, .int .i64 A, .int .i64 B, .int .i64 E]) (.int .i64 0)).run Tryz.prog w = .ok (.int .i64 D) w ∧
  (Instr.index 160 (.agg #[.int .i64 D, .int .i64 A, .int .i64 B, .int .i64 E]) (.int .i64 1)).run Tryz.prog w = .ok (.int .i64 A) w ∧
  (Instr.index 160 (.agg #[.int .i64 D, .int .i64 A, .int .i64 B, .int .i64 E]) (.int .i64 2)).run Tryz.prog w = .ok (.int .i64 B) w ∧
  (Instr.index 160 (.agg #[.int .i64 D, .int .i64 A, .int .i64 B, .int .i64 E]) (.int .i64 3)).run Tryz.prog w = .ok (.int .i64 E) w := by
 refine ⟨?_, ?_, ?_, ?_⟩ <;> simp [Instr.index, run_underlying Tryz.underlying160, asIntOf, part, go_sem]
structure FW (w : World) (G : Nat) (L0 L1 L2 L3 L4 K P : Int) (v : World) : Prop where
 bel : Below w.heap.size w v
 r0 : v.cell? ⟨w.heap.size, 0, none⟩ = some (.int .i64 L0)
 r1 : v.cell? ⟨w.heap.size, 1, none⟩ = some (.int .i64 L1)
 r2 : v.cell? ⟨w.heap.size, 2, none⟩ = some (.int .i64 L2)
 r3 : v.cell? ⟨w.heap.size, 3, none⟩ = some (.int .i64 L3)
 r4 : v.cell? ⟨w.heap.size, 4, none⟩ = some (.int .i64 L4)
 m0 : v.cell? ⟨G, 0, none⟩ = some (.int .i64 K)
 m1 : v.cell? ⟨G, 1, none⟩ = some (.int .i64 P)
theorem FW.next {w : World} {G : Nat} {L0 L1 L2 L3 L4 K P : Int} {v v' : World} (h : FW w G L0 L1 L2 L3 L4 K P v) (k : Below v.heap.size v v') : FW w G L0 L1 L2 L3 L4 K P v' :=
 ⟨Go.Proofs.YtgcmnkanjcfndaaGreatDoor.bel h.bel k, kc k h.r0, kc k h.r1, kc k h.r2, kc k h.r3, kc k h.r4, kc k h.m0, kc k h.m1⟩
set_option maxRecDepth 100000 in
set_option maxHeartbeats 4000000 in
theorem fits_any (C : Nat) (v0 v1 v2 v3 : Value) (c : Cd) (hk : CdOk c) (b o : Nat) (i : Ins) (r : Rw) (w : World) (hc : CdAt w C v0 v1 v2 v3 c) (hi : CellsAt w b o (inC i)) (h0 : 0 ≤ i.bits) (h1 : i.bits < 4294967296)
  (hp : fitsReg c.regs r.d i.d (mainT c.regs i r) = true → fitsReg c.regs r.a i.a (mainT c.regs i r) = true → r.n = 9 → isPl (mainT c.regs i r).par c.sign.length = true) :
  Calls Tryz.prog 73 #[.pointer (some ⟨C, 0, none⟩), .pointer (some ⟨b, o, none⟩), rwV r] w fun e w' => e = .returned (.bool (fitsC c i r)) ∧ Below w.heap.size w w' := by
 have KM := fun w h k => mainType_any C v0 v1 v2 v3 c hk b o i r w h k
 have KR := fun w k => registersOf_any b o i w k
 have K0 := fun w h => fitsRegister_any C v0 v1 v2 v3 c hk r.d i.d (mainT c.regs i r) w h
 have K1 := fun w h => fitsRegister_any C v0 v1 v2 v3 c hk r.a i.a (mainT c.regs i r) w h
 have K2 := fun w h => fitsRegister_any C v0 v1 v2 v3 c hk r.b i.b (mainT c.regs i r) w h
 have K3 := fun w h => fitsRegister_any C v0 v1 v2 v3 c hk r.c i.c (mainT c.regs i r) w h
 have K4 := fun hq w h k => fitsRest_any C v0 v1 v2 v3 c hk b o i r.n (mainT c.regs i r) w h k h0 h1 hq
 have HC0 : Hid (CdAt w C v0 v1 v2 v3 c) := hc
 have HI0 : Hid (CellsAt w b o (inC i)) := hi
 have hfc : fitsC c i r = (fitsReg c.regs r.d i.d (mainT c.regs i r) && (fitsReg c.regs r.a i.a (mainT c.regs i r) && (fitsReg c.regs r.b i.b (mainT c.regs i r) && (fitsReg c.regs r.c i.c (mainT c.regs i r) && fitsRest c i r.n (mainT c.regs i r))))) := rfl
 rw [hfc]
 clear hfc hc hi hk h0 h1
 obtain ⟨M, hM⟩ : ∃ M, mainT c.regs i r = M := ⟨_, rfl⟩
 simp only [hM] at KM K0 K1 K2 K3 K4 hp ⊢
 obtain ⟨X0, hX0⟩ : ∃ X, fitsReg c.regs r.d i.d M = X := ⟨_, rfl⟩
 obtain ⟨X1, hX1⟩ : ∃ X, fitsReg c.regs r.a i.a M = X := ⟨_, rfl⟩
 obtain ⟨X2, hX2⟩ : ∃ X, fitsReg c.regs r.b i.b M = X := ⟨_, rfl⟩
 obtain ⟨X3, hX3⟩ : ∃ X, fitsReg c.regs r.c i.c M = X := ⟨_, rfl⟩
 obtain ⟨Y, hY⟩ : ∃ X, fitsRest c i r.n M = X := ⟨_, rfl⟩
 simp only [hX0] at K0 hp ⊢
 simp only [hX1] at K1 hp ⊢
 simp only [hX2] at K2 ⊢
 simp only [hX3] at K3 ⊢
 simp only [hY] at K4 ⊢
 obtain ⟨L0, L1, L2, L3, L4⟩ := r
 obtain ⟨K, P⟩ := M
 obtain ⟨io, D, A, B, E, n, bt⟩ := i
 unfold rwV at KM ⊢
 unfold tyV at KM K0 K1 K2 K3 K4
 simp only at KM KR K0 K1 K2 K3 K4 hp ⊢
 have HKM : Hid (∀ w, CdAt w C v0 v1 v2 v3 c → CellsAt w b o (inC ⟨io, D, A, B, E, n, bt⟩) → Calls Tryz.prog 104 #[.pointer (some ⟨C, 0, none⟩), .pointer (some ⟨b, o, none⟩), .agg #[.int .i64 L0, .int .i64 L1, .int .i64 L2, .int .i64 L3, .int .i64 L4]] w fun e w' => e = .returned (.agg #[.int .i64 K, .int .i64 P]) ∧ Below w.heap.size w w') := KM
 have HKR : Hid (∀ w, CellsAt w b o (inC ⟨io, D, A, B, E, n, bt⟩) → Calls Tryz.prog 105 #[.pointer (some ⟨b, o, none⟩)] w fun e w' => e = .returned (.agg #[.int .i64 D, .int .i64 A, .int .i64 B, .int .i64 E]) ∧ Below w.heap.size w w') := KR
 have HK0 : Hid (∀ w, CdAt w C v0 v1 v2 v3 c → Calls Tryz.prog 106 #[.pointer (some ⟨C, 0, none⟩), .int .i64 L0, .int .i64 D, .agg #[.int .i64 K, .int .i64 P]] w fun e w' => e = .returned (.bool X0) ∧ Below w.heap.size w w') := K0
 have HK1 : Hid (∀ w, CdAt w C v0 v1 v2 v3 c → Calls Tryz.prog 106 #[.pointer (some ⟨C, 0, none⟩), .int .i64 L1, .int .i64 A, .agg #[.int .i64 K, .int .i64 P]] w fun e w' => e = .returned (.bool X1) ∧ Below w.heap.size w w') := K1
 have HK2 : Hid (∀ w, CdAt w C v0 v1 v2 v3 c → Calls Tryz.prog 106 #[.pointer (some ⟨C, 0, none⟩), .int .i64 L2, .int .i64 B, .agg #[.int .i64 K, .int .i64 P]] w fun e w' => e = .returned (.bool X2) ∧ Below w.heap.size w w') := K2
 have HK3 : Hid (∀ w, CdAt w C v0 v1 v2 v3 c → Calls Tryz.prog 106 #[.pointer (some ⟨C, 0, none⟩), .int .i64 L3, .int .i64 E, .agg #[.int .i64 K, .int .i64 P]] w fun e w' => e = .returned (.bool X3) ∧ Below w.heap.size w w') := K3
 have HK4 : Hid ((L4 = 9 → isPl P c.sign.length = true) → ∀ w, CdAt w C v0 v1 v2 v3 c → CellsAt w b o (inC ⟨io, D, A, B, E, n, bt⟩) → Calls Tryz.prog 107 #[.pointer (some ⟨C, 0, none⟩), .pointer (some ⟨b, o, none⟩), .int .i64 L4, .agg #[.int .i64 K, .int .i64 P]] w fun e w' => e = .returned (.bool Y) ∧ Below w.heap.size w w') := K4
 have HP : Hid (X0 = true → X1 = true → L4 = 9 → isPl P c.sign.length = true) := hp
 clear KM KR K0 K1 K2 K3 K4 hp hM hX0 hX1 hX2 hX3 hY
 go_enter Tryz.func73, Tryz.ntmps73
 go_wp2_with (first
  | (go_at_call 104; refine (HKM.out _ (HC0.out.below (bel_alloc _ _)) (HI0.out.below (bel_alloc _ _))).mono ?_; rintro e w1 ⟨rfl, hb1⟩; have HF1 : Hid (FW w w1.heap.size L0 L1 L2 L3 L4 K P (w1.alloc (.cells #[.int .i64 K, .int .i64 P] 50))) := (by exact ⟨bel (bel (bel_alloc _ _) hb1) (bel_alloc _ _), kc (bel_alloc _ _) (kc hb1 (by simp [go_sem])), kc (bel_alloc _ _) (kc hb1 (by simp [go_sem])), kc (bel_alloc _ _) (kc hb1 (by simp [go_sem])), kc (bel_alloc _ _) (kc hb1 (by simp [go_sem])), kc (bel_alloc _ _) (kc hb1 (by simp [go_sem])), by simp [go_sem], by simp [go_sem]⟩))
  | (go_at_call 105; refine (HKR.out _ (HI0.out.below HF1.out.bel)).mono ?_; rintro e w2 ⟨rfl, hb2⟩; have HF2 : Hid (FW w w1.heap.size L0 L1 L2 L3 L4 K P w2) := HF1.out.next hb2))
 obtain ⟨G, hG⟩ : ∃ G, w1.heap.size = G := ⟨_, rfl⟩
 rw [hG] at HF2 ⊢
 go_loopw [16] (fun iv wr => FW w G L0 L1 L2 L3 L4 K P wr ∧ ∃ j : Nat, j ≤ 4 ∧ iv = .int .i64 j ∧ Hid ((0 < j → X0 = true) ∧ (1 < j → X1 = true) ∧ (2 < j → X2 = true) ∧ (3 < j → X3 = true))) (fun iv _ => 4 - (intOf iv).toNat)
 case atStart => exact ⟨HF2.out, 0, by omega, rfl, ⟨fun h => absurd h (by omega), fun h => absurd h (by omega), fun h => absurd h (by omega), fun h => absurd h (by omega)⟩⟩
 case round =>
  clear HF1 HF2 HKM HKR hb1 hb2 hG
  obtain ⟨hF, j, hj, rfl, hp⟩ := hrel
  have m0 := hF.m0
  have m1 := hF.m1
  have HF : Hid (FW w G L0 L1 L2 L3 L4 K P wr) := hF
  have HC : Hid (∀ v, Below wr.heap.size wr v → FW w G L0 L1 L2 L3 L4 K P v) := fun v hv => HF.out.next hv
  obtain rfl | rfl | rfl | rfl | rfl : j = 0 ∨ j = 1 ∨ j = 2 ∨ j = 3 ∨ j = 4 := by omega
  ·have r0 := hF.r0
   have ix : ∀ w, (Instr.index 160 (.agg #[.int .i64 D, .int .i64 A, .int .i64 B, .int .i64 E]) (.int .i64 0)).run Tryz.prog w = .ok (.int .i64 D) w := fun w => (ix4 D A B E w).1
   clear hF
   have HC1 : Hid (∀ v, Below wr.heap.size wr v → v.cell? ⟨w.heap.size, 0, none⟩ = some (.int .i64 L0) ∧ v.cell? ⟨G, 0, none⟩ = some (.int .i64 K) ∧ v.cell? ⟨G, 1, none⟩ = some (.int .i64 P)) := fun v hv => ⟨(HC.out v hv).r0, (HC.out v hv).m0, (HC.out v hv).m1⟩
   cases X0
   ·go_wp2
    refine wp_region_held_drew (S := (fun v => v.cell? ⟨w.heap.size, 0, none⟩ = some (.int .i64 L0) ∧ v.cell? ⟨G, 0, none⟩ = some (.int .i64 K) ∧ v.cell? ⟨G, 1, none⟩ = some (.int .i64 P))) (by kernel_rfl) ?_ (fun hHeld => ?_)
    ·((try dsimp only); go_keep)
    refine tkT 0 ?_
    refine tkT 1 ?_
    refine tkT 2 ?_
    refine tkT 3 ?_
    refine tkT 4 ?_
    refine tkT 5 ?_
    clear hHeld
    refine wpAnyH_ready (rs := [6]) (by kernel_rfl) (by simp) ?_
    refine AllReadyH.cons (i := 6) (by simp only [List.getElem?_toArray, List.getElem?_cons_succ, List.getElem?_cons_zero]; rfl) (fun K hK => ?_) AllReadyH.nil
    go_simp
    (go_at_call 106; refine (HK0.out _ ((HC0.out.below HF.out.bel).below (bel_d _))).mono ?_; rintro e w3 ⟨rfl, hb3⟩; have HB3 := bel (bel_d _) hb3; obtain ⟨y0, y1, y2⟩ := HC1.out w3 HB3)
    try (go_wp2_with fail)
    refine hK.out _ _ ?_ (fun hHeld => ?_)
    ·((try dsimp only); go_keep)
    clear hK K
    try simp only [Act.put, List.setIfInBounds_toArray, List.set_cons_zero, List.set_cons_succ]
    refine tkT 7 ?_
    refine wpAnyH_done (by kernel_rfl) ?_ _
    go_wp2
    go_ret
    exact ⟨ret_bool (by simp), (HC.out w3 HB3).bel⟩
   ·go_wp2
    refine wp_region_held_drew (S := (fun v => v.cell? ⟨w.heap.size, 0, none⟩ = some (.int .i64 L0) ∧ v.cell? ⟨G, 0, none⟩ = some (.int .i64 K) ∧ v.cell? ⟨G, 1, none⟩ = some (.int .i64 P))) (by kernel_rfl) ?_ (fun hHeld => ?_)
    ·((try dsimp only); go_keep)
    refine tkT 0 ?_
    refine tkT 1 ?_
    refine tkT 2 ?_
    refine tkT 3 ?_
    refine tkT 4 ?_
    refine tkT 5 ?_
    clear hHeld
    refine wpAnyH_ready (rs := [6]) (by kernel_rfl) (by simp) ?_
    refine AllReadyH.cons (i := 6) (by simp only [List.getElem?_toArray, List.getElem?_cons_succ, List.getElem?_cons_zero]; rfl) (fun K hK => ?_) AllReadyH.nil
    go_simp
    (go_at_call 106; refine (HK0.out _ ((HC0.out.below HF.out.bel).below (bel_d _))).mono ?_; rintro e w3 ⟨rfl, hb3⟩; have HB3 := bel (bel_d _) hb3; obtain ⟨y0, y1, y2⟩ := HC1.out w3 HB3)
    try (go_wp2_with fail)
    refine hK.out _ _ ?_ (fun hHeld => ?_)
    ·((try dsimp only); go_keep)
    clear hK K
    try simp only [Act.put, List.setIfInBounds_toArray, List.set_cons_zero, List.set_cons_succ]
    refine tkT 7 ?_
    refine wpAnyH_done (by kernel_rfl) ?_ _
    go_wp2
    go_roundw
    case rel => exact ⟨HC.out w3 HB3, 1, by omega, by first | rfl | go_num, ⟨fun _ => (by first | rfl | trivial), fun h => absurd h (by omega), fun h => absurd h (by omega), fun h => absurd h (by omega)⟩⟩
    case measure => simp [intOf]
  ·have r0 := hF.r1
   have ix : ∀ w, (Instr.index 160 (.agg #[.int .i64 D, .int .i64 A, .int .i64 B, .int .i64 E]) (.int .i64 1)).run Tryz.prog w = .ok (.int .i64 A) w := fun w => (ix4 D A B E w).2.1
   clear hF
   have HC1 : Hid (∀ v, Below wr.heap.size wr v → v.cell? ⟨w.heap.size, 1, none⟩ = some (.int .i64 L1) ∧ v.cell? ⟨G, 0, none⟩ = some (.int .i64 K) ∧ v.cell? ⟨G, 1, none⟩ = some (.int .i64 P)) := fun v hv => ⟨(HC.out v hv).r1, (HC.out v hv).m0, (HC.out v hv).m1⟩
   cases X1
   ·go_wp2
    refine wp_region_held_drew (S := (fun v => v.cell? ⟨w.heap.size, 1, none⟩ = some (.int .i64 L1) ∧ v.cell? ⟨G, 0, none⟩ = some (.int .i64 K) ∧ v.cell? ⟨G, 1, none⟩ = some (.int .i64 P))) (by kernel_rfl) ?_ (fun hHeld => ?_)
    ·((try dsimp only); go_keep)
    refine tkT 0 ?_
    refine tkT 1 ?_
    refine tkT 2 ?_
    refine tkT 3 ?_
    refine tkT 4 ?_
    refine tkT 5 ?_
    clear hHeld
    refine wpAnyH_ready (rs := [6]) (by kernel_rfl) (by simp) ?_
    refine AllReadyH.cons (i := 6) (by simp only [List.getElem?_toArray, List.getElem?_cons_succ, List.getElem?_cons_zero]; rfl) (fun K hK => ?_) AllReadyH.nil
    go_simp
    (go_at_call 106; refine (HK1.out _ ((HC0.out.below HF.out.bel).below (bel_d _))).mono ?_; rintro e w3 ⟨rfl, hb3⟩; have HB3 := bel (bel_d _) hb3; obtain ⟨y0, y1, y2⟩ := HC1.out w3 HB3)
    try (go_wp2_with fail)
    refine hK.out _ _ ?_ (fun hHeld => ?_)
    ·((try dsimp only); go_keep)
    clear hK K
    try simp only [Act.put, List.setIfInBounds_toArray, List.set_cons_zero, List.set_cons_succ]
    refine tkT 7 ?_
    refine wpAnyH_done (by kernel_rfl) ?_ _
    go_wp2
    go_ret
    exact ⟨ret_bool (by simp), (HC.out w3 HB3).bel⟩
   ·go_wp2
    refine wp_region_held_drew (S := (fun v => v.cell? ⟨w.heap.size, 1, none⟩ = some (.int .i64 L1) ∧ v.cell? ⟨G, 0, none⟩ = some (.int .i64 K) ∧ v.cell? ⟨G, 1, none⟩ = some (.int .i64 P))) (by kernel_rfl) ?_ (fun hHeld => ?_)
    ·((try dsimp only); go_keep)
    refine tkT 0 ?_
    refine tkT 1 ?_
    refine tkT 2 ?_
    refine tkT 3 ?_
    refine tkT 4 ?_
    refine tkT 5 ?_
    clear hHeld
    refine wpAnyH_ready (rs := [6]) (by kernel_rfl) (by simp) ?_
    refine AllReadyH.cons (i := 6) (by simp only [List.getElem?_toArray, List.getElem?_cons_succ, List.getElem?_cons_zero]; rfl) (fun K hK => ?_) AllReadyH.nil
    go_simp
    (go_at_call 106; refine (HK1.out _ ((HC0.out.below HF.out.bel).below (bel_d _))).mono ?_; rintro e w3 ⟨rfl, hb3⟩; have HB3 := bel (bel_d _) hb3; obtain ⟨y0, y1, y2⟩ := HC1.out w3 HB3)
    try (go_wp2_with fail)
    refine hK.out _ _ ?_ (fun hHeld => ?_)
    ·((try dsimp only); go_keep)
    clear hK K
    try simp only [Act.put, List.setIfInBounds_toArray, List.set_cons_zero, List.set_cons_succ]
    refine tkT 7 ?_
    refine wpAnyH_done (by kernel_rfl) ?_ _
    go_wp2
    go_roundw
    case rel => exact ⟨HC.out w3 HB3, 2, by omega, by first | rfl | go_num, ⟨fun _ => hp.out.1 (by omega), fun _ => (by first | rfl | trivial), fun h => absurd h (by omega), fun h => absurd h (by omega)⟩⟩
    case measure => simp [intOf]
  ·have r0 := hF.r2
   have ix : ∀ w, (Instr.index 160 (.agg #[.int .i64 D, .int .i64 A, .int .i64 B, .int .i64 E]) (.int .i64 2)).run Tryz.prog w = .ok (.int .i64 B) w := fun w => (ix4 D A B E w).2.2.1
   clear hF
   have HC1 : Hid (∀ v, Below wr.heap.size wr v → v.cell? ⟨w.heap.size, 2, none⟩ = some (.int .i64 L2) ∧ v.cell? ⟨G, 0, none⟩ = some (.int .i64 K) ∧ v.cell? ⟨G, 1, none⟩ = some (.int .i64 P)) := fun v hv => ⟨(HC.out v hv).r2, (HC.out v hv).m0, (HC.out v hv).m1⟩
   cases X2
   ·go_wp2
    refine wp_region_held_drew (S := (fun v => v.cell? ⟨w.heap.size, 2, none⟩ = some (.int .i64 L2) ∧ v.cell? ⟨G, 0, none⟩ = some (.int .i64 K) ∧ v.cell? ⟨G, 1, none⟩ = some (.int .i64 P))) (by kernel_rfl) ?_ (fun hHeld => ?_)
    ·((try dsimp only); go_keep)
    refine tkT 0 ?_
    refine tkT 1 ?_
    refine tkT 2 ?_
    refine tkT 3 ?_
    refine tkT 4 ?_
    refine tkT 5 ?_
    clear hHeld
    refine wpAnyH_ready (rs := [6]) (by kernel_rfl) (by simp) ?_
    refine AllReadyH.cons (i := 6) (by simp only [List.getElem?_toArray, List.getElem?_cons_succ, List.getElem?_cons_zero]; rfl) (fun K hK => ?_) AllReadyH.nil
    go_simp
    (go_at_call 106; refine (HK2.out _ ((HC0.out.below HF.out.bel).below (bel_d _))).mono ?_; rintro e w3 ⟨rfl, hb3⟩; have HB3 := bel (bel_d _) hb3; obtain ⟨y0, y1, y2⟩ := HC1.out w3 HB3)
    try (go_wp2_with fail)
    refine hK.out _ _ ?_ (fun hHeld => ?_)
    ·((try dsimp only); go_keep)
    clear hK K
    try simp only [Act.put, List.setIfInBounds_toArray, List.set_cons_zero, List.set_cons_succ]
    refine tkT 7 ?_
    refine wpAnyH_done (by kernel_rfl) ?_ _
    go_wp2
    go_ret
    exact ⟨ret_bool (by simp), (HC.out w3 HB3).bel⟩
   ·go_wp2
    refine wp_region_held_drew (S := (fun v => v.cell? ⟨w.heap.size, 2, none⟩ = some (.int .i64 L2) ∧ v.cell? ⟨G, 0, none⟩ = some (.int .i64 K) ∧ v.cell? ⟨G, 1, none⟩ = some (.int .i64 P))) (by kernel_rfl) ?_ (fun hHeld => ?_)
    ·((try dsimp only); go_keep)
    refine tkT 0 ?_
    refine tkT 1 ?_
    refine tkT 2 ?_
    refine tkT 3 ?_
    refine tkT 4 ?_
    refine tkT 5 ?_
    clear hHeld
    refine wpAnyH_ready (rs := [6]) (by kernel_rfl) (by simp) ?_
    refine AllReadyH.cons (i := 6) (by simp only [List.getElem?_toArray, List.getElem?_cons_succ, List.getElem?_cons_zero]; rfl) (fun K hK => ?_) AllReadyH.nil
    go_simp
    (go_at_call 106; refine (HK2.out _ ((HC0.out.below HF.out.bel).below (bel_d _))).mono ?_; rintro e w3 ⟨rfl, hb3⟩; have HB3 := bel (bel_d _) hb3; obtain ⟨y0, y1, y2⟩ := HC1.out w3 HB3)
    try (go_wp2_with fail)
    refine hK.out _ _ ?_ (fun hHeld => ?_)
    ·((try dsimp only); go_keep)
    clear hK K
    try simp only [Act.put, List.setIfInBounds_toArray, List.set_cons_zero, List.set_cons_succ]
    refine tkT 7 ?_
    refine wpAnyH_done (by kernel_rfl) ?_ _
    go_wp2
    go_roundw
    case rel => exact ⟨HC.out w3 HB3, 3, by omega, by first | rfl | go_num, ⟨fun _ => hp.out.1 (by omega), fun _ => hp.out.2.1 (by omega), fun _ => (by first | rfl | trivial), fun h => absurd h (by omega)⟩⟩
    case measure => simp [intOf]
  ·have r0 := hF.r3
   have ix : ∀ w, (Instr.index 160 (.agg #[.int .i64 D, .int .i64 A, .int .i64 B, .int .i64 E]) (.int .i64 3)).run Tryz.prog w = .ok (.int .i64 E) w := fun w => (ix4 D A B E w).2.2.2
   clear hF
   have HC1 : Hid (∀ v, Below wr.heap.size wr v → v.cell? ⟨w.heap.size, 3, none⟩ = some (.int .i64 L3) ∧ v.cell? ⟨G, 0, none⟩ = some (.int .i64 K) ∧ v.cell? ⟨G, 1, none⟩ = some (.int .i64 P)) := fun v hv => ⟨(HC.out v hv).r3, (HC.out v hv).m0, (HC.out v hv).m1⟩
   cases X3
   ·go_wp2
    refine wp_region_held_drew (S := (fun v => v.cell? ⟨w.heap.size, 3, none⟩ = some (.int .i64 L3) ∧ v.cell? ⟨G, 0, none⟩ = some (.int .i64 K) ∧ v.cell? ⟨G, 1, none⟩ = some (.int .i64 P))) (by kernel_rfl) ?_ (fun hHeld => ?_)
    ·((try dsimp only); go_keep)
    refine tkT 0 ?_
    refine tkT 1 ?_
    refine tkT 2 ?_
    refine tkT 3 ?_
    refine tkT 4 ?_
    refine tkT 5 ?_
    clear hHeld
    refine wpAnyH_ready (rs := [6]) (by kernel_rfl) (by simp) ?_
    refine AllReadyH.cons (i := 6) (by simp only [List.getElem?_toArray, List.getElem?_cons_succ, List.getElem?_cons_zero]; rfl) (fun K hK => ?_) AllReadyH.nil
    go_simp
    (go_at_call 106; refine (HK3.out _ ((HC0.out.below HF.out.bel).below (bel_d _))).mono ?_; rintro e w3 ⟨rfl, hb3⟩; have HB3 := bel (bel_d _) hb3; obtain ⟨y0, y1, y2⟩ := HC1.out w3 HB3)
    try (go_wp2_with fail)
    refine hK.out _ _ ?_ (fun hHeld => ?_)
    ·((try dsimp only); go_keep)
    clear hK K
    try simp only [Act.put, List.setIfInBounds_toArray, List.set_cons_zero, List.set_cons_succ]
    refine tkT 7 ?_
    refine wpAnyH_done (by kernel_rfl) ?_ _
    go_wp2
    go_ret
    exact ⟨ret_bool (by simp), (HC.out w3 HB3).bel⟩
   ·go_wp2
    refine wp_region_held_drew (S := (fun v => v.cell? ⟨w.heap.size, 3, none⟩ = some (.int .i64 L3) ∧ v.cell? ⟨G, 0, none⟩ = some (.int .i64 K) ∧ v.cell? ⟨G, 1, none⟩ = some (.int .i64 P))) (by kernel_rfl) ?_ (fun hHeld => ?_)
    ·((try dsimp only); go_keep)
    refine tkT 0 ?_
    refine tkT 1 ?_
    refine tkT 2 ?_
    refine tkT 3 ?_
    refine tkT 4 ?_
    refine tkT 5 ?_
    clear hHeld
    refine wpAnyH_ready (rs := [6]) (by kernel_rfl) (by simp) ?_
    refine AllReadyH.cons (i := 6) (by simp only [List.getElem?_toArray, List.getElem?_cons_succ, List.getElem?_cons_zero]; rfl) (fun K hK => ?_) AllReadyH.nil
    go_simp
    (go_at_call 106; refine (HK3.out _ ((HC0.out.below HF.out.bel).below (bel_d _))).mono ?_; rintro e w3 ⟨rfl, hb3⟩; have HB3 := bel (bel_d _) hb3; obtain ⟨y0, y1, y2⟩ := HC1.out w3 HB3)
    try (go_wp2_with fail)
    refine hK.out _ _ ?_ (fun hHeld => ?_)
    ·((try dsimp only); go_keep)
    clear hK K
    try simp only [Act.put, List.setIfInBounds_toArray, List.set_cons_zero, List.set_cons_succ]
    refine tkT 7 ?_
    refine wpAnyH_done (by kernel_rfl) ?_ _
    go_wp2
    go_roundw
    case rel => exact ⟨HC.out w3 HB3, 4, by omega, by first | rfl | go_num, ⟨fun _ => hp.out.1 (by omega), fun _ => hp.out.2.1 (by omega), fun _ => hp.out.2.2.1 (by omega), fun _ => (by first | rfl | trivial)⟩⟩
    case measure => simp [intOf]
  ·have r4 := hF.r4
   obtain ⟨rfl, rfl, rfl, rfl⟩ : X0 = true ∧ X1 = true ∧ X2 = true ∧ X3 = true := ⟨hp.out.1 (by omega), hp.out.2.1 (by omega), hp.out.2.2.1 (by omega), hp.out.2.2.2 (by omega)⟩
   clear hF hp
   go_wp2_with (go_at_call 107; refine (HK4.out (HP.out rfl rfl) _ (HC0.out.below HF.out.bel) (HI0.out.below HF.out.bel)).mono ?_; rintro e w3 ⟨rfl, hb3⟩)
   go_ret
   exact ⟨ret_bool (by simp), (HC.out w3 hb3).bel⟩
end Go.Proofs.YtgcmnkanjcfndaaGreatDoor
namespace Go.Proofs.YtgcmnkanjcfndaaGreatDoor
open Go.RowKit
set_option linter.unusedVariables false
set_option linter.unusedSimpArgs false
theorem info_Int : (Tryz.prog.info? 3).map (fun i => (i.zero, i.size, i.bytes)) = some (some (.int .i64 0), 1, 8) := by kernel_rfl
def i64s (l : List Int) : List Value := l.map fun x => .int .i64 x
theorem i64s_snoc (l : List Int) (x : Int) : i64s (l ++ [x]) = i64s l ++ [.int .i64 x] := by simp [i64s]
theorem own_open {w : World} {B : Nat} {t : TypeId} {k : Nat} {v : Value} {n : Nat} {xs : List Value} (h : w.ownsRow B t k v n xs) (hn : 0 < n) :
  ∃ g cap, v = .slice (some ⟨g, 0, none⟩) n cap ∧ B ≤ g ∧ g < w.heap.size ∧ n ≤ cap ∧ cap ≤ maxLen ∧ ∀ (j : Nat) (u : Value), xs[j]? = some u → w.cell? ⟨g, j, none⟩ = some u := by
 obtain ⟨hl, h⟩ := h
 rcases h with ⟨_, h0⟩ | ⟨g, cap, cur, hv, hB, hg, hc1, hc2, hsz, htk⟩
 ·omega
 ·refine ⟨g, cap, hv, hB, ?_, hc1, hc2, fun j u hu => ?_⟩
  ·rcases Nat.lt_or_ge g w.heap.size with c | c
   ·exact c
   ·rw [Array.getElem?_eq_none c] at hg; cases hg
  ·have hj : j < xs.length := (List.getElem?_eq_some_iff.1 hu).1
   rw [← htk, List.getElem?_take_of_lt (by omega)] at hu
   simpa [World.cell?, hg] using hu
theorem own_len {w : World} {B : Nat} {t : TypeId} {k : Nat} {v : Value} {n : Nat} {xs : List Value} (h : w.ownsRow B t k v n xs) : ∃ p cap, v = .slice p n cap := by
 obtain ⟨hl, h⟩ := h
 rcases h with ⟨rfl, rfl⟩ | ⟨g, cap, cur, hv, -⟩
 ·exact ⟨none, 0, rfl⟩
 ·exact ⟨_, _, hv⟩
theorem own_keep {w w' : World} {B : Nat} {t : TypeId} {k : Nat} {v : Value} {n : Nat} {xs : List Value} (h : w.ownsRow B t k v n xs) (hb : ∀ g, v.ownBlock = some g → w'.heap[g]? = w.heap[g]?) : w'.ownsRow B t k v n xs := by
 refine ⟨h.1, ?_⟩
 rcases h.2 with h5 | ⟨g, cap, cur, hv, hB, hg, hr⟩
 ·exact .inl h5
 ·exact .inr ⟨g, cap, cur, hv, hB, (hb g (by rw [hv]; rfl)).trans hg, hr⟩
theorem own_below {w w' : World} {B : Nat} {t : TypeId} {k : Nat} {v : Value} {n : Nat} {xs : List Value} (h : w.ownsRow B t k v n xs) (q : Below w.heap.size w w') : w'.ownsRow B t k v n xs := own_keep h fun g hg => q.block g (h.lt g hg).2
theorem own_mono {w : World} {B B' : Nat} {t : TypeId} {k : Nat} {v : Value} {n : Nat} {xs : List Value} (h : w.ownsRow B t k v n xs) (hB : B' ≤ B) : w.ownsRow B' t k v n xs :=
 ⟨h.1, h.2.imp id fun ⟨g, cap, cur, h1, h2, h3⟩ => ⟨g, cap, cur, h1, Nat.le_trans hB h2, h3⟩⟩
def rd1 (L x : Int) : List Int := if L = 0 then [] else [x]
theorem reads_eq (i : Ins) (r : Rw) : readsP i r = (rd1 r.a i.a ++ rd1 r.b i.b) ++ rd1 r.c i.c := by unfold readsP rd1; simp
theorem rd1_le (L x : Int) : (rd1 L x).length ≤ 1 := by unfold rd1; split <;> simp
structure RWd (w : World) (G C : Nat) (L1 L2 L3 A B E : Int) (v : World) : Prop where
 bel : Below w.heap.size w v
 hC : w.heap.size < C
 hG : G < C
 le : C ≤ v.heap.size
 r1 : v.cell? ⟨w.heap.size, 1, none⟩ = some (.int .i64 L1)
 r2 : v.cell? ⟨w.heap.size, 2, none⟩ = some (.int .i64 L2)
 r3 : v.cell? ⟨w.heap.size, 3, none⟩ = some (.int .i64 L3)
 g1 : v.cell? ⟨G, 1, none⟩ = some (.int .i64 A)
 g2 : v.cell? ⟨G, 2, none⟩ = some (.int .i64 B)
 g3 : v.cell? ⟨G, 3, none⟩ = some (.int .i64 E)
theorem RWd.next {w : World} {G C : Nat} {L1 L2 L3 A B E : Int} {v v' : World} (h : RWd w G C L1 L2 L3 A B E v) (k : Below C v v') : RWd w G C L1 L2 L3 A B E v' := by
 have c1 : ∀ {a : Addr} {u : Value}, a.block < C → v.cell? a = some u → v'.cell? a = some u := fun ha hu => (k.cell ha).trans hu
 exact ⟨h.bel.trans (k.mono (Nat.le_of_lt h.hC)), h.hC, h.hG, Nat.le_trans h.le k.size, c1 h.hC h.r1, c1 h.hC h.r2, c1 h.hC h.r3, c1 h.hG h.g1, c1 h.hG h.g2, c1 h.hG h.g3⟩
set_option maxRecDepth 100000 in
set_option maxHeartbeats 4000000 in
theorem readBy_any (b o : Nat) (i : Ins) (r : Rw) (w : World) (hi : CellsAt w b o (inC i)) :
  Calls Tryz.prog 75 #[rwV r, .pointer (some ⟨b, o, none⟩)] w fun e w' => ∃ v, e = .returned v ∧ w'.ownsRow w.heap.size 3 1 v (readsP i r).length (i64s (readsP i r)) ∧ Below w.heap.size w w' := by
 rw [reads_eq]
 have KR := fun w k => registersOf_any b o i w k
 have HI0 : Hid (CellsAt w b o (inC i)) := hi
 obtain ⟨i0, hi0, hz0, hz1, hz3⟩ := info_parts info_Int
 obtain ⟨L0, L1, L2, L3, L4⟩ := r
 obtain ⟨io, D, A, B, E, n, bt⟩ := i
 unfold rwV
 simp only at KR ⊢
 have HKR : Hid (∀ w, CellsAt w b o (inC ⟨io, D, A, B, E, n, bt⟩) → Calls Tryz.prog 105 #[.pointer (some ⟨b, o, none⟩)] w fun e w' => e = .returned (.agg #[.int .i64 D, .int .i64 A, .int .i64 B, .int .i64 E]) ∧ Below w.heap.size w w') := KR
 clear KR hi
 obtain ⟨R, hR⟩ : ∃ R, (rd1 L1 A ++ rd1 L2 B) ++ rd1 L3 E = R := ⟨_, rfl⟩
 rw [hR]
 have HR : Hid ((rd1 L1 A ++ rd1 L2 B) ++ rd1 L3 E = R) := hR
 clear hR
 go_enter Tryz.func75, Tryz.ntmps75
 go_wp2_with (go_at_call 105; refine (HKR.out _ (HI0.out.below (bel_alloc _ _))).mono ?_; rintro e w1 ⟨rfl, hb1⟩)
 have HF1 : Hid (RWd w w1.heap.size (w1.heap.size + 1) L1 L2 L3 A B E (w1.alloc (.cells #[.int .i64 D, .int .i64 A, .int .i64 B, .int .i64 E] 160))) := by
  have hs := hb1.size
  simp at hs
  exact ⟨bel (bel (bel_alloc _ _) hb1) (bel_alloc _ _), by omega, by omega, by simp, kc (bel_alloc _ _) (kc hb1 (by simp [go_sem])), kc (bel_alloc _ _) (kc hb1 (by simp [go_sem])), kc (bel_alloc _ _) (kc hb1 (by simp [go_sem])), by simp [go_sem], by simp [go_sem], by simp [go_sem]⟩
 obtain ⟨G, hG⟩ : ∃ G, w1.heap.size = G := ⟨_, rfl⟩
 obtain ⟨W, hW⟩ : ∃ W, w1.alloc (.cells #[.int .i64 D, .int .i64 A, .int .i64 B, .int .i64 E] 160) = W := ⟨_, rfl⟩
 rw [hW] at HF1 ⊢
 rw [hG] at HF1 ⊢
 clear hG hW
 go_loopw [5, 7] (fun lv iv wr => RWd w G (G + 1) L1 L2 L3 A B E wr ∧ ∃ (j : Nat) (l : List Int), 1 ≤ j ∧ j ≤ 4 ∧ iv = .int .i64 j ∧ l.length ≤ j - 1 ∧ Hid (wr.ownsRow (G + 1) 3 1 lv l.length (i64s l)) ∧ Hid ((j = 1 → l = []) ∧ (j = 2 → l = rd1 L1 A) ∧ (j = 3 → l = rd1 L1 A ++ rd1 L2 B) ∧ (j = 4 → l = (rd1 L1 A ++ rd1 L2 B) ++ rd1 L3 E))) (fun _ iv _ => 4 - (intOf iv).toNat)
 case atStart => exact ⟨HF1.out, 1, [], by omega, by omega, rfl, by simp, World.ownsRow_nil _ _ _ 1, ⟨fun _ => rfl, fun h => absurd h (by omega), fun h => absurd h (by omega), fun h => absurd h (by omega)⟩⟩
 case round =>
  clear HF1 HKR hb1
  obtain ⟨hF, j, l, hj1, hj, rfl, hll, HO, HL⟩ := hrel
  have HF : Hid (RWd w G (G + 1) L1 L2 L3 A B E wr) := hF
  have hGw := hF.le
  have hn1 : G ≠ wr.heap.size := by omega
  have hn2 : w.heap.size ≠ wr.heap.size := by have := hF.hC; omega
  obtain rfl | rfl | rfl | rfl : j = 1 ∨ j = 2 ∨ j = 3 ∨ j = 4 := by omega
  ·have r0 := hF.r1
   have g0 := hF.g1
   have f0 := kc (bel_alloc wr (.cells #[.int .i64 A] 3)) g0
   have hl0 := HL.out.1 rfl
   clear hF
   by_cases hz : L1 = 0
   ·have hz' : (L1 != 0) = false := by simpa using hz
    have hz2 : (L1 == 0) = true := by simpa using hz
    have HZ : Hid (L1 = 0) := hz
    clear hz
    go_wp2
    go_roundw
    case rel => exact ⟨HF.out, 2, l, by omega, by omega, by first | rfl | go_num, by omega, HO, ⟨fun h => absurd h (by omega), fun _ => by rw [hl0]; unfold rd1; simp [HZ.out], fun h => absurd h (by omega), fun h => absurd h (by omega)⟩⟩
    case measure => simp [intOf]
   ·have hz' : (L1 != 0) = true := by simpa using hz
    have hz2 : (L1 == 0) = false := by simpa using hz
    have HZ : Hid (¬ L1 = 0) := hz
    clear hz
    go_wp2_with (first
     | (at_builtin; refine wpList_append_own_at _ rfl _ _ 90 rfl (G + 1) 3 i0 _ 1 8 Tryz.underlying90 hi0 hz0 hz1 hz3 rfl (by decide) _ l.length (i64s l) rfl (World.ownsRow.alloc HO.out _) ⟨wr.heap.size, 0, none⟩ 1 1 [.int .i64 A] rfl rfl (World.news_of_block (cs := #[.int .i64 A]) (t := 3) (fr := (0, 0)) (heap_alloc_new wr _)) (by simp [Value.oneCell']) (by unfold maxLen; omega) (by omega) (by simp; omega) ?_; intro v' w3 hown3 hgrow hnil hat; have HO3 : Hid (w3.ownsRow (G + 1) 3 1 v' (l.length + 1) (i64s l ++ [.int .i64 A])) := hown3; have HB3 : Hid (Below (G + 1) wr w3) := (Below.alloc (Below.refl _ _) hGw _).grown hgrow (by simp; omega) (fun q e => (HO.out.lt q e).1); clear hown3 hgrow hnil hat))
    go_roundw
    case rel => exact ⟨HF.out.next HB3.out, 2, l ++ [A], by omega, by omega, by first | rfl | go_num, by simp; omega, by show _; rw [List.length_append, i64s_snoc]; exact HO3.out, ⟨fun h => absurd h (by omega), fun _ => by rw [hl0, show rd1 L1 A = [A] from if_neg HZ.out]; try rfl, fun h => absurd h (by omega), fun h => absurd h (by omega)⟩⟩
    case measure => simp [intOf]
  ·have r0 := hF.r2
   have g0 := hF.g2
   have f0 := kc (bel_alloc wr (.cells #[.int .i64 B] 3)) g0
   have hl0 := HL.out.2.1 rfl
   clear hF
   by_cases hz : L2 = 0
   ·have hz' : (L2 != 0) = false := by simpa using hz
    have hz2 : (L2 == 0) = true := by simpa using hz
    have HZ : Hid (L2 = 0) := hz
    clear hz
    go_wp2
    go_roundw
    case rel => exact ⟨HF.out, 3, l, by omega, by omega, by first | rfl | go_num, by omega, HO, ⟨fun h => absurd h (by omega), fun h => absurd h (by omega), fun _ => by rw [hl0]; unfold rd1; simp [HZ.out], fun h => absurd h (by omega)⟩⟩
    case measure => simp [intOf]
   ·have hz' : (L2 != 0) = true := by simpa using hz
    have hz2 : (L2 == 0) = false := by simpa using hz
    have HZ : Hid (¬ L2 = 0) := hz
    clear hz
    go_wp2_with (first
     | (at_builtin; refine wpList_append_own_at _ rfl _ _ 90 rfl (G + 1) 3 i0 _ 1 8 Tryz.underlying90 hi0 hz0 hz1 hz3 rfl (by decide) _ l.length (i64s l) rfl (World.ownsRow.alloc HO.out _) ⟨wr.heap.size, 0, none⟩ 1 1 [.int .i64 B] rfl rfl (World.news_of_block (cs := #[.int .i64 B]) (t := 3) (fr := (0, 0)) (heap_alloc_new wr _)) (by simp [Value.oneCell']) (by unfold maxLen; omega) (by omega) (by simp; omega) ?_; intro v' w3 hown3 hgrow hnil hat; have HO3 : Hid (w3.ownsRow (G + 1) 3 1 v' (l.length + 1) (i64s l ++ [.int .i64 B])) := hown3; have HB3 : Hid (Below (G + 1) wr w3) := (Below.alloc (Below.refl _ _) hGw _).grown hgrow (by simp; omega) (fun q e => (HO.out.lt q e).1); clear hown3 hgrow hnil hat))
    go_roundw
    case rel => exact ⟨HF.out.next HB3.out, 3, l ++ [B], by omega, by omega, by first | rfl | go_num, by simp; omega, by show _; rw [List.length_append, i64s_snoc]; exact HO3.out, ⟨fun h => absurd h (by omega), fun h => absurd h (by omega), fun _ => by rw [hl0, show rd1 L2 B = [B] from if_neg HZ.out]; try rfl, fun h => absurd h (by omega)⟩⟩
    case measure => simp [intOf]
  ·have r0 := hF.r3
   have g0 := hF.g3
   have f0 := kc (bel_alloc wr (.cells #[.int .i64 E] 3)) g0
   have hl0 := HL.out.2.2.1 rfl
   clear hF
   by_cases hz : L3 = 0
   ·have hz' : (L3 != 0) = false := by simpa using hz
    have hz2 : (L3 == 0) = true := by simpa using hz
    have HZ : Hid (L3 = 0) := hz
    clear hz
    go_wp2
    go_roundw
    case rel => exact ⟨HF.out, 4, l, by omega, by omega, by first | rfl | go_num, by omega, HO, ⟨fun h => absurd h (by omega), fun h => absurd h (by omega), fun h => absurd h (by omega), fun _ => by rw [hl0]; unfold rd1; simp [HZ.out]⟩⟩
    case measure => simp [intOf]
   ·have hz' : (L3 != 0) = true := by simpa using hz
    have hz2 : (L3 == 0) = false := by simpa using hz
    have HZ : Hid (¬ L3 = 0) := hz
    clear hz
    go_wp2_with (first
     | (at_builtin; refine wpList_append_own_at _ rfl _ _ 90 rfl (G + 1) 3 i0 _ 1 8 Tryz.underlying90 hi0 hz0 hz1 hz3 rfl (by decide) _ l.length (i64s l) rfl (World.ownsRow.alloc HO.out _) ⟨wr.heap.size, 0, none⟩ 1 1 [.int .i64 E] rfl rfl (World.news_of_block (cs := #[.int .i64 E]) (t := 3) (fr := (0, 0)) (heap_alloc_new wr _)) (by simp [Value.oneCell']) (by unfold maxLen; omega) (by omega) (by simp; omega) ?_; intro v' w3 hown3 hgrow hnil hat; have HO3 : Hid (w3.ownsRow (G + 1) 3 1 v' (l.length + 1) (i64s l ++ [.int .i64 E])) := hown3; have HB3 : Hid (Below (G + 1) wr w3) := (Below.alloc (Below.refl _ _) hGw _).grown hgrow (by simp; omega) (fun q e => (HO.out.lt q e).1); clear hown3 hgrow hnil hat))
    go_roundw
    case rel => exact ⟨HF.out.next HB3.out, 4, l ++ [E], by omega, by omega, by first | rfl | go_num, by simp; omega, by show _; rw [List.length_append, i64s_snoc]; exact HO3.out, ⟨fun h => absurd h (by omega), fun h => absurd h (by omega), fun h => absurd h (by omega), fun _ => by rw [hl0, show rd1 L3 E = [E] from if_neg HZ.out]; try rfl⟩⟩
    case measure => simp [intOf]
  ·have hl0 := HL.out.2.2.2 rfl
   clear hF
   go_wp2
   go_ret
   refine ⟨_, rfl, ?_, HF.out.bel⟩
   rw [← HR.out, ← hl0]
   exact own_mono HO.out (by have := HF.out.hC; omega)
end Go.Proofs.YtgcmnkanjcfndaaGreatDoor
namespace Go.Proofs.YtgcmnkanjcfndaaGreatDoor
open Go.RowKit
set_option linter.unusedVariables false
set_option linter.unusedSimpArgs false
def bkC (b : Bk) : List Value := [.bool b.loop, .int .i64 b.par, .int .i64 b.ahead]
def cellsB (l : List Bk) : List Value := l.flatMap bkC
theorem cellsB_snoc (l : List Bk) (b : Bk) : cellsB (l ++ [b]) = cellsB l ++ bkC b := by simp [cellsB]
theorem cellsB_len : ∀ l : List Bk, (cellsB l).length = l.length * 3
 | [] => rfl
 | b :: l => by
  have e : cellsB (b :: l) = bkC b ++ cellsB l := by simp [cellsB]
  rw [e, List.length_append, cellsB_len l]
  simp [bkC]; omega
theorem cellsB_last (l : List Bk) (b : Bk) (j : Nat) {u : Value} (h : (bkC b)[j]? = some u) : (cellsB (l ++ [b]))[l.length * 3 + j]? = some u := by
 rw [cellsB_snoc, List.getElem?_append_right (by rw [cellsB_len]; omega), cellsB_len, Nat.add_sub_cancel_left]
 exact h
def setC (l : List Nat) : List Value := l.map fun (x : Nat) => Value.int .i64 (x : Int)
theorem setC_snoc (l : List Nat) (x : Nat) : setC (l ++ [x]) = setC l ++ [.int .i64 (x : Int)] := by simp [setC]
theorem setC_take (l : List Nat) (n : Nat) : (setC l).take n = setC (l.take n) := by simp [setC, List.map_take]
def wkF (C gi n : Nat) (vs vo : Value) (j : Nat) : Value := if j = 0 then .pointer (some ⟨C, 0, none⟩) else if j = 1 then .slice (some ⟨gi, 0, none⟩) n n else if j = 2 then vs else vo
structure WS (E G C n gi : Nat) (vs vo : Value) (w : World) (s : Wk) : Prop where
 g : w.rowIs G 93 4 (wkF C gi n vs vo)
 i : w.rowIs gi 4 n (fun j => .bool (decide (j ∈ s.set)))
 set : w.ownsRow E 3 1 vs s.set.length (setC s.set)
 opn : w.ownsRow E 165 3 vo s.opens.length (cellsB s.opens.reverse)
 hG : E ≤ G
 hgi : E ≤ gi
 n1 : gi ≠ G
 n2 : vs.ownBlock ≠ some G
 n3 : vs.ownBlock ≠ some gi
 n4 : vo.ownBlock ≠ some G
 n5 : vo.ownBlock ≠ some gi
 n6 : ∀ b, vs.ownBlock = some b → vo.ownBlock ≠ some b
section
variable {E G C n gi : Nat} {vs vo : Value} {w w' : World} {s : Wk}
theorem WS.below (h : WS E G C n gi vs vo w s) (k : Below w.heap.size w w') : WS E G C n gi vs vo w' s :=
 ⟨h.g.of_block (k.block _ h.g.lt), h.i.of_block (k.block _ h.i.lt), own_below h.set k, own_below h.opn k, h.hG, h.hgi, h.n1, h.n2, h.n3, h.n4, h.n5, h.n6⟩
theorem WS.c0 (h : WS E G C n gi vs vo w s) : w.cell? ⟨G, 0, none⟩ = some (.pointer (some ⟨C, 0, none⟩)) := h.g.cell (i := 0) (by decide)
theorem WS.c1 (h : WS E G C n gi vs vo w s) : w.cell? ⟨G, 1, none⟩ = some (.slice (some ⟨gi, 0, none⟩) n n) := h.g.cell (i := 1) (by decide)
theorem WS.c2 (h : WS E G C n gi vs vo w s) : w.cell? ⟨G, 2, none⟩ = some vs := h.g.cell (i := 2) (by decide)
theorem WS.c3 (h : WS E G C n gi vs vo w s) : w.cell? ⟨G, 3, none⟩ = some vo := h.g.cell (i := 3) (by decide)
theorem WS.lt (h : WS E G C n gi vs vo w s) : E ≤ w.heap.size := Nat.le_trans h.hG (Nat.le_of_lt h.g.lt)
end
set_option maxRecDepth 100000 in
set_option maxHeartbeats 2000000 in
theorem innermost_any (E G C n gi : Nat) (vs vo : Value) (s : Wk) (w : World) (h : WS E G C n gi vs vo w s) (hn : s.opens.length ≤ 64) :
  Calls Tryz.prog 108 #[.pointer (some ⟨G, 0, none⟩)] w fun e w' => (∃ A : Int, e = .returned (.tuple #[.agg #[.bool (inLoop s), .int .i64 (innerP s), .int .i64 A], .bool (!s.opens.isEmpty)])) ∧ Below w.heap.size w w' := by
 have c3 := h.c3
 have ho := h.opn
 have hG := h.g.lt
 have nG : G ≠ w.heap.size := by omega
 obtain ⟨X, O⟩ := s
 cases O with
 | nil =>
  obtain ⟨p, q, rfl⟩ := own_len ho
  unfold inLoop innerP
  simp only [List.isEmpty_nil, Bool.not_true] at c3 ⊢
  have f3 : (w.alloc (.cells #[.bool false, .int .i64 0, .int .i64 0] 165)).cell? ⟨G, 3, none⟩ = some (.slice p 0 q) := kc (bel_alloc _ _) c3
  clear ho h
  go_enter Tryz.func108, Tryz.ntmps108
  go_wp2
  refine bodyPost_ret (by simp [results, Tryz.results108, go_sem]; try rfl) rfl ?_
  exact ⟨⟨0, rfl⟩, by go_grown⟩
 | cons b r =>
  obtain ⟨g, cap, rfl, hE, hg, hc1, hc2, hcl⟩ := own_open ho (by simp)
  unfold inLoop innerP
  simp only [List.isEmpty_cons, Bool.not_false] at c3 ⊢
  obtain ⟨L, P, A⟩ := b
  simp only [List.reverse_cons] at hcl
  have hl : r.reverse.length = r.length := List.length_reverse
  have x0 := hcl (r.length * 3) (.bool L) (by have := cellsB_last r.reverse ⟨L, P, A⟩ 0 (u := .bool L) rfl; rwa [hl] at this)
  have x1 := hcl (r.length * 3 + 1) (.int .i64 P) (by have := cellsB_last r.reverse ⟨L, P, A⟩ 1 (u := .int .i64 P) rfl; rwa [hl] at this)
  have x2 := hcl (r.length * 3 + 2) (.int .i64 A) (by have := cellsB_last r.reverse ⟨L, P, A⟩ 2 (u := .int .i64 A) rfl; rwa [hl] at this)
  simp only [List.length_cons] at c3 hn hc1
  obtain ⟨m, hm⟩ : ∃ m, r.length = m := ⟨_, rfl⟩
  rw [hm] at x0 x1 x2 c3 hn hc1
  obtain ⟨N, hN⟩ : ∃ N, m + 1 = N := ⟨_, rfl⟩
  rw [hN] at c3 hn hc1
  have hw : IntKind.i64.wrap ((N : Int) - 1) = (m : Int) := by rw [IntKind.wrap_i64]; omega
  have h0 : ((N : Int) == 0) = false := by have : (N : Int) ≠ 0 := (by omega); simpa using this
  have h0' : (N == 0) = false := by have : N ≠ 0 := (by omega); simpa using this
  have i1 : (0 : Int) ≤ (m : Int) := by omega
  have i2 : (m : Int) < (N : Int) := by omega
  have ng : g ≠ w.heap.size := by omega
  have f3 : (w.alloc (.cells #[.bool false, .int .i64 0, .int .i64 0] 165)).cell? ⟨G, 3, none⟩ = some (.slice (some ⟨g, 0, none⟩) N cap) := kc (bel_alloc _ _) c3
  have y0 : (w.alloc (.cells #[.bool false, .int .i64 0, .int .i64 0] 165)).cell? ⟨g, m * 3, none⟩ = some (.bool L) := kc (bel_alloc _ _) x0
  have y1 : (w.alloc (.cells #[.bool false, .int .i64 0, .int .i64 0] 165)).cell? ⟨g, m * 3 + 1, none⟩ = some (.int .i64 P) := kc (bel_alloc _ _) x1
  have y2 : (w.alloc (.cells #[.bool false, .int .i64 0, .int .i64 0] 165)).cell? ⟨g, m * 3 + 2, none⟩ = some (.int .i64 (A : Int)) := kc (bel_alloc _ _) x2
  have HN : Hid (m + 1 = N) := hN
  clear hcl ho h hm hl hN hE
  go_enter Tryz.func108, Tryz.ntmps108
  go_wp2
  refine wp_region_held_drew (S := (fun v => v.cell? ⟨G, 3, none⟩ = some (.slice (some ⟨g, 0, none⟩) N cap) ∧ v.cell? ⟨g, m * 3, none⟩ = some (.bool L) ∧ v.cell? ⟨g, m * 3 + 1, none⟩ = some (.int .i64 P) ∧ v.cell? ⟨g, m * 3 + 2, none⟩ = some (.int .i64 (A : Int)))) (by kernel_rfl) ?_ (fun hHeld => ?_)
  ·((try dsimp only); go_keep)
  refine tkT 0 ?_
  refine tkT 1 ?_
  refine tkT 2 ?_
  refine tkT 3 ?_
  refine tkT 4 ?_
  refine tkT 5 ?_
  refine tkT 6 ?_
  refine tkT 7 ?_
  refine tkT 8 ?_
  refine tkT 9 ?_
  refine tkT 10 ?_
  refine tkT 11 ?_
  clear hHeld
  refine wpAnyH_ready (rs := [12]) (by kernel_rfl) (by simp) ?_
  refine AllReadyH.cons (i := 12) (by simp only [List.getElem?_toArray, List.getElem?_cons_succ, List.getElem?_cons_zero]; rfl) (fun K hK => ?_) AllReadyH.nil
  go_simp
  refine hK.out _ _ ?_ (fun hHeld => ?_)
  ·((try dsimp only); go_keep)
  clear hK K
  try simp only [Act.put, List.setIfInBounds_toArray, List.set_cons_zero, List.set_cons_succ]
  refine tkT 13 ?_
  refine wpAnyH_done (by kernel_rfl) ?_ _
  go_wp2
  refine bodyPost_ret (by simp [results, Tryz.results108, go_sem]; try rfl) rfl ?_
  exact ⟨⟨_, rfl⟩, by go_grown⟩
set_option maxRecDepth 100000 in
set_option maxHeartbeats 1000000 in
theorem elementwise_any (op : Int) (w : World) : Calls Tryz.prog 136 #[.int .i64 op] w fun e w' => e = .returned (.bool (elemP op)) ∧ w' = w := by
 unfold elemP
 by_cases h : 3 ≤ op
 all_goals
  go_enter Tryz.func136, Tryz.ntmps136
  go_wp2
  go_ret
  exact ⟨ret_bool (by simp [h]; try omega), rfl⟩
set_option maxRecDepth 100000 in
set_option maxHeartbeats 2000000 in
theorem looped_any (op : Int) (w : World) : Calls Tryz.prog 109 #[.int .i64 op] w fun e w' => e = .returned (.bool (loopedP op)) ∧ w' = w := by
 have HK : Hid (∀ w, Calls Tryz.prog 136 #[.int .i64 op] w fun e w' => e = .returned (.bool (elemP op)) ∧ w' = w) := elementwise_any op
 by_cases h : 29 ≤ op ∧ op ≤ 33
 ·have hl : loopedP op = true := by unfold loopedP; simp; omega
  rw [hl]
  obtain rfl | rfl | rfl | rfl | rfl : op = 29 ∨ op = 30 ∨ op = 31 ∨ op = 32 ∨ op = 33 := by omega
  all_goals
   clear h hl HK
   go_enter Tryz.func109, Tryz.ntmps109
   go_wp2
   go_ret
   exact ⟨rfl, rfl⟩
 ·have hl : loopedP op = elemP op := by
   unfold loopedP
   have : (decide (29 ≤ op) && decide (op ≤ 33)) = false := by simp; omega
   rw [this]; rfl
  rw [hl]
  have e1 : (op == 29) = false := by have : op ≠ 29 := (by omega); simpa using this
  have e2 : (op == 30) = false := by have : op ≠ 30 := (by omega); simpa using this
  have e3 : (op == 31) = false := by have : op ≠ 31 := (by omega); simpa using this
  have e4 : (op == 32) = false := by have : op ≠ 32 := (by omega); simpa using this
  have e5 : (op == 33) = false := by have : op ≠ 33 := (by omega); simpa using this
  clear h hl
  go_enter Tryz.func109, Tryz.ntmps109
  go_wp2_with (go_at_call 136; refine (HK.out _).mono ?_; rintro e w1 ⟨rfl, rfl⟩)
  go_ret
  exact ⟨rfl, rfl⟩
end Go.Proofs.YtgcmnkanjcfndaaGreatDoor
