import Derived.Test.YtgcmnkanjcfndaaGreatDoorTxt1
import Derived.Test.YtgcmnkanjcfndaaGreatDoorTxt2
import Derived.Test.YtgcmnkanjcfndaaGreatDoorTxt7
import Derived.Test.YtgcmnkanjcfndaaGreatDoorTxt6
namespace Go.Proofs.YtgcmnkanjcfndaaGreatDoor
open Go.RowKit
set_option linter.unusedVariables false
set_option linter.unusedSimpArgs false
set_option maxRecDepth 100000 in
set_option maxHeartbeats 2000000 in
theorem typesMayBe_any (C : Nat) (v0 v1 v2 v3 : Value) (c : Cd) (hk : CdOk c) (w : World) (hc : CdAt w C v0 v1 v2 v3 c) :
  Calls Tryz.prog 70 #[.pointer (some ⟨C, 0, none⟩)] w fun e w' => e = .returned (.bool (typesMay c)) ∧ Below w.heap.size w w' := by
 obtain ⟨hcc, hcv⟩ := hc
 have c0 := hcc.at 0 rfl
 have c1 := hcc.at 1 rfl
 rw [Nat.zero_add] at c0 c1
 have hC := mcell_lt c0
 simp only at hC
 have hr := hcv.regs
 obtain ⟨p, q, rfl, hrr⟩ := hcv.regs
 obtain ⟨p0, q0, rfl, hrr0⟩ := hcv.sign
 have HB := hk.regsL
 have HB0 := hk.signL
 unfold typesMay
 obtain ⟨M, hM⟩ : ∃ M, c.sign.length = M := ⟨_, rfl⟩
 rw [hM] at c0 HB0 ⊢
 obtain ⟨l, hl⟩ : ∃ l, c.regs = l := ⟨_, rfl⟩
 rw [hl] at c1 hr HB ⊢
 obtain ⟨N, hN⟩ : ∃ N, l.length = N := ⟨_, rfl⟩
 have HN : Hid (l.length = N) := hN
 rw [hN] at c1 hr HB
 have HR : Hid (RowG 2 tyC w (.slice p N q) l) := hr
 clear hl hM hN hr hrr hrr0 hcc hcv hk
 go_enter Tryz.func70, Tryz.ntmps70
 go_wp2
 go_loopw [10] (fun iv wr => Below w.heap.size w wr ∧ ∃ j : Nat, j ≤ N ∧ iv = .int .i64 j ∧ Hid (∀ i (h : i < l.length), i < j → typeMay l[i] M = true)) (fun iv _ => N - (intOf iv).toNat)
 case atStart => exact ⟨bel0 w, 0, Nat.zero_le _, rfl, fun i h hi => absurd hi (Nat.not_lt_zero _)⟩
 case round =>
  obtain ⟨hb, j, hj, rfl, hp⟩ := hrel
  by_cases hlt : j < N
  ·have hll : j < l.length := by rw [HN.out]; exact hlt
   obtain ⟨b, o, rfl, hx⟩ := HR.out.at hll
   have hx' := hx.below hb
   have x0 := hx'.at 0 rfl
   have x1 := hx'.at 1 rfl
   rw [Nat.add_zero] at x0
   have z0 := kc hb c0
   have hC2 := mcell_lt z0
   have hb2 := mcell_lt x0
   simp only at hC2 hb2
   have n1 : C ≠ wr.heap.size := by omega
   have n2 : b ≠ wr.heap.size := by omega
   have i1 : (0 : Int) ≤ (j : Int) := by omega
   have i2 : (j : Int) < (N : Int) := by omega
   have KN := typeMayBe_any l[j] p0 M q0 HB0
   have NX : Hid (typeMay l[j] M = true → ∀ i (h : i < l.length), i < j + 1 → typeMay l[i] M = true) := fun hq i h hi => by
    by_cases e : i = j
    ·subst e; exact hq
    ·exact hp.out i h (by omega)
   have NB : Hid (typeMay l[j] M = false → (l.all fun t => typeMay t M) = false) := fun h => List.all_eq_false.2 ⟨l[j], List.getElem_mem hll, by rw [h]; decide⟩
   obtain ⟨T, hT⟩ : ∃ T, l[j] = T := ⟨_, rfl⟩
   rw [hT] at x0 x1 KN NX NB
   obtain ⟨X, hX⟩ : ∃ X, typeMay T M = X := ⟨_, rfl⟩
   rw [hX] at NX NB
   simp only [hX] at KN
   obtain ⟨K, P⟩ := T
   unfold tyV at KN
   simp only at x0 x1 KN
   have HK : Hid (∀ w, Calls Tryz.prog 102 #[.agg #[.int .i64 K, .int .i64 P], .slice p0 M q0] w fun e w' => e = .returned (.bool X) ∧ Below w.heap.size w w') := KN
   have HC : Hid (∀ v, Below (wr.alloc (.cells #[.int .i64 K, .int .i64 P] 50)).heap.size (wr.alloc (.cells #[.int .i64 K, .int .i64 P] 50)) v → v.cell? ⟨C, 0, none⟩ = some (.slice p0 M q0) ∧ v.cell? ⟨wr.heap.size, 0, none⟩ = some (.int .i64 K) ∧ v.cell? ⟨wr.heap.size, 1, none⟩ = some (.int .i64 P)) :=
    fun v hv => ⟨kc hv (kc (bel_alloc _ _) z0), kc hv (by simp [go_sem]), kc hv (by simp [go_sem])⟩
   have f1 := (HC.out _ (bel0 _)).1
   clear KN hT hX hp hx hx'
   cases X
   ·go_wp2
    refine wp_region_held_drew (S := (fun v => v.cell? ⟨C, 0, none⟩ = some (.slice p0 M q0) ∧ v.cell? ⟨wr.heap.size, 0, none⟩ = some (.int .i64 K) ∧ v.cell? ⟨wr.heap.size, 1, none⟩ = some (.int .i64 P))) (by kernel_rfl) ?_ (fun hHeld => ?_)
    ·((try dsimp only); go_keep)
    refine tkT 0 ?_
    refine tkT 1 ?_
    refine tkT 2 ?_
    refine tkT 3 ?_
    refine tkT 4 ?_
    clear hHeld
    refine wpAnyH_ready (rs := [5]) (by kernel_rfl) (by simp) ?_
    refine AllReadyH.cons (i := 5) (by simp only [List.getElem?_toArray, List.getElem?_cons_succ, List.getElem?_cons_zero]; rfl) (fun K hK => ?_) AllReadyH.nil
    go_simp
    (go_at_call 102; refine (HK.out _).mono ?_; rintro e w1 ⟨rfl, hb1⟩; have HB1 := bel (bel_d _) hb1; obtain ⟨y0, y1, y2⟩ := HC.out w1 HB1)
    try (go_wp2_with fail)
    refine hK.out _ _ ?_ (fun hHeld => ?_)
    ·((try dsimp only); go_keep)
    clear hK K
    try simp only [Act.put, List.setIfInBounds_toArray, List.set_cons_zero, List.set_cons_succ]
    refine tkT 6 ?_
    refine wpAnyH_done (by kernel_rfl) ?_ _
    go_wp2
    go_ret
    exact ⟨ret_bool (NB.out (by simp)).symm, bel hb (bel (bel_alloc _ _) HB1)⟩
   ·go_wp2
    refine wp_region_held_drew (S := (fun v => v.cell? ⟨C, 0, none⟩ = some (.slice p0 M q0) ∧ v.cell? ⟨wr.heap.size, 0, none⟩ = some (.int .i64 K) ∧ v.cell? ⟨wr.heap.size, 1, none⟩ = some (.int .i64 P))) (by kernel_rfl) ?_ (fun hHeld => ?_)
    ·((try dsimp only); go_keep)
    refine tkT 0 ?_
    refine tkT 1 ?_
    refine tkT 2 ?_
    refine tkT 3 ?_
    refine tkT 4 ?_
    clear hHeld
    refine wpAnyH_ready (rs := [5]) (by kernel_rfl) (by simp) ?_
    refine AllReadyH.cons (i := 5) (by simp only [List.getElem?_toArray, List.getElem?_cons_succ, List.getElem?_cons_zero]; rfl) (fun K hK => ?_) AllReadyH.nil
    go_simp
    (go_at_call 102; refine (HK.out _).mono ?_; rintro e w1 ⟨rfl, hb1⟩; have HB1 := bel (bel_d _) hb1; obtain ⟨y0, y1, y2⟩ := HC.out w1 HB1)
    try (go_wp2_with fail)
    refine hK.out _ _ ?_ (fun hHeld => ?_)
    ·((try dsimp only); go_keep)
    clear hK K
    try simp only [Act.put, List.setIfInBounds_toArray, List.set_cons_zero, List.set_cons_succ]
    refine tkT 6 ?_
    refine wpAnyH_done (by kernel_rfl) ?_ _
    go_wp2
    go_roundw
    case rel => exact ⟨bel hb (bel (bel_alloc _ _) HB1), j + 1, by omega, by go_num, NX.out (by simp)⟩
    case measure => simp [intOf]; omega
  ·have : j = N := by omega
   subst this
   have HF : Hid ((l.all fun t => typeMay t M) = true) := List.all_eq_true.2 fun t ht => by
    obtain ⟨i, hi, rfl⟩ := List.mem_iff_getElem.1 ht
    exact hp.out i hi (by rw [← HN.out]; exact hi)
   clear hp
   go_wp2
   go_ret
   exact ⟨ret_bool HF.out.symm, hb⟩
set_option maxRecDepth 100000 in
set_option maxHeartbeats 2000000 in
theorem slotsMayBe_any (C : Nat) (v0 v1 v2 v3 : Value) (c : Cd) (hk : CdOk c) (w : World) (hc : CdAt w C v0 v1 v2 v3 c) :
  Calls Tryz.prog 71 #[.pointer (some ⟨C, 0, none⟩)] w fun e w' => e = .returned (.bool (slotsMay c)) ∧ Below w.heap.size w w' := by
 obtain ⟨hcc, hcv⟩ := hc
 have c0 := hcc.at 0 rfl
 have c1 := hcc.at 2 rfl
 rw [Nat.zero_add] at c0 c1
 have hC := mcell_lt c0
 simp only at hC
 have hr := hcv.slots
 obtain ⟨p, q, rfl, hrr⟩ := hcv.slots
 obtain ⟨p0, q0, rfl, hrr0⟩ := hcv.sign
 have HB := hk.slotsL
 have HB0 := hk.signL
 have HSB : Hid (∀ s ∈ c.slots, 0 ≤ s.bits ∧ s.bits < 4294967296) := hk.sbits
 unfold slotsMay
 obtain ⟨M, hM⟩ : ∃ M, c.sign.length = M := ⟨_, rfl⟩
 rw [hM] at c0 HB0 ⊢
 obtain ⟨l, hl⟩ : ∃ l, c.slots = l := ⟨_, rfl⟩
 rw [hl] at c1 hr HB HSB ⊢
 obtain ⟨N, hN⟩ : ∃ N, l.length = N := ⟨_, rfl⟩
 have HN : Hid (l.length = N) := hN
 rw [hN] at c1 hr HB
 have HR : Hid (RowG 5 slC w (.slice p N q) l) := hr
 clear hl hM hN hr hrr hrr0 hcc hcv hk
 go_enter Tryz.func71, Tryz.ntmps71
 go_wp2
 go_loopw [10] (fun iv wr => Below w.heap.size w wr ∧ ∃ j : Nat, j ≤ N ∧ iv = .int .i64 j ∧ Hid (∀ i (h : i < l.length), i < j → slotMay l[i] M = true)) (fun iv _ => N - (intOf iv).toNat)
 case atStart => exact ⟨bel0 w, 0, Nat.zero_le _, rfl, fun i h hi => absurd hi (Nat.not_lt_zero _)⟩
 case round =>
  obtain ⟨hb, j, hj, rfl, hp⟩ := hrel
  by_cases hlt : j < N
  ·have hll : j < l.length := by rw [HN.out]; exact hlt
   obtain ⟨b, o, rfl, hx⟩ := HR.out.at hll
   have hx' := hx.below hb
   have x0 := hx'.at 0 rfl
   have x1 := hx'.at 1 rfl
   have x2 := hx'.at 2 rfl
   have x3 := hx'.at 3 rfl
   have x4 := hx'.at 4 rfl
   rw [Nat.add_zero] at x0
   have z0 := kc hb c0
   have hC2 := mcell_lt z0
   have hb2 := mcell_lt x0
   simp only at hC2 hb2
   have n1 : C ≠ wr.heap.size := by omega
   have n2 : b ≠ wr.heap.size := by omega
   have i1 : (0 : Int) ≤ (j : Int) := by omega
   have i2 : (j : Int) < (N : Int) := by omega
   have KN := typeMayBe_any l[j].ty p0 M q0 HB0
   have KB := begins_any l[j] (HSB.out _ (List.getElem_mem hll)).1 (HSB.out _ (List.getElem_mem hll)).2
   have NX : Hid (slotMay l[j] M = true → ∀ i (h : i < l.length), i < j + 1 → slotMay l[i] M = true) := fun hq i h hi => by
    by_cases e : i = j
    ·subst e; exact hq
    ·exact hp.out i h (by omega)
   have NB : Hid (slotMay l[j] M = false → (l.all fun t => slotMay t M) = false) := fun h => List.all_eq_false.2 ⟨l[j], List.getElem_mem hll, by rw [h]; decide⟩
   obtain ⟨T, hT⟩ : ∃ T, l[j] = T := ⟨_, rfl⟩
   rw [hT] at x0 x1 x2 x3 x4 KN KB NX NB
   have hsm : slotMay T M = (typeMay T.ty M && begins T) := rfl
   rw [hsm] at NX NB
   obtain ⟨X, hX⟩ : ∃ X, typeMay T.ty M = X := ⟨_, rfl⟩
   obtain ⟨Y, hY⟩ : ∃ Y, begins T = Y := ⟨_, rfl⟩
   rw [hX, hY] at NX NB
   simp only [hX] at KN
   simp only [hY] at KB
   obtain ⟨⟨K, P⟩, Q, B, I⟩ := T
   unfold tyV at KN
   unfold slV at KB
   simp only at x0 x1 x2 x3 x4 KN KB
   have HK : Hid (∀ w, Calls Tryz.prog 102 #[.agg #[.int .i64 K, .int .i64 P], .slice p0 M q0] w fun e w' => e = .returned (.bool X) ∧ Below w.heap.size w w') := KN
   have HBW : Hid (∀ w, Calls Tryz.prog 103 #[.agg #[.int .i64 K, .int .i64 P, .bool Q, .int .u32 B, .int .i64 I]] w fun e w' => e = .returned (.bool Y) ∧ Below w.heap.size w w') := KB
   have HC : Hid (∀ v, Below (wr.alloc (.cells #[.int .i64 K, .int .i64 P, .bool Q, .int .u32 B, .int .i64 I] 60)).heap.size (wr.alloc (.cells #[.int .i64 K, .int .i64 P, .bool Q, .int .u32 B, .int .i64 I] 60)) v → v.cell? ⟨C, 0, none⟩ = some (.slice p0 M q0) ∧ v.cell? ⟨wr.heap.size, 0, none⟩ = some (.int .i64 K) ∧ v.cell? ⟨wr.heap.size, 1, none⟩ = some (.int .i64 P) ∧ v.cell? ⟨wr.heap.size, 2, none⟩ = some (.bool Q) ∧ v.cell? ⟨wr.heap.size, 3, none⟩ = some (.int .u32 B) ∧ v.cell? ⟨wr.heap.size, 4, none⟩ = some (.int .i64 I)) :=
    fun v hv => ⟨kc hv (kc (bel_alloc _ _) z0), kc hv (by simp [go_sem]), kc hv (by simp [go_sem]), kc hv (by simp [go_sem]), kc hv (by simp [go_sem]), kc hv (by simp [go_sem])⟩
   have f1 := (HC.out _ (bel0 _)).1
   clear KN KB hT hX hY hp hx hx' hsm
   cases X
   ·go_wp2
    refine wp_region_held_drew (S := (fun v => v.cell? ⟨C, 0, none⟩ = some (.slice p0 M q0) ∧ v.cell? ⟨wr.heap.size, 0, none⟩ = some (.int .i64 K) ∧ v.cell? ⟨wr.heap.size, 1, none⟩ = some (.int .i64 P) ∧ v.cell? ⟨wr.heap.size, 2, none⟩ = some (.bool Q) ∧ v.cell? ⟨wr.heap.size, 3, none⟩ = some (.int .u32 B) ∧ v.cell? ⟨wr.heap.size, 4, none⟩ = some (.int .i64 I))) (by kernel_rfl) ?_ (fun hHeld => ?_)
    ·((try dsimp only); go_keep)
    refine tkT 0 ?_
    refine tkT 1 ?_
    refine tkT 2 ?_
    refine tkT 3 ?_
    refine tkT 4 ?_
    refine tkT 5 ?_
    clear hHeld
    refine wpAnyH_ready (rs := [6]) (by kernel_rfl) (by simp) ?_
    refine AllReadyH.cons (i := 6) (by simp only [List.getElem?_toArray, List.getElem?_cons_succ, List.getElem?_cons_zero]; rfl) (fun K hK => ?_) AllReadyH.nil
    go_simp
    (go_at_call 102; refine (HK.out _).mono ?_; rintro e w1 ⟨rfl, hb1⟩; have HB1 := bel (bel_d _) hb1; obtain ⟨y0, y1, y2, y3, y4, y5⟩ := HC.out w1 HB1)
    try (go_wp2_with fail)
    refine hK.out _ _ ?_ (fun hHeld => ?_)
    ·((try dsimp only); go_keep)
    clear hK K
    try simp only [Act.put, List.setIfInBounds_toArray, List.set_cons_zero, List.set_cons_succ]
    refine tkT 7 ?_
    refine tkT 8 ?_
    refine tkK 9 ?_
    refine tkK 10 ?_
    refine tkK 11 ?_
    refine tkT 12 ?_
    refine wpAnyH_done (by kernel_rfl) ?_ _
    go_wp2
    go_ret
    exact ⟨ret_bool (NB.out (by simp)).symm, bel hb (bel (bel_alloc _ _) HB1)⟩
   ·cases Y
    ·go_wp2
     refine wp_region_held_drew (S := (fun v => v.cell? ⟨C, 0, none⟩ = some (.slice p0 M q0) ∧ v.cell? ⟨wr.heap.size, 0, none⟩ = some (.int .i64 K) ∧ v.cell? ⟨wr.heap.size, 1, none⟩ = some (.int .i64 P) ∧ v.cell? ⟨wr.heap.size, 2, none⟩ = some (.bool Q) ∧ v.cell? ⟨wr.heap.size, 3, none⟩ = some (.int .u32 B) ∧ v.cell? ⟨wr.heap.size, 4, none⟩ = some (.int .i64 I))) (by kernel_rfl) ?_ (fun hHeld => ?_)
     ·((try dsimp only); go_keep)
     refine tkT 0 ?_
     refine tkT 1 ?_
     refine tkT 2 ?_
     refine tkT 3 ?_
     refine tkT 4 ?_
     refine tkT 5 ?_
     clear hHeld
     refine wpAnyH_ready (rs := [6]) (by kernel_rfl) (by simp) ?_
     refine AllReadyH.cons (i := 6) (by simp only [List.getElem?_toArray, List.getElem?_cons_succ, List.getElem?_cons_zero]; rfl) (fun K hK => ?_) AllReadyH.nil
     go_simp
     (go_at_call 102; refine (HK.out _).mono ?_; rintro e w1 ⟨rfl, hb1⟩; have HB1 := bel (bel_d _) hb1; obtain ⟨y0, y1, y2, y3, y4, y5⟩ := HC.out w1 HB1)
     try (go_wp2_with fail)
     refine hK.out _ _ ?_ (fun hHeld => ?_)
     ·((try dsimp only); go_keep)
     clear hK K
     try simp only [Act.put, List.setIfInBounds_toArray, List.set_cons_zero, List.set_cons_succ]
     refine tkT 7 ?_
     refine tkT 8 ?_
     refine tkT 9 ?_
     clear hHeld
     refine wpAnyH_ready (rs := [10]) (by kernel_rfl) (by simp) ?_
     refine AllReadyH.cons (i := 10) (by simp only [List.getElem?_toArray, List.getElem?_cons_succ, List.getElem?_cons_zero]; rfl) (fun K hK => ?_) AllReadyH.nil
     go_simp
     (go_at_call 103; refine (HBW.out _).mono ?_; rintro e w2 ⟨rfl, hb2⟩; have HB2 := bel HB1 hb2; obtain ⟨y0, y1, y2, y3, y4, y5⟩ := HC.out w2 HB2)
     try (go_wp2_with fail)
     refine hK.out _ _ ?_ (fun hHeld => ?_)
     ·((try dsimp only); go_keep)
     clear hK K
     try simp only [Act.put, List.setIfInBounds_toArray, List.set_cons_zero, List.set_cons_succ]
     refine tkT 11 ?_
     refine tkT 12 ?_
     refine wpAnyH_done (by kernel_rfl) ?_ _
     go_wp2
     go_ret
     exact ⟨ret_bool (NB.out (by simp)).symm, bel hb (bel (bel_alloc _ _) HB2)⟩
    ·go_wp2
     refine wp_region_held_drew (S := (fun v => v.cell? ⟨C, 0, none⟩ = some (.slice p0 M q0) ∧ v.cell? ⟨wr.heap.size, 0, none⟩ = some (.int .i64 K) ∧ v.cell? ⟨wr.heap.size, 1, none⟩ = some (.int .i64 P) ∧ v.cell? ⟨wr.heap.size, 2, none⟩ = some (.bool Q) ∧ v.cell? ⟨wr.heap.size, 3, none⟩ = some (.int .u32 B) ∧ v.cell? ⟨wr.heap.size, 4, none⟩ = some (.int .i64 I))) (by kernel_rfl) ?_ (fun hHeld => ?_)
     ·((try dsimp only); go_keep)
     refine tkT 0 ?_
     refine tkT 1 ?_
     refine tkT 2 ?_
     refine tkT 3 ?_
     refine tkT 4 ?_
     refine tkT 5 ?_
     clear hHeld
     refine wpAnyH_ready (rs := [6]) (by kernel_rfl) (by simp) ?_
     refine AllReadyH.cons (i := 6) (by simp only [List.getElem?_toArray, List.getElem?_cons_succ, List.getElem?_cons_zero]; rfl) (fun K hK => ?_) AllReadyH.nil
     go_simp
     (go_at_call 102; refine (HK.out _).mono ?_; rintro e w1 ⟨rfl, hb1⟩; have HB1 := bel (bel_d _) hb1; obtain ⟨y0, y1, y2, y3, y4, y5⟩ := HC.out w1 HB1)
     try (go_wp2_with fail)
     refine hK.out _ _ ?_ (fun hHeld => ?_)
     ·((try dsimp only); go_keep)
     clear hK K
     try simp only [Act.put, List.setIfInBounds_toArray, List.set_cons_zero, List.set_cons_succ]
     refine tkT 7 ?_
     refine tkT 8 ?_
     refine tkT 9 ?_
     clear hHeld
     refine wpAnyH_ready (rs := [10]) (by kernel_rfl) (by simp) ?_
     refine AllReadyH.cons (i := 10) (by simp only [List.getElem?_toArray, List.getElem?_cons_succ, List.getElem?_cons_zero]; rfl) (fun K hK => ?_) AllReadyH.nil
     go_simp
     (go_at_call 103; refine (HBW.out _).mono ?_; rintro e w2 ⟨rfl, hb2⟩; have HB2 := bel HB1 hb2; obtain ⟨y0, y1, y2, y3, y4, y5⟩ := HC.out w2 HB2)
     try (go_wp2_with fail)
     refine hK.out _ _ ?_ (fun hHeld => ?_)
     ·((try dsimp only); go_keep)
     clear hK K
     try simp only [Act.put, List.setIfInBounds_toArray, List.set_cons_zero, List.set_cons_succ]
     refine tkT 11 ?_
     refine tkT 12 ?_
     refine wpAnyH_done (by kernel_rfl) ?_ _
     go_wp2
     go_roundw
     case rel => exact ⟨bel hb (bel (bel_alloc _ _) HB2), j + 1, by omega, by go_num, NX.out (by simp)⟩
     case measure => simp [intOf]; omega
  ·have : j = N := by omega
   subst this
   have HF : Hid ((l.all fun t => slotMay t M) = true) := List.all_eq_true.2 fun t ht => by
    obtain ⟨i, hi, rfl⟩ := List.mem_iff_getElem.1 ht
    exact hp.out i hi (by rw [← HN.out]; exact hi)
   clear hp
   go_wp2
   go_ret
   exact ⟨ret_bool HF.out.symm, hb⟩
end Go.Proofs.YtgcmnkanjcfndaaGreatDoor
namespace Go.Proofs.YtgcmnkanjcfndaaGreatDoor
open Go.RowKit
set_option linter.unusedVariables false
set_option linter.unusedSimpArgs false
set_option maxRecDepth 100000 in
set_option maxHeartbeats 2000000 in
theorem faultAhead_any (C : Nat) (v0 v1 v2 v3 : Value) (c : Cd) (hk : CdOk c) (w : World) (hc : CdAt w C v0 v1 v2 v3 c) :
  Calls Tryz.prog 36 #[.pointer (some ⟨C, 0, none⟩)] w fun e w' => e = .returned (.int .i64 (aheadP c)) ∧ Below w.heap.size w w' := by
 have K1 := sCheck_any v0 c.sign hk.signL hk.names w hc.2.sign.rd
 have K2 := fun w h => typesMayBe_any C v0 v1 v2 v3 c hk w h
 have K3 := fun w h => slotsMayBe_any C v0 v1 v2 v3 c hk w h
 unfold aheadP
 obtain ⟨E, hE⟩ : ∃ E, checkP c.sign = E := ⟨_, rfl⟩
 obtain ⟨X, hX⟩ : ∃ X, typesMay c = X := ⟨_, rfl⟩
 obtain ⟨Y, hY⟩ : ∃ Y, slotsMay c = Y := ⟨_, rfl⟩
 simp only [hE] at K1 ⊢
 simp only [hX] at K2 ⊢
 simp only [hY] at K3 ⊢
 have HC0 : Hid (CdAt w C v0 v1 v2 v3 c) := hc
 obtain ⟨hcc, hcv⟩ := hc
 have b1 := hk.regsL
 have b2 := hk.slotsL
 have b3 := hk.listL
 obtain ⟨p1, q1, rfl, r1⟩ := hcv.regs
 obtain ⟨p2, q2, rfl, r2⟩ := hcv.slots
 obtain ⟨p3, q3, rfl, r3⟩ := hcv.list
 have c0 := hcc.at 0 rfl
 have c1 := hcc.at 1 rfl
 have c2 := hcc.at 2 rfl
 have c3 := hcc.at 3 rfl
 rw [Nat.zero_add] at c0 c1 c2 c3
 obtain ⟨N1, h1⟩ : ∃ N, c.regs.length = N := ⟨_, rfl⟩
 obtain ⟨N2, h2⟩ : ∃ N, c.slots.length = N := ⟨_, rfl⟩
 obtain ⟨N3, h3⟩ : ∃ N, c.list.length = N := ⟨_, rfl⟩
 rw [h1] at K2 K3 c1 b1 HC0 ⊢
 rw [h2] at K2 K3 c2 b2 HC0 ⊢
 rw [h3] at K2 K3 c3 b3 HC0 ⊢
 have HK1 : Hid (Calls Tryz.prog 69 #[v0] w fun e w' => e = .returned (.int .i64 E) ∧ Below w.heap.size w w') := K1
 have HK2 : Hid (∀ w, CdAt w C v0 (.slice p1 N1 q1) (.slice p2 N2 q2) (.slice p3 N3 q3) c → Calls Tryz.prog 70 #[.pointer (some ⟨C, 0, none⟩)] w fun e w' => e = .returned (.bool X) ∧ Below w.heap.size w w') := K2
 have HK3 : Hid (∀ w, CdAt w C v0 (.slice p1 N1 q1) (.slice p2 N2 q2) (.slice p3 N3 q3) c → Calls Tryz.prog 71 #[.pointer (some ⟨C, 0, none⟩)] w fun e w' => e = .returned (.bool Y) ∧ Below w.heap.size w w') := K3
 have HC : Hid (∀ v, Below w.heap.size w v → v.cell? ⟨C, 1, none⟩ = some (.slice p1 N1 q1) ∧ v.cell? ⟨C, 2, none⟩ = some (.slice p2 N2 q2) ∧ v.cell? ⟨C, 3, none⟩ = some (.slice p3 N3 q3)) := fun v hv => ⟨kc hv c1, kc hv c2, kc hv c3⟩
 clear K1 K2 K3 hE hX hY h1 h2 h3 r1 r2 r3 hcc hcv hk
 by_cases hE : E = 0
 ·subst hE
  rw [if_neg (by simp)]
  by_cases s1 : 16384 < N1 ∨ 32768 < N3
  ·rw [if_pos s1]
   by_cases s2 : 16384 < N1
   ·have s2' : (16384 : Int) < (N1 : Int) := by omega
    clear s1 s2
    go_enter Tryz.func36, Tryz.ntmps36
    go_wp2_with (go_at_call 69; refine HK1.out.mono ?_; rintro e w1 ⟨rfl, hb1⟩; obtain ⟨d1, d2, d3⟩ := HC.out w1 hb1)
    all_goals (go_ret; exact ⟨rfl, hb1⟩)
   ·have s2' : ¬ (16384 : Int) < (N1 : Int) := by omega
    have s3' : (32768 : Int) < (N3 : Int) := by omega
    clear s1 s2
    go_enter Tryz.func36, Tryz.ntmps36
    go_wp2_with (go_at_call 69; refine HK1.out.mono ?_; rintro e w1 ⟨rfl, hb1⟩; obtain ⟨d1, d2, d3⟩ := HC.out w1 hb1)
    all_goals (go_ret; exact ⟨rfl, hb1⟩)
  ·rw [if_neg s1]
   have s2' : ¬ (16384 : Int) < (N1 : Int) := by omega
   have s3' : ¬ (32768 : Int) < (N3 : Int) := by omega
   clear s1
   by_cases s4 : 4096 < N2
   ·rw [if_pos s4]
    have s4' : (4096 : Int) < (N2 : Int) := by omega
    clear s4
    go_enter Tryz.func36, Tryz.ntmps36
    go_wp2_with (go_at_call 69; refine HK1.out.mono ?_; rintro e w1 ⟨rfl, hb1⟩; obtain ⟨d1, d2, d3⟩ := HC.out w1 hb1)
    all_goals (go_ret; exact ⟨rfl, hb1⟩)
   ·rw [if_neg s4]
    have s4' : ¬ (4096 : Int) < (N2 : Int) := by omega
    clear s4
    cases X
    ·go_enter Tryz.func36, Tryz.ntmps36
     go_wp2_with (first
      | (go_at_call 69; refine HK1.out.mono ?_; rintro e w1 ⟨rfl, hb1⟩; obtain ⟨d1, d2, d3⟩ := HC.out w1 hb1)
      | (go_at_call 70; refine (HK2.out _ (HC0.out.below hb1)).mono ?_; rintro e w2 ⟨rfl, hb2⟩; have HB2 := bel hb1 hb2)
      | (go_at_call 71; refine (HK3.out _ (HC0.out.below HB2)).mono ?_; rintro e w3 ⟨rfl, hb3⟩; have HB3 := bel HB2 hb3))
     all_goals (go_ret; exact ⟨rfl, HB2⟩)
    ·cases Y
     ·go_enter Tryz.func36, Tryz.ntmps36
      go_wp2_with (first
       | (go_at_call 69; refine HK1.out.mono ?_; rintro e w1 ⟨rfl, hb1⟩; obtain ⟨d1, d2, d3⟩ := HC.out w1 hb1)
       | (go_at_call 70; refine (HK2.out _ (HC0.out.below hb1)).mono ?_; rintro e w2 ⟨rfl, hb2⟩; have HB2 := bel hb1 hb2)
       | (go_at_call 71; refine (HK3.out _ (HC0.out.below HB2)).mono ?_; rintro e w3 ⟨rfl, hb3⟩; have HB3 := bel HB2 hb3))
      all_goals (go_ret; exact ⟨rfl, HB3⟩)
     ·go_enter Tryz.func36, Tryz.ntmps36
      go_wp2_with (first
       | (go_at_call 69; refine HK1.out.mono ?_; rintro e w1 ⟨rfl, hb1⟩; obtain ⟨d1, d2, d3⟩ := HC.out w1 hb1)
       | (go_at_call 70; refine (HK2.out _ (HC0.out.below hb1)).mono ?_; rintro e w2 ⟨rfl, hb2⟩; have HB2 := bel hb1 hb2)
       | (go_at_call 71; refine (HK3.out _ (HC0.out.below HB2)).mono ?_; rintro e w3 ⟨rfl, hb3⟩; have HB3 := bel HB2 hb3))
      all_goals (go_ret; exact ⟨rfl, HB3⟩)
 ·rw [if_pos hE]
  have hE' : (E == 0) = false := by simpa using hE
  go_enter Tryz.func36, Tryz.ntmps36
  go_wp2_with (go_at_call 69; refine HK1.out.mono ?_; rintro e w1 ⟨rfl, hb1⟩)
  all_goals (go_ret; exact ⟨rfl, hb1⟩)
end Go.Proofs.YtgcmnkanjcfndaaGreatDoor
namespace Go.Proofs.YtgcmnkanjcfndaaGreatDoor
open Go.RowKit
set_option linter.unusedVariables false
set_option linter.unusedSimpArgs false
theorem info_Bool : (Tryz.prog.info? 4).map (fun i => (i.zero, i.size, i.bytes)) = some (some (.bool false), 1, 1) := by kernel_rfl
theorem make_B (m : Nat) (h : m ≤ 70368744177664) (w : World) : (Instr.makeSlice 82 (.int .i64 m) (.int .i64 m)).run Tryz.prog w = .ok (.slice (some ⟨w.heap.size, 0, none⟩) m m) (w.alloc (.cells (madeCells #[.bool false] m) 4)) :=
 run_make_row' (P := Tryz.prog) 82 4 (.bool false) 1 Tryz.underlying82 info_Bool rfl .i64 .i64 m (by omega) (by omega) w
theorem WS.start (w : World) (C n : Nat) : WS w.heap.size (w.heap.size + 1) C n w.heap.size (.slice none 0 0) (.slice none 0 0) ((w.alloc (.cells (madeCells #[.bool false] n) 4)).alloc (.cells #[.pointer (some ⟨C, 0, none⟩), .slice (some ⟨w.heap.size, 0, none⟩) n n, .slice none 0 0, .slice none 0 0] 93)) ⟨[], []⟩ := by
 have h1 := (World.rowIs_made w (.bool false) n 4).alloc (.cells #[.pointer (some ⟨C, 0, none⟩), .slice (some ⟨w.heap.size, 0, none⟩) n n, .slice none 0 0, .slice none 0 0] 93)
 have h2 := World.rowIs_alloc (w.alloc (.cells (madeCells #[.bool false] n) 4)) #[.pointer (some ⟨C, 0, none⟩), .slice (some ⟨w.heap.size, 0, none⟩) n n, .slice none 0 0, .slice none 0 0] 93 (wkF C w.heap.size n (.slice none 0 0) (.slice none 0 0)) (fun i hi => by
  have hi' : i < 4 := hi
  obtain rfl | rfl | rfl | rfl : i = 0 ∨ i = 1 ∨ i = 2 ∨ i = 3 := by omega
  all_goals rfl)
 have hs : (w.alloc (.cells (madeCells #[.bool false] n) 4)).heap.size = w.heap.size + 1 := by simp
 rw [hs] at h2
 exact ⟨h2, h1.congr fun j _ => by simp, World.ownsRow_nil _ _ _ 1, World.ownsRow_nil _ _ _ 3, by omega, Nat.le_refl _, by omega, by simp [Value.ownBlock], by simp [Value.ownBlock], by simp [Value.ownBlock], by simp [Value.ownBlock], by simp [Value.ownBlock]⟩
set_option maxRecDepth 100000 in
set_option maxHeartbeats 4000000 in
theorem check_any (v0 v1 v2 v3 : Value) (c : Cd) (hk : CdOk c) (w : World) (hv : CdV w v0 v1 v2 v3 c) :
  Calls Tryz.prog 15 #[.agg #[v0, v1, v2, v3]] w fun e w' => e = .returned (.tuple #[.int .i64 (checkC c).1, .int .i64 (checkC c).2]) ∧ Below w.heap.size w w' := by
 have hat : CdAt (w.alloc (.cells #[v0, v1, v2, v3] 27)) w.heap.size v0 v1 v2 v3 c := by
  refine ⟨fun j hj => ?_, hv.below (bel_alloc _ _)⟩
  have hj' : j < 4 := hj
  obtain rfl | rfl | rfl | rfl : j = 0 ∨ j = 1 ∨ j = 2 ∨ j = 3 := by omega
  all_goals simp [go_sem]
 have K1 := faultAhead_any w.heap.size v0 v1 v2 v3 c hk _ hat
 unfold checkC
 obtain ⟨A, hA⟩ : ∃ A, aheadP c = A := ⟨_, rfl⟩
 rw [hA] at K1 ⊢
 have HK1 : Hid (Calls Tryz.prog 36 #[.pointer (some ⟨w.heap.size, 0, none⟩)] (w.alloc (.cells #[v0, v1, v2, v3] 27)) fun e w' => e = .returned (.int .i64 A) ∧ Below (w.alloc (.cells #[v0, v1, v2, v3] 27)).heap.size (w.alloc (.cells #[v0, v1, v2, v3] 27)) w') := K1
 clear K1
 by_cases h0 : A = 0
 ·rw [if_neg (by simp [h0])]
  have hsz : c.regs.length ≤ 16384 ∧ c.list.length ≤ 32768 ∧ typesMay c = true := by
   rw [h0] at hA
   unfold aheadP at hA
   split at hA
   ·rename_i e1; exact absurd hA e1
   ·split at hA
    ·exact absurd hA (by decide)
    ·split at hA
     ·exact absurd hA (by decide)
     ·split at hA
      ·rename_i e1 e2 e3 e4
       simp only [Bool.and_eq_true] at e4
       exact ⟨by omega, by omega, e4.1⟩
      ·exact absurd hA (by decide)
  obtain ⟨hn, hN, htm⟩ := hsz
  clear hA
  subst h0
  have KT := fun E G gi vs vo s b o i w h ok hc hi hb hb0 hb1 => take_any E G w.heap.size c.regs.length gi vs vo s v0 v1 v2 v3 c hk b o i w h rfl ok hn hc hi hb htm hb0 hb1
  clear KT
  have hr := hv.list
  obtain ⟨p3, q3, rfl, hr3⟩ := hv.list
  obtain ⟨p1, q1, rfl, hr1⟩ := hv.regs
  have HAT : Hid (CdAt (w.alloc (.cells #[v0, .slice p1 c.regs.length q1, v2, .slice p3 c.list.length q3] 27)) w.heap.size v0 (.slice p1 c.regs.length q1) v2 (.slice p3 c.list.length q3) c) := hat
  obtain ⟨Pr, hPr⟩ : ∃ P, goP c ⟨[], []⟩ 0 c.list = P := ⟨_, rfl⟩
  rw [hPr]
  have HP : Hid (goP c ⟨[], []⟩ 0 c.list = Pr) := hPr
  have HROW : Hid (RowG 7 inC w (.slice p3 c.list.length q3) c.list) := hr
  have HIB : Hid (∀ i ∈ c.list, 0 ≤ i.bits ∧ i.bits < 4294967296) := hk.ibits
  obtain ⟨n, hnn⟩ : ∃ n, c.regs.length = n := ⟨_, rfl⟩
  obtain ⟨N, hNN⟩ : ∃ N, c.list.length = N := ⟨_, rfl⟩
  have HNE : Hid (c.regs.length = n) := hnn
  have HNL : Hid (c.list.length = N) := hNN
  rw [hnn] at hn HK1 HAT
  rw [hNN] at hN HK1 HAT HROW
  rw [hnn, hNN]
  have mk := fun w => make_B n (by omega) w
  have HOKC : Hid (CdOk c) := hk
  have HTM : Hid (typesMay c = true) := htm
  have f1 := HAT.out.1.at 1 rfl
  have f3 := HAT.out.1.at 3 rfl
  rw [Nat.zero_add] at f1 f3
  have HC : Hid (∀ v, Below (w.alloc (.cells #[v0, .slice p1 n q1, v2, .slice p3 N q3] 27)).heap.size (w.alloc (.cells #[v0, .slice p1 n q1, v2, .slice p3 N q3] 27)) v → v.cell? ⟨w.heap.size, 1, none⟩ = some (.slice p1 n q1) ∧ v.cell? ⟨w.heap.size, 3, none⟩ = some (.slice p3 N q3)) := fun v hv => ⟨kc hv f1, kc hv f3⟩
  clear hat hv hr hr3 hr1 hPr hnn hNN hk htm f1 f3
  go_enter Tryz.func15, Tryz.ntmps15
  go_wp2_with (go_at_call 36; refine HK1.out.mono ?_; rintro e w1 ⟨rfl, hb1⟩; obtain ⟨g1, g3⟩ := HC.out w1 hb1; have g4 : ((w1.alloc (.cells (madeCells #[.bool false] n) 4)).alloc (.cells #[.pointer (some ⟨w.heap.size, 0, none⟩), .slice (some ⟨w1.heap.size, 0, none⟩) n n, .slice none 0 0, .slice none 0 0] 93)).cell? ⟨w.heap.size, 3, none⟩ = some (.slice p3 N q3) := kc (bel_alloc _ _) (kc (bel_alloc _ _) g3))
  have HB1 : Hid (Below w.heap.size w w1) := bel (bel_alloc _ _) hb1
  have HAT1 : Hid (CdAt w1 w.heap.size v0 (.slice p1 n q1) v2 (.slice p3 N q3) c) := HAT.out.below hb1
  have hs1 : w.heap.size < w1.heap.size := by have := hb1.size; simp at this; omega
  have HS0 := WS.start w1 w.heap.size n
  have HB0 : Below w1.heap.size w1 ((w1.alloc (.cells (madeCells #[.bool false] n) 4)).alloc (.cells #[.pointer (some ⟨w.heap.size, 0, none⟩), .slice (some ⟨w1.heap.size, 0, none⟩) n n, .slice none 0 0, .slice none 0 0] 93)) := bel (bel_alloc _ _) (bel_alloc _ _)
  obtain ⟨W2, hW2⟩ : ∃ W2, (w1.alloc (.cells (madeCells #[.bool false] n) 4)).alloc (.cells #[.pointer (some ⟨w.heap.size, 0, none⟩), .slice (some ⟨w1.heap.size, 0, none⟩) n n, .slice none 0 0, .slice none 0 0] 93) = W2 := ⟨_, rfl⟩
  rw [hW2] at HS0 HB0
  try rw [hW2]
  clear HK1 HC hb1 mk HAT g4 hW2
  go_loopw [19] (fun iv wr => ∃ (j : Nat) (s : Wk) (vs vo : Value), j ≤ N ∧ iv = .int .i64 j ∧ Below w1.heap.size w1 wr ∧ WS w1.heap.size (w1.heap.size + 1) w.heap.size n w1.heap.size vs vo wr s ∧ OkS n s ∧ Hid (goP c s j (c.list.drop j) = Pr)) (fun iv _ => N - (intOf iv).toNat)
  case atStart => exact ⟨0, ⟨[], []⟩, _, _, Nat.zero_le _, rfl, HB0, HS0, OkS.start n, by show _ = _; rw [List.drop_zero]; exact HP.out⟩
  case round =>
   obtain ⟨j, s, vs, vo, hj, rfl, hb, hws, hok, hgo⟩ := hrel
   have HWS : Hid (WS w1.heap.size (w1.heap.size + 1) w.heap.size n w1.heap.size vs vo wr s) := hws
   have HOK : Hid (OkS n s) := hok
   have HBW : Hid (Below w1.heap.size w1 wr) := hb
   have d3 := kc hb g3
   have l3 := hws.c3
   have hol : ∃ p q, vo = .slice p s.opens.length q := own_len hws.opn
   have hnest := hok.nest
   clear HS0 HB0
   by_cases hlt : j < N
   ·have hll : j < c.list.length := by rw [HNL.out]; exact hlt
    have hgo' := hgo.out
    rw [List.drop_eq_getElem_cons hll] at hgo'
    have hgi : goP c s j (c.list[j] :: c.list.drop (j + 1)) = if takesP c s c.list[j] then goP c (stepP s c.list[j]) (j + 1) (c.list.drop (j + 1)) else (160, (j : Int)) := rfl
    rw [hgi] at hgo'
    obtain ⟨b, o, rfl, hx⟩ := HROW.out.at hll
    have hbw : b < w.heap.size := mcell_lt (hx 0 (by simp [inC]))
    have hxw := (hx.below HB1.out).below hb
    have KT := take_any w1.heap.size (w1.heap.size + 1) w.heap.size n w1.heap.size vs vo s v0 (.slice p1 n q1) v2 (.slice (some ⟨b, o, none⟩) N q3) c HOKC.out b (o + j * 7) c.list[j] wr hws HNE.out hok hn (HAT1.out.below hb) hxw (by omega) HTM.out (HIB.out _ (List.getElem_mem hll)).1 (HIB.out _ (List.getElem_mem hll)).2
    have hokS : takesP c s c.list[j] = true → OkS n (stepP s c.list[j]) := fun ht => by
     have hq : OkS c.regs.length s := by rw [HNE.out]; exact hok
     have := OkS.step hq ht
     rw [HNE.out] at this
     exact this
    obtain ⟨X, hX⟩ : ∃ X, takesP c s c.list[j] = X := ⟨_, rfl⟩
    rw [hX] at hgo' hokS
    simp only [hX] at KT
    have HKT : Hid (Calls Tryz.prog 37 #[.pointer (some ⟨w1.heap.size + 1, 0, none⟩), .pointer (some ⟨b, o + j * 7, none⟩)] wr fun e w' => e = .returned (.bool X) ∧ Below w1.heap.size wr w' ∧ (X = true → ∃ vs' vo', WS w1.heap.size (w1.heap.size + 1) w.heap.size n w1.heap.size vs' vo' w' (stepP s c.list[j]))) := KT
    have HGO : Hid ((if X = true then goP c (stepP s c.list[j]) (j + 1) (c.list.drop (j + 1)) else (160, (j : Int))) = Pr) := hgo'
    have HOS : Hid (X = true → OkS n (stepP s c.list[j])) := hokS
    have i1 : (0 : Int) ≤ (j : Int) := by omega
    have i2 : (j : Int) < (N : Int) := by omega
    clear KT hgo hgo' hgi hokS hX hx hxw hws hok hb hol l3
    cases X
    ·go_wp2_with (go_at_call 37; refine HKT.out.mono ?_; rintro e w5 ⟨rfl, hb5, hw5⟩; have HB5 : Hid (Below w1.heap.size wr w5) := hb5; clear hb5 hw5)
     go_ret2
     refine ⟨?_, bel HB1.out (HBW.out.trans HB5.out)⟩
     have := HGO.out
     rw [if_neg (by decide)] at this
     rw [← this]
     rfl
    ·go_wp2_with (go_at_call 37; refine HKT.out.mono ?_; rintro e w5 ⟨rfl, hb5, hw5⟩; have HB5 : Hid (Below w1.heap.size wr w5) := hb5; have HW5 : Hid (∃ vs' vo', WS w1.heap.size (w1.heap.size + 1) w.heap.size n w1.heap.size vs' vo' w5 (stepP s c.list[j])) := hw5 (by first | rfl | trivial); clear hb5 hw5)
     go_roundw
     case rel =>
      obtain ⟨vs', vo', hw5⟩ := HW5.out
      exact ⟨j + 1, _, vs', vo', by omega, by go_num, HBW.out.trans HB5.out, hw5, HOS.out (by first | rfl | trivial), by show _ = _; have := HGO.out; rw [if_pos (by first | rfl | trivial)] at this; exact this⟩
     case measure => simp [intOf]; omega
   ·have : j = N := by omega
    subst this
    have hgo' := hgo.out
    rw [List.drop_of_length_le (by rw [HNL.out]; exact Nat.le_refl _)] at hgo'
    have hgi : goP c s j [] = if s.opens.isEmpty then (0, 0) else (160, (j : Int)) := rfl
    rw [hgi] at hgo'
    obtain ⟨p, q, rfl⟩ := hol
    obtain ⟨M, hM⟩ : ∃ M, s.opens.length = M := ⟨_, rfl⟩
    rw [hM] at l3 hnest
    have hE : s.opens.isEmpty = decide (M = 0) := by
     rw [← hM]
     cases s.opens with
     | nil => rfl
     | cons a l => simp
    rw [hE] at hgo'
    have HGO : Hid ((if decide (M = 0) = true then ((0 : Int), (0 : Int)) else (160, (j : Int))) = Pr) := hgo'
    clear hgo hgo' hgi hE hM hws hok hb
    by_cases hz : M = 0
    ·subst hz
     go_wp2
     go_ret2
     refine ⟨?_, bel HB1.out HBW.out⟩
     rw [← HGO.out]
     rfl
    ·have hz' : (0 : Int) < (M : Int) := by omega
     have hz2 : 0 < M := by omega
     have HZ : Hid (¬ M = 0) := hz
     clear hz
     go_wp2
     refine wp_region_held_drew (S := (fun v => v.cell? ⟨w.heap.size, 3, none⟩ = some (.slice p3 j q3))) (by kernel_rfl) ?_ (fun hHeld => ?_)
     ·((try dsimp only); go_keep)
     refine tkT 0 ?_
     refine tkT 1 ?_
     refine tkT 2 ?_
     refine tkT 3 ?_
     refine tkT 4 ?_
     refine wpAnyH_done (by kernel_rfl) ?_ _
     go_wp2
     go_ret2
     refine ⟨?_, (bel HB1.out HBW.out).drew⟩
     have := HGO.out
     rw [if_neg (by simpa using HZ.out)] at this
     rw [← this]
     rfl
 ·rw [if_pos h0]
  have h0' : (A == 0) = false := by simpa using h0
  go_enter Tryz.func15, Tryz.ntmps15
  go_wp2_with (go_at_call 36; refine HK1.out.mono ?_; rintro e w1 ⟨rfl, hb1⟩)
  all_goals (go_ret2; exact ⟨rfl, bel (bel_alloc _ _) hb1⟩)
end Go.Proofs.YtgcmnkanjcfndaaGreatDoor
namespace Go.Proofs.YtgcmnkanjcfndaaGreatDoor
open Go.RowKit
set_option linter.unusedVariables false
set_option linter.unusedSimpArgs false
def insV (i : Ins) : Value := .agg #[.int .i64 i.op, .int .i64 i.d, .int .i64 i.a, .int .i64 i.b, .int .i64 i.c, .int .i64 i.n, .int .u32 i.bits]
theorem ins_cells {w v : World} {i : Ins} {t : TypeId} (k : Below (w.alloc (.cells #[.int .i64 i.op, .int .i64 i.d, .int .i64 i.a, .int .i64 i.b, .int .i64 i.c, .int .i64 i.n, .int .u32 i.bits] t)).heap.size (w.alloc (.cells #[.int .i64 i.op, .int .i64 i.d, .int .i64 i.a, .int .i64 i.b, .int .i64 i.c, .int .i64 i.n, .int .u32 i.bits] t)) v) : CellsAt v w.heap.size 0 (inC i) := by
 refine CellsAt.below (fun j hj => ?_) k
 have hj' : j < 7 := hj
 obtain rfl | rfl | rfl | rfl | rfl | rfl | rfl : j = 0 ∨ j = 1 ∨ j = 2 ∨ j = 3 ∨ j = 4 ∨ j = 5 ∨ j = 6 := by omega
 all_goals simp [go_sem, inC]
set_option maxRecDepth 100000 in
set_option maxHeartbeats 1000000 in
theorem sets_any (i : Ins) (w : World) : Calls Tryz.prog 114 #[insV i] w fun e w' => e = .returned (.bool ((rowP i.op).d != 0)) ∧ Below w.heap.size w w' := by
 have K1 := fun w => rowOf_any i.op w
 obtain ⟨r, hr⟩ : ∃ r, rowP i.op = r := ⟨_, rfl⟩
 obtain ⟨X, hX⟩ : ∃ X, knownP i.op = X := ⟨_, rfl⟩
 simp only [hr, hX] at K1 ⊢
 obtain ⟨L0, L1, L2, L3, L4⟩ := r
 obtain ⟨op, D, A, B, E, n, bt⟩ := i
 unfold insV
 unfold rwV at K1
 simp only at K1 ⊢
 have HK : Hid (∀ w, Calls Tryz.prog 72 #[.int .i64 op] w fun e w' => e = .returned (.tuple #[.agg #[.int .i64 L0, .int .i64 L1, .int .i64 L2, .int .i64 L3, .int .i64 L4], .bool X]) ∧ Below w.heap.size w w') := K1
 clear K1 hr hX
 go_enter Tryz.func114, Tryz.ntmps114
 go_wp2_with (go_at_call 72; refine (HK.out _).mono ?_; rintro e w1 ⟨rfl, hb1⟩)
 go_ret
 exact ⟨rfl, bel (bel (bel_alloc _ _) hb1) (bel_alloc _ _)⟩
set_option maxRecDepth 100000 in
set_option maxHeartbeats 1000000 in
theorem reads_any (i : Ins) (w : World) : Calls Tryz.prog 115 #[insV i] w fun e w' => ∃ v, e = .returned v ∧ w'.ownsRow w.heap.size 3 1 v (readsP i (rowP i.op)).length (i64s (readsP i (rowP i.op))) ∧ Below w.heap.size w w' := by
 have K1 := fun w => rowOf_any i.op w
 have K2 := fun w h => readBy_any w.heap.size 0 i (rowP i.op) w h
 clear K2
 have K3 := fun b v h => readBy_any b 0 i (rowP i.op) v h
 have HIC := fun (v : World) k => ins_cells (w := w) (v := v) (i := i) (t := 46) k
 obtain ⟨r, hr⟩ : ∃ r, rowP i.op = r := ⟨_, rfl⟩
 obtain ⟨X, hX⟩ : ∃ X, knownP i.op = X := ⟨_, rfl⟩
 simp only [hr, hX] at K1 K3 ⊢
 obtain ⟨RL, hRL⟩ : ∃ x, readsP i r = x := ⟨_, rfl⟩
 simp only [hRL] at K3 ⊢
 obtain ⟨L0, L1, L2, L3, L4⟩ := r
 obtain ⟨op, D, A, B, E, n, bt⟩ := i
 unfold insV
 unfold rwV at K1 K3
 simp only at K1 K3 HIC ⊢
 have HK : Hid (∀ w, Calls Tryz.prog 72 #[.int .i64 op] w fun e w' => e = .returned (.tuple #[.agg #[.int .i64 L0, .int .i64 L1, .int .i64 L2, .int .i64 L3, .int .i64 L4], .bool X]) ∧ Below w.heap.size w w') := K1
 have HK3 : Hid (∀ b v, CellsAt v b 0 (inC ⟨op, D, A, B, E, n, bt⟩) → Calls Tryz.prog 75 #[.agg #[.int .i64 L0, .int .i64 L1, .int .i64 L2, .int .i64 L3, .int .i64 L4], .pointer (some ⟨b, 0, none⟩)] v fun e w' => ∃ u, e = .returned u ∧ w'.ownsRow v.heap.size 3 1 u RL.length (i64s RL) ∧ Below v.heap.size v w') := K3
 have HCC : Hid (∀ v, Below (w.alloc (.cells #[.int .i64 op, .int .i64 D, .int .i64 A, .int .i64 B, .int .i64 E, .int .i64 n, .int .u32 bt] 46)).heap.size (w.alloc (.cells #[.int .i64 op, .int .i64 D, .int .i64 A, .int .i64 B, .int .i64 E, .int .i64 n, .int .u32 bt] 46)) v → CellsAt v w.heap.size 0 (inC ⟨op, D, A, B, E, n, bt⟩)) := HIC
 clear K1 K3 HIC hr hX hRL
 go_enter Tryz.func115, Tryz.ntmps115
 go_wp2_with (first
  | (go_at_call 72; refine (HK.out _).mono ?_; rintro e w1 ⟨rfl, hb1⟩)
  | (go_at_call 75; refine (HK3.out _ _ (HCC.out _ (bel hb1 (bel_alloc _ _)))).mono ?_; rintro e w2 ⟨u, rfl, hu, hb2⟩; have HU : Hid (w2.ownsRow (w1.alloc (.cells #[.int .i64 L0, .int .i64 L1, .int .i64 L2, .int .i64 L3, .int .i64 L4] 129)).heap.size 3 1 u RL.length (i64s RL)) := hu; have HB2 : Hid (Below w.heap.size w w2) := bel (bel (bel (bel_alloc _ _) hb1) (bel_alloc _ _)) hb2; have hs : w.heap.size ≤ (w1.alloc (.cells #[.int .i64 L0, .int .i64 L1, .int .i64 L2, .int .i64 L3, .int .i64 L4] 129)).heap.size := (bel (bel (bel_alloc _ _) hb1) (bel_alloc _ _)).size; have HSZ : Hid (w.heap.size ≤ (w1.alloc (.cells #[.int .i64 L0, .int .i64 L1, .int .i64 L2, .int .i64 L3, .int .i64 L4] 129)).heap.size) := hs; clear hu hb2 hs))
 go_ret
 exact ⟨_, rfl, own_mono HU.out HSZ.out, HB2.out⟩
def flat {α : Type} (f : α → List Value) (l : List α) : List Value := l.flatMap f
theorem flat_at {α : Type} {f : α → List Value} {k : Nat} (hf : ∀ x, (f x).length = k) : ∀ (l : List α) (i j : Nat) (hi : i < l.length), j < k → (flat f l)[i * k + j]? = (f l[i])[j]?
 | [], i, j, hi, hj => absurd hi (Nat.not_lt_zero _)
 | a :: l, 0, j, hi, hj => by
  have e : flat f (a :: l) = f a ++ flat f l := by simp [flat]
  rw [e, Nat.zero_mul, Nat.zero_add, List.getElem?_append_left (by rw [hf]; exact hj)]
  rfl
 | a :: l, i + 1, j, hi, hj => by
  have e : flat f (a :: l) = f a ++ flat f l := by simp [flat]
  have e2 : (i + 1) * k + j - (f a).length = i * k + j := by rw [hf, Nat.add_mul, Nat.one_mul]; omega
  rw [e, List.getElem?_append_right (by rw [hf, Nat.add_mul, Nat.one_mul]; omega), e2]
  exact flat_at hf l i j (by simpa using hi) hj
theorem flat_append {α : Type} (f : α → List Value) (l m : List α) : flat f (l ++ m) = flat f l ++ flat f m := by simp [flat]
theorem own_row {α : Type} {f : α → List Value} {k : Nat} (hf : ∀ x, (f x).length = k) {w : World} {B : Nat} {t : TypeId} {v : Value} {l : List α} (h : w.ownsRow B t k v l.length (flat f l)) : RowG k f w v l := by
 by_cases h0 : l = []
 ·subst h0
  obtain ⟨p, c, hv⟩ := own_len h
  exact ⟨p, c, hv, .inl rfl⟩
 ·obtain ⟨g, cap, hv, _, _, _, _, hcl⟩ := own_open h (List.length_pos_iff.2 h0)
  refine ⟨_, cap, hv, .inr ⟨g, 0, rfl, fun i hi j hj => ?_⟩⟩
  rw [Nat.zero_add]
  exact hcl _ _ (by rw [flat_at hf l i j hi (by rw [← hf l[i]]; exact hj)]; exact List.getElem?_eq_getElem hj)
theorem add_none (b o j : Nat) : (⟨b, o, none⟩ : Addr).add j = ⟨b, o + j, none⟩ := by unfold Addr.add; split <;> simp_all
theorem wpList_app {P : Program} {w w' : World} {ops : Array Oper} {rest : List Oper} {o : Oper} {a : Act} {Q : Exit → Act → World → Prop} (hgd : o.guard = none) (s x : Operand) (t : TypeId)
  (ho : o.op = .call { callee := .builtin .append, args := #[s, x], argTypes := #[t, t] }) (v v2 v' : Value) (hs : a.eval s = v) (hx : a.eval x = v2) (hr : (Builtin.append_ #[t, t] o.type #[v, v2]).run P w = .ok v' w')
  (h : wpList P ops Q rest (a.put o.dst v') w') : wpList P ops Q (o :: rest) a w :=
 wpList_plain hgd fun _ hK => by
  unfold Oper.wp execOp
  simp only [ho, resolve, invoke, builtin, Sem.run_bind, Sem.run_pure, Result.andThen_ok, List.map_toArray, List.map_cons, List.map_nil, hs, hx, hr]
  exact hK _ _ h
theorem inC_one : ∀ x : Ins, ∀ u ∈ inC x, u.oneCell' = true := fun x u hu => by simp [inC] at hu; rcases hu with rfl | rfl | rfl | rfl | rfl | rfl | rfl <;> rfl
end Go.Proofs.YtgcmnkanjcfndaaGreatDoor
namespace Go.Proofs.YtgcmnkanjcfndaaGreatDoor
open Go.RowKit
set_option linter.unusedVariables false
set_option linter.unusedSimpArgs false
end Go.Proofs.YtgcmnkanjcfndaaGreatDoor
namespace Go.Proofs.YtgcmnkanjcfndaaGreatDoor
open Go.RowKit
set_option linter.unusedVariables false
set_option linter.unusedSimpArgs false
end Go.Proofs.YtgcmnkanjcfndaaGreatDoor
namespace Go.Proofs.YtgcmnkanjcfndaaGreatDoor
open Go.RowKit
set_option linter.unusedVariables false
set_option linter.unusedSimpArgs false
def setsP (i : Ins) : Bool := (rowP i.op).d != 0
set_option maxRecDepth 100000 in
set_option maxHeartbeats 1000000 in
theorem relem_any (op : Int) (w : World) : Calls Tryz.prog 97 #[.int .i64 op] w fun e w' => e = .returned (.bool (elemP op)) ∧ w' = w := by
 unfold elemP
 by_cases h : 3 ≤ op
 all_goals
  go_enter Tryz.func97, Tryz.ntmps97
  go_wp2
  go_ret
  exact ⟨ret_bool (by simp [h]; try omega), rfl⟩
theorem u8ne (a : UInt8) (X : Bool) (h : (a == 45) = X) : ((a.toNat : Int) != 45) = !X := by
 rw [← h]
 have : ((a.toNat : Int) == 45) = (a == 45) := by
  rw [Bool.eq_iff_iff]
  simp only [beq_iff_eq]
  constructor
  ·intro e
   apply UInt8.toNat_inj.1
   show a.toNat = 45
   omega
  ·intro e; subst e; rfl
 simp [bne, this]
set_option maxRecDepth 100000 in
set_option maxHeartbeats 2000000 in
theorem rsets_any (i : Ins) (w : World) : Calls Tryz.prog 35 #[insV i] w fun e w' => e = .returned (.bool (setsP i)) ∧ Below w.heap.size w w' := by
 unfold setsP
 rcases rrow_any i.op (w.alloc (.cells #[.int .i64 i.op, .int .i64 i.d, .int .i64 i.a, .int .i64 i.b, .int .i64 i.c, .int .i64 i.n, .int .u32 i.bits] 46)) with ⟨hk, hc⟩ | ⟨hk, a, b, c, d, e, ht, hc⟩
 ·rw [row_none i.op hk]
  obtain ⟨op, D, A, B, E, n, bt⟩ := i
  unfold insV
  simp only at hc hk ⊢
  have HK : Hid (Calls Tryz.prog 68 #[.int .i64 op] (w.alloc (.cells #[.int .i64 op, .int .i64 D, .int .i64 A, .int .i64 B, .int .i64 E, .int .i64 n, .int .u32 bt] 46)) fun e w' => e = .returned (.tuple #[.string ⟨#[]⟩, .bool false]) ∧ w' = w.alloc (.cells #[.int .i64 op, .int .i64 D, .int .i64 A, .int .i64 B, .int .i64 E, .int .i64 n, .int .u32 bt] 46)) := hc
  clear hc
  go_enter Tryz.func35, Tryz.ntmps35
  go_wp2_with (go_at_call 68; refine HK.out.mono ?_; rintro e w1 ⟨rfl, rfl⟩)
  go_ret
  exact ⟨rfl, bel_alloc _ _⟩
 ·have h1 := u8ne a _ ht.a
  obtain ⟨X, hX⟩ : ∃ X, (rowP i.op).d = X := ⟨_, rfl⟩
  rw [hX] at h1 ⊢
  obtain ⟨op, D, A, B, E, n, bt⟩ := i
  unfold insV
  simp only at hc ⊢
  have HK : Hid (∀ w, Calls Tryz.prog 68 #[.int .i64 op] w fun x w' => x = .returned (.tuple #[.string ⟨#[a, b, c, d, e]⟩, .bool true]) ∧ w' = w) := hc
  have ix : ∀ w, (Instr.index 9 (.string ⟨#[a, b, c, d, e]⟩) (.int .i64 0)).run Tryz.prog w = .ok (.int .u8 (a.toNat : Int)) w := fun w => by simp [Instr.index, run_underlying Tryz.underlying9, asIntOf, go_sem]; rfl
  clear hc ht hX
  go_enter Tryz.func35, Tryz.ntmps35
  go_wp2_with (go_at_call 68; refine (HK.out _).mono ?_; rintro e w1 ⟨rfl, rfl⟩)
  go_ret
  refine ⟨ret_bool ?_, bel_alloc _ _⟩
  first | exact h1 | (simp only [h1]; rfl) | simp [h1, bne]
structure RRd (w : World) (C Q : Nat) (A B E : Int) (v : World) : Prop where
 bel : Below w.heap.size w v
 hC : w.heap.size ≤ C
 hQ : Q < C
 le : C ≤ v.heap.size
 g0 : v.cell? ⟨Q, 0, none⟩ = some (.int .i64 A)
 g1 : v.cell? ⟨Q, 1, none⟩ = some (.int .i64 B)
 g2 : v.cell? ⟨Q, 2, none⟩ = some (.int .i64 E)
theorem RRd.next {w : World} {C Q : Nat} {A B E : Int} {v v' : World} (h : RRd w C Q A B E v) (k : Below C v v') : RRd w C Q A B E v' := by
 have c1 : ∀ {a : Addr} {u : Value}, a.block < C → v.cell? a = some u → v'.cell? a = some u := fun ha hu => (k.cell ha).trans hu
 exact ⟨h.bel.trans (k.mono h.hC), h.hC, h.hQ, Nat.le_trans h.le k.size, c1 h.hQ h.g0, c1 h.hQ h.g1, c1 h.hQ h.g2⟩
set_option maxRecDepth 100000 in
set_option maxHeartbeats 4000000 in
theorem rreads_any (i : Ins) (w : World) : Calls Tryz.prog 53 #[insV i] w fun e w' => ∃ v, e = .returned v ∧ w'.ownsRow w.heap.size 3 1 v (readsP i (rowP i.op)).length (i64s (readsP i (rowP i.op))) ∧ Below w.heap.size w w' := by
 rcases rrow_any i.op (w.alloc (.cells #[.int .i64 i.op, .int .i64 i.d, .int .i64 i.a, .int .i64 i.b, .int .i64 i.c, .int .i64 i.n, .int .u32 i.bits] 46)) with ⟨hk, hc⟩ | ⟨hk, a, b, c, d, e, ht, hc⟩
 ·rw [row_none i.op hk, show readsP i ⟨0, 0, 0, 0, 0⟩ = [] from rfl]
  obtain ⟨op, D, A, B, E, n, bt⟩ := i
  unfold insV
  simp only at hc hk ⊢
  have HK : Hid (Calls Tryz.prog 68 #[.int .i64 op] (w.alloc (.cells #[.int .i64 op, .int .i64 D, .int .i64 A, .int .i64 B, .int .i64 E, .int .i64 n, .int .u32 bt] 46)) fun e w' => e = .returned (.tuple #[.string ⟨#[]⟩, .bool false]) ∧ w' = w.alloc (.cells #[.int .i64 op, .int .i64 D, .int .i64 A, .int .i64 B, .int .i64 E, .int .i64 n, .int .u32 bt] 46)) := hc
  clear hc
  go_enter Tryz.func53, Tryz.ntmps53
  go_wp2_with (go_at_call 68; refine HK.out.mono ?_; rintro e w1 ⟨rfl, rfl⟩)
  go_loopw [3, 7] (fun lv iv wr => lv = .slice none 0 0 ∧ iv = .int .i64 0 ∧ Below w.heap.size w wr) (fun _ iv _ => 0)
  case atStart => exact ⟨rfl, rfl, bel (bel_alloc _ _) (bel_alloc _ _)⟩
  case round =>
   obtain ⟨rfl, rfl, hb⟩ := hrel
   go_wp2
   go_ret
   exact ⟨_, rfl, World.ownsRow_nil _ _ _ 1, hb⟩
 ·rw [reads_eq]
  have h1 := u8ne b _ ht.b
  have h2 := u8ne c _ ht.c
  have h3 := u8ne d _ ht.d
  obtain ⟨i0, hi0, hz0, hz1, hz3⟩ := info_parts info_Int
  obtain ⟨r, hr⟩ : ∃ r, rowP i.op = r := ⟨_, rfl⟩
  rw [hr] at h1 h2 h3 ⊢
  obtain ⟨L0, L1, L2, L3, L4⟩ := r
  obtain ⟨op, D, A, B, E, n, bt⟩ := i
  unfold insV
  simp only at hc h1 h2 h3 ⊢
  obtain ⟨R, hR⟩ : ∃ R, (rd1 L1 A ++ rd1 L2 B) ++ rd1 L3 E = R := ⟨_, rfl⟩
  rw [hR]
  have HR : Hid ((rd1 L1 A ++ rd1 L2 B) ++ rd1 L3 E = R) := hR
  have HK : Hid (∀ w, Calls Tryz.prog 68 #[.int .i64 op] w fun x w' => x = .returned (.tuple #[.string ⟨#[a, b, c, d, e]⟩, .bool true]) ∧ w' = w) := hc
  clear hc ht hr hR hk
  go_enter Tryz.func53, Tryz.ntmps53
  go_wp2_with (go_at_call 68; refine (HK.out _).mono ?_; rintro e w1 ⟨rfl, rfl⟩)
  have HF1 : Hid (RRd w (w.heap.size + 1 + 1) (w.heap.size + 1) A B E ((w.alloc (.cells #[.int .i64 op, .int .i64 D, .int .i64 A, .int .i64 B, .int .i64 E, .int .i64 n, .int .u32 bt] 46)).alloc (.cells #[.int .i64 A, .int .i64 B, .int .i64 E] 3))) :=
   ⟨bel (bel_alloc _ _) (bel_alloc _ _), by omega, by omega, by simp, by simp [go_sem], by simp [go_sem], by simp [go_sem]⟩
  obtain ⟨W, hW⟩ : ∃ W, (w.alloc (.cells #[.int .i64 op, .int .i64 D, .int .i64 A, .int .i64 B, .int .i64 E, .int .i64 n, .int .u32 bt] 46)).alloc (.cells #[.int .i64 A, .int .i64 B, .int .i64 E] 3) = W := ⟨_, rfl⟩
  rw [hW] at HF1 ⊢
  obtain ⟨Q, hQ⟩ : ∃ Q, w.heap.size + 1 = Q := ⟨_, rfl⟩
  rw [hQ] at HF1
  try rw [hQ]
  clear hW
  go_loopw [3, 7] (fun lv iv wr => RRd w (Q + 1) Q A B E wr ∧ ∃ (j : Nat) (l : List Int), j ≤ 3 ∧ iv = .int .i64 j ∧ l.length ≤ j ∧ Hid (wr.ownsRow (Q + 1) 3 1 lv l.length (i64s l)) ∧ Hid ((j = 0 → l = []) ∧ (j = 1 → l = rd1 L1 A) ∧ (j = 2 → l = rd1 L1 A ++ rd1 L2 B) ∧ (j = 3 → l = (rd1 L1 A ++ rd1 L2 B) ++ rd1 L3 E))) (fun _ iv _ => 3 - (intOf iv).toNat)
  case atStart => exact ⟨HF1.out, 0, [], by omega, rfl, by simp, World.ownsRow_nil _ _ _ 1, ⟨fun _ => rfl, fun h => absurd h (by omega), fun h => absurd h (by omega), fun h => absurd h (by omega)⟩⟩
  case round =>
   clear HF1 HK
   obtain ⟨hF, j, l, hj, rfl, hll, HO, HL⟩ := hrel
   have HF : Hid (RRd w (Q + 1) Q A B E wr) := hF
   have hGw := hF.le
   have hn1 : Q ≠ wr.heap.size := by omega
   obtain rfl | rfl | rfl | rfl : j = 0 ∨ j = 1 ∨ j = 2 ∨ j = 3 := by omega
   ·have g0 := hF.g0
    have f0 := kc (bel_alloc wr (.cells #[.int .i64 A] 3)) g0
    have hl0 := HL.out.1 rfl
    have ix : ∀ w, (Instr.index 9 (.string ⟨#[a, b, c, d, e]⟩) (.int .i64 1)).run Tryz.prog w = .ok (.int .u8 (b.toNat : Int)) w := fun w => by simp [Instr.index, run_underlying Tryz.underlying9, asIntOf, go_sem]; rfl
    have hq := h1
    clear hF h1 h2 h3
    by_cases hz : L1 = 0
    ·have hz' : (!(L1 == 0)) = false := by simp [hz]
     rw [hz'] at hq
     have hq2 : ((b.toNat : Int) == 45) = true := by simpa [bne] using hq
     have HZ : Hid (L1 = 0) := hz
     clear hz
     go_wp2
     go_roundw
     case rel => exact ⟨HF.out, 1, l, by omega, by first | rfl | go_num, by omega, HO, ⟨fun h => absurd h (by omega), fun _ => by rw [hl0]; unfold rd1; simp [HZ.out], fun h => absurd h (by omega), fun h => absurd h (by omega)⟩⟩
     case measure => simp [intOf]
    ·have hz' : (!(L1 == 0)) = true := by simp [hz]
     rw [hz'] at hq
     have hq2 : ((b.toNat : Int) == 45) = false := by simpa [bne] using hq
     have HZ : Hid (¬ L1 = 0) := hz
     clear hz
     go_wp2_with (first
      | (at_builtin; refine wpList_append_own_at _ rfl _ _ 90 rfl (Q + 1) 3 i0 _ 1 8 Tryz.underlying90 hi0 hz0 hz1 hz3 rfl (by decide) _ l.length (i64s l) rfl (World.ownsRow.alloc HO.out _) ⟨wr.heap.size, 0, none⟩ 1 1 [.int .i64 A] rfl rfl (World.news_of_block (cs := #[.int .i64 A]) (t := 3) (fr := (0, 0)) (heap_alloc_new wr _)) (by simp [Value.oneCell']) (by unfold maxLen; omega) (by omega) (by simp; omega) ?_; intro v' w3 hown3 hgrow hnil hat; have HO3 : Hid (w3.ownsRow (Q + 1) 3 1 v' (l.length + 1) (i64s l ++ [.int .i64 A])) := hown3; have HB3 : Hid (Below (Q + 1) wr w3) := (Below.alloc (Below.refl _ _) hGw _).grown hgrow (by simp; omega) (fun q e => (HO.out.lt q e).1); clear hown3 hgrow hnil hat))
     go_roundw
     case rel => exact ⟨HF.out.next HB3.out, 1, l ++ [A], by omega, by first | rfl | go_num, by simp; omega, by show _; rw [List.length_append, i64s_snoc]; exact HO3.out, ⟨fun h => absurd h (by omega), fun _ => by rw [hl0, show rd1 L1 A = [A] from if_neg HZ.out]; try rfl, fun h => absurd h (by omega), fun h => absurd h (by omega)⟩⟩
     case measure => simp [intOf]
   ·have g0 := hF.g1
    have f0 := kc (bel_alloc wr (.cells #[.int .i64 B] 3)) g0
    have hl0 := HL.out.2.1 rfl
    have ix : ∀ w, (Instr.index 9 (.string ⟨#[a, b, c, d, e]⟩) (.int .i64 2)).run Tryz.prog w = .ok (.int .u8 (c.toNat : Int)) w := fun w => by simp [Instr.index, run_underlying Tryz.underlying9, asIntOf, go_sem]; rfl
    have hq := h2
    clear hF h1 h2 h3
    by_cases hz : L2 = 0
    ·have hz' : (!(L2 == 0)) = false := by simp [hz]
     rw [hz'] at hq
     have hq2 : ((c.toNat : Int) == 45) = true := by simpa [bne] using hq
     have HZ : Hid (L2 = 0) := hz
     clear hz
     go_wp2
     go_roundw
     case rel => exact ⟨HF.out, 2, l, by omega, by first | rfl | go_num, by omega, HO, ⟨fun h => absurd h (by omega), fun h => absurd h (by omega), fun _ => by rw [hl0]; unfold rd1; simp [HZ.out], fun h => absurd h (by omega)⟩⟩
     case measure => simp [intOf]
    ·have hz' : (!(L2 == 0)) = true := by simp [hz]
     rw [hz'] at hq
     have hq2 : ((c.toNat : Int) == 45) = false := by simpa [bne] using hq
     have HZ : Hid (¬ L2 = 0) := hz
     clear hz
     go_wp2_with (first
      | (at_builtin; refine wpList_append_own_at _ rfl _ _ 90 rfl (Q + 1) 3 i0 _ 1 8 Tryz.underlying90 hi0 hz0 hz1 hz3 rfl (by decide) _ l.length (i64s l) rfl (World.ownsRow.alloc HO.out _) ⟨wr.heap.size, 0, none⟩ 1 1 [.int .i64 B] rfl rfl (World.news_of_block (cs := #[.int .i64 B]) (t := 3) (fr := (0, 0)) (heap_alloc_new wr _)) (by simp [Value.oneCell']) (by unfold maxLen; omega) (by omega) (by simp; omega) ?_; intro v' w3 hown3 hgrow hnil hat; have HO3 : Hid (w3.ownsRow (Q + 1) 3 1 v' (l.length + 1) (i64s l ++ [.int .i64 B])) := hown3; have HB3 : Hid (Below (Q + 1) wr w3) := (Below.alloc (Below.refl _ _) hGw _).grown hgrow (by simp; omega) (fun q e => (HO.out.lt q e).1); clear hown3 hgrow hnil hat))
     go_roundw
     case rel => exact ⟨HF.out.next HB3.out, 2, l ++ [B], by omega, by first | rfl | go_num, by simp; omega, by show _; rw [List.length_append, i64s_snoc]; exact HO3.out, ⟨fun h => absurd h (by omega), fun h => absurd h (by omega), fun _ => by rw [hl0, show rd1 L2 B = [B] from if_neg HZ.out]; try rfl, fun h => absurd h (by omega)⟩⟩
     case measure => simp [intOf]
   ·have g0 := hF.g2
    have f0 := kc (bel_alloc wr (.cells #[.int .i64 E] 3)) g0
    have hl0 := HL.out.2.2.1 rfl
    have ix : ∀ w, (Instr.index 9 (.string ⟨#[a, b, c, d, e]⟩) (.int .i64 3)).run Tryz.prog w = .ok (.int .u8 (d.toNat : Int)) w := fun w => by simp [Instr.index, run_underlying Tryz.underlying9, asIntOf, go_sem]; rfl
    have hq := h3
    clear hF h1 h2 h3
    by_cases hz : L3 = 0
    ·have hz' : (!(L3 == 0)) = false := by simp [hz]
     rw [hz'] at hq
     have hq2 : ((d.toNat : Int) == 45) = true := by simpa [bne] using hq
     have HZ : Hid (L3 = 0) := hz
     clear hz
     go_wp2
     go_roundw
     case rel => exact ⟨HF.out, 3, l, by omega, by first | rfl | go_num, by omega, HO, ⟨fun h => absurd h (by omega), fun h => absurd h (by omega), fun h => absurd h (by omega), fun _ => by rw [hl0]; unfold rd1; simp [HZ.out]⟩⟩
     case measure => simp [intOf]
    ·have hz' : (!(L3 == 0)) = true := by simp [hz]
     rw [hz'] at hq
     have hq2 : ((d.toNat : Int) == 45) = false := by simpa [bne] using hq
     have HZ : Hid (¬ L3 = 0) := hz
     clear hz
     go_wp2_with (first
      | (at_builtin; refine wpList_append_own_at _ rfl _ _ 90 rfl (Q + 1) 3 i0 _ 1 8 Tryz.underlying90 hi0 hz0 hz1 hz3 rfl (by decide) _ l.length (i64s l) rfl (World.ownsRow.alloc HO.out _) ⟨wr.heap.size, 0, none⟩ 1 1 [.int .i64 E] rfl rfl (World.news_of_block (cs := #[.int .i64 E]) (t := 3) (fr := (0, 0)) (heap_alloc_new wr _)) (by simp [Value.oneCell']) (by unfold maxLen; omega) (by omega) (by simp; omega) ?_; intro v' w3 hown3 hgrow hnil hat; have HO3 : Hid (w3.ownsRow (Q + 1) 3 1 v' (l.length + 1) (i64s l ++ [.int .i64 E])) := hown3; have HB3 : Hid (Below (Q + 1) wr w3) := (Below.alloc (Below.refl _ _) hGw _).grown hgrow (by simp; omega) (fun q e => (HO.out.lt q e).1); clear hown3 hgrow hnil hat))
     go_roundw
     case rel => exact ⟨HF.out.next HB3.out, 3, l ++ [E], by omega, by first | rfl | go_num, by simp; omega, by show _; rw [List.length_append, i64s_snoc]; exact HO3.out, ⟨fun h => absurd h (by omega), fun h => absurd h (by omega), fun h => absurd h (by omega), fun _ => by rw [hl0, show rd1 L3 E = [E] from if_neg HZ.out]; try rfl⟩⟩
     case measure => simp [intOf]
   ·have hl0 := HL.out.2.2.2 rfl
    clear hF
    go_wp2
    go_ret
    refine ⟨_, rfl, ?_, HF.out.bel⟩
    rw [← HR.out, ← hl0]
    exact own_mono HO.out (by have := HF.out.hC; omega)
end Go.Proofs.YtgcmnkanjcfndaaGreatDoor
