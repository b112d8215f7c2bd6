import Derived.Test.YtgcmnkanjcfndaaGreatDoorTxt27
import Derived.Test.YtgcmnkanjcfndaaGreatDoorTxt7
import Derived.Test.YtgcmnkanjcfndaaGreatDoorTxt1
namespace Go.Proofs.YtgcmnkanjcfndaaGreatDoor
open Go.RowKit
set_option linter.unusedVariables false
set_option linter.unusedSimpArgs false
structure CX (w : World) (v0 v1 v2 v3 : Value) (v : World) : Prop where
 bel : Below w.heap.size w v
 lt : w.heap.size < v.heap.size
 c0 : v.cell? ⟨w.heap.size, 0, none⟩ = some v0
 c1 : v.cell? ⟨w.heap.size, 1, none⟩ = some v1
 c2 : v.cell? ⟨w.heap.size, 2, none⟩ = some v2
 c3 : v.cell? ⟨w.heap.size, 3, none⟩ = some v3
theorem CX.next {w : World} {v0 v1 v2 v3 : Value} {v v' : World} (h : CX w v0 v1 v2 v3 v) (k : Below v.heap.size v v') : CX w v0 v1 v2 v3 v' :=
 ⟨Go.Proofs.YtgcmnkanjcfndaaGreatDoor.bel h.bel k, Nat.lt_of_lt_of_le h.lt k.size, kc k h.c0, kc k h.c1, kc k h.c2, kc k h.c3⟩
theorem CX.on {w : World} {v0 v1 v2 v3 : Value} {v v' : World} (h : CX w v0 v1 v2 v3 v) (k : Below (w.heap.size + 1) v v') : CX w v0 v1 v2 v3 v' :=
 have f : ∀ j, v'.cell? ⟨w.heap.size, j, none⟩ = v.cell? ⟨w.heap.size, j, none⟩ := fun j => k.cell (Nat.lt_succ_self _)
 ⟨h.bel.trans (k.mono (Nat.le_succ _)), Nat.lt_of_lt_of_le h.lt k.size, (f 0).trans h.c0, (f 1).trans h.c1, (f 2).trans h.c2, (f 3).trans h.c3⟩
theorem CX.start (w : World) (v0 v1 v2 v3 : Value) : CX w v0 v1 v2 v3 (w.alloc (.cells #[v0, v1, v2, v3] 27)) :=
 ⟨bel_alloc _ _, by simp, by simp [go_sem], by simp [go_sem], by simp [go_sem], by simp [go_sem]⟩
theorem all_takeV {α : Type} (p : α → Bool) {l : List α} {k : Nat} (h : k < l.length) (ht : (l.take k).all p = true) (hp : p l[k] = true) : (l.take (k + 1)).all p = true := by
 rw [List.take_succ_eq_append_getElem h, List.all_append, ht]
 simp [hp]
theorem all_not {α : Type} (p : α → Bool) {l : List α} {k : Nat} (h : k < l.length) (hp : p l[k] = false) : l.all p = false := by
 rw [List.all_eq_false]
 exact ⟨l[k], List.getElem_mem h, by simp [hp]⟩
set_option maxRecDepth 100000 in
set_option maxHeartbeats 8000000 in
theorem rcheck_early (v0 v1 v2 v3 : Value) (c : Cd) (hk : CdOk c) (w : World) (hv : CdV w v0 v1 v2 v3 c) (E : Int) (hE : (checkP c.sign ≠ 0 ∧ E = checkP c.sign) ∨ (checkP c.sign = 0 ∧ (16384 < c.regs.length ∨ 32768 < c.list.length) ∧ E = 181) ∨ (checkP c.sign = 0 ∧ ¬ 16384 < c.regs.length ∧ ¬ 32768 < c.list.length ∧ 4096 < c.slots.length ∧ E = 180)) :
  Calls Tryz.prog 14 #[.agg #[v0, v1, v2, v3]] w fun e w' => e = .returned (.tuple #[.int .i64 E, .int .i64 (-1)]) ∧ Below w.heap.size w w' := by
 have hSG : ∀ v, Below w.heap.size w v → Calls Tryz.prog 30 #[v0] v fun e w' => e = .returned (.int .i64 (checkP c.sign)) ∧ Below v.heap.size v w' := fun v hb => rCheck_any v0 c.sign hk.signL hk.names v (hv.below hb).sign.rd
 have l1 := hk.regsL
 have l2 := hk.slotsL
 have l3 := hk.listL
 obtain ⟨p0, q0, rfl, -⟩ := id hv.sign
 obtain ⟨p1, q1, rfl, -⟩ := id hv.regs
 obtain ⟨p2, q2, rfl, -⟩ := id hv.slots
 obtain ⟨p3, q3, rfl, -⟩ := id hv.list
 obtain ⟨n0, hn0⟩ : ∃ n, c.sign.length = n := ⟨_, rfl⟩
 obtain ⟨n1, hn1⟩ : ∃ n, c.regs.length = n := ⟨_, rfl⟩
 obtain ⟨n2, hn2⟩ : ∃ n, c.slots.length = n := ⟨_, rfl⟩
 obtain ⟨n3, hn3⟩ : ∃ n, c.list.length = n := ⟨_, rfl⟩
 obtain ⟨K, hK⟩ : ∃ n, checkP c.sign = n := ⟨_, rfl⟩
 rw [hn0, hK] at hSG
 rw [hK, hn1, hn2, hn3] at hE
 rw [hn1] at l1
 rw [hn2] at l2
 rw [hn3] at l3
 rw [hn0, hn1, hn2, hn3]
 have HSG : Hid _ := hSG
 clear hSG hn0 hn1 hn2 hn3 hK hv hk
 rcases hE with ⟨h1, rfl⟩ | ⟨rfl, h2, rfl⟩ | ⟨rfl, h2, h3, h4, rfl⟩
 ·have h1' : (E == 0) = false := by simpa using h1
  have h1'' : (E != 0) = true := by simpa using h1
  go_enter Tryz.func14, Tryz.ntmps14
  go_wp2_with (go_at_call 30; (with_reducible refine (HSG.out _ (bel_alloc _ _)).mono ?_); rintro e w1 ⟨rfl, hb1⟩; have HX1 : Hid (CX w (.slice p0 n0 q0) (.slice p1 n1 q1) (.slice p2 n2 q2) (.slice p3 n3 q3) w1) := (CX.start w _ _ _ _).next hb1; obtain ⟨b1, b2, c0, c1, c2, c3⟩ := HX1.out; clear hb1)
  all_goals go_ret2
  all_goals exact ⟨rfl, HX1.out.bel⟩
 ·by_cases h5 : 16384 < n1
  ·have h6 : (16384 : Int) < (n1 : Int) := by omega
   go_enter Tryz.func14, Tryz.ntmps14
   go_wp2_with (go_at_call 30; (with_reducible refine (HSG.out _ (bel_alloc _ _)).mono ?_); rintro e w1 ⟨rfl, hb1⟩; have HX1 : Hid (CX w (.slice p0 n0 q0) (.slice p1 n1 q1) (.slice p2 n2 q2) (.slice p3 n3 q3) w1) := (CX.start w _ _ _ _).next hb1; obtain ⟨b1, b2, c0, c1, c2, c3⟩ := HX1.out; clear hb1)
   all_goals go_ret2
   all_goals exact ⟨rfl, HX1.out.bel⟩
  ·have h6 : (n1 : Int) ≤ 16384 := by omega
   have h7 : (32768 : Int) < (n3 : Int) := by omega
   clear h5
   go_enter Tryz.func14, Tryz.ntmps14
   go_wp2_with (go_at_call 30; (with_reducible refine (HSG.out _ (bel_alloc _ _)).mono ?_); rintro e w1 ⟨rfl, hb1⟩; have HX1 : Hid (CX w (.slice p0 n0 q0) (.slice p1 n1 q1) (.slice p2 n2 q2) (.slice p3 n3 q3) w1) := (CX.start w _ _ _ _).next hb1; obtain ⟨b1, b2, c0, c1, c2, c3⟩ := HX1.out; clear hb1)
   all_goals go_ret2
   all_goals exact ⟨rfl, HX1.out.bel⟩
 ·have h6 : (n1 : Int) ≤ 16384 := by omega
  have h7 : (n3 : Int) ≤ 32768 := by omega
  have h8 : (4096 : Int) < (n2 : Int) := by omega
  go_enter Tryz.func14, Tryz.ntmps14
  go_wp2_with (go_at_call 30; (with_reducible refine (HSG.out _ (bel_alloc _ _)).mono ?_); rintro e w1 ⟨rfl, hb1⟩; have HX1 : Hid (CX w (.slice p0 n0 q0) (.slice p1 n1 q1) (.slice p2 n2 q2) (.slice p3 n3 q3) w1) := (CX.start w _ _ _ _).next hb1; obtain ⟨b1, b2, c0, c1, c2, c3⟩ := HX1.out; clear hb1)
  all_goals go_ret2
  all_goals exact ⟨rfl, HX1.out.bel⟩
end Go.Proofs.YtgcmnkanjcfndaaGreatDoor
namespace Go.Proofs.YtgcmnkanjcfndaaGreatDoor
open Go.RowKit
set_option linter.unusedVariables false
set_option linter.unusedSimpArgs false
theorem und_O : Tryz.prog.underlying 83 = some (.slice (Tryz.prog.elem 83)) := by kernel_rfl
theorem elem_O : Tryz.prog.elem 83 = 87 := by kernel_rfl
theorem size_O (w : World) : (sizeOf (Tryz.prog.elem 83)).run Tryz.prog w = .ok 3 w := by rw [elem_O]; exact Tryz.sizeOf87 w
theorem ret_pair {a b x y : Int} (h : (a, b) = (x, y)) : (Ending.returned (.tuple #[.int .i64 a, .int .i64 b])) = .returned (.tuple #[.int .i64 x, .int .i64 y]) := by cases h; rfl
set_option maxRecDepth 100000 in
set_option maxHeartbeats 16000000 in
theorem rcheck_walk (v0 v1 v2 v3 : Value) (c : Cd) (hk : CdOk c) (w : World) (hv : CdV w v0 v1 v2 v3 c) (hS : checkP c.sign = 0) (h1 : c.regs.length ≤ 16384) (h3 : c.list.length ≤ 32768) (h2 : c.slots.length ≤ 4096) (RA RB : Int) (hRES : (if (typesMay c && slotsMay c) = true then goP c ⟨[], []⟩ 0 c.list else (160, -1)) = (RA, RB)) :
  Calls Tryz.prog 14 #[.agg #[v0, v1, v2, v3]] w fun e w' => e = .returned (.tuple #[.int .i64 RA, .int .i64 RB]) ∧ Below w.heap.size w w' := by
 have hSG : ∀ v, Below w.heap.size w v → Calls Tryz.prog 30 #[v0] v fun e w' => e = .returned (.int .i64 0) ∧ Below v.heap.size v w' := fun v hb => by rw [← hS]; exact rCheck_any v0 c.sign hk.signL hk.names v (hv.below hb).sign.rd
 have l0 := hk.signL
 obtain ⟨p0, q0, rfl, -⟩ := id hv.sign
 obtain ⟨p1, q1, rfl, -⟩ := id hv.regs
 obtain ⟨p2, q2, rfl, -⟩ := id hv.slots
 obtain ⟨p3, q3, rfl, -⟩ := id hv.list
 have HREGS : Hid (RowG 2 tyC w (.slice p1 c.regs.length q1) c.regs) := hv.regs
 have HSLOTS : Hid (RowG 5 slC w (.slice p2 c.slots.length q2) c.slots) := hv.slots
 have HLIST : Hid (RowG 7 inC w (.slice p3 c.list.length q3) c.list) := hv.list
 have HMT : Hid (∀ (t : Ty) v, Calls Tryz.prog 31 #[.agg #[.int .i64 t.kind, .int .i64 t.par], .slice p0 c.sign.length q0] v fun e w' => e = .returned (.bool (typeMay t c.sign.length)) ∧ Below v.heap.size v w') := fun t v => rmayType_any t p0 _ q0 hk.signL v
 have HMS : Hid (∀ (s : Sl), s ∈ c.slots → ∀ v, Calls Tryz.prog 32 #[.agg #[.int .i64 s.ty.kind, .int .i64 s.ty.par, .bool s.keep, .int .u32 s.bits, .int .i64 s.int_], .slice p0 c.sign.length q0] v fun e w' => e = .returned (.bool (slotMay s c.sign.length)) ∧ Below v.heap.size v w') := fun s hs v => rmaySlot_any s (hk.sbits s hs).1 (hk.sbits s hs).2 p0 _ q0 hk.signL v
 have HCV : Hid (CdV w (.slice p0 c.sign.length q0) (.slice p1 c.regs.length q1) (.slice p2 c.slots.length q2) (.slice p3 c.list.length q3) c) := hv
 have HCO : Hid (CdOk c) := hk
 have HRES : Hid ((if (typesMay c && slotsMay c) = true then goP c ⟨[], []⟩ 0 c.list else (160, -1)) = (RA, RB)) := hRES
 obtain ⟨n0, hn0⟩ : ∃ n, c.sign.length = n := ⟨_, rfl⟩
 obtain ⟨n1, hn1⟩ : ∃ n, c.regs.length = n := ⟨_, rfl⟩
 obtain ⟨n2, hn2⟩ : ∃ n, c.slots.length = n := ⟨_, rfl⟩
 obtain ⟨n3, hn3⟩ : ∃ n, c.list.length = n := ⟨_, rfl⟩
 have HN0 : Hid (c.sign.length = n0) := hn0
 have HN1 : Hid (c.regs.length = n1) := hn1
 have HN2 : Hid (c.slots.length = n2) := hn2
 have HN3 : Hid (c.list.length = n3) := hn3
 rw [hn0] at hSG l0 HMT HMS
 rw [hn1] at h1 HREGS
 rw [hn2] at h2 HSLOTS
 rw [hn3] at h3 HLIST
 rw [hn0, hn1, hn2, hn3] at HCV ⊢
 have HSG : Hid _ := hSG
 have g1 : (n1 : Int) ≤ 16384 := by omega
 have g2 : (n2 : Int) ≤ 4096 := by omega
 have g3 : (n3 : Int) ≤ 32768 := by omega
 clear hSG hn0 hn1 hn2 hn3 hv hk hS hRES
 go_enter Tryz.func14, Tryz.ntmps14
 go_wp2_with (go_at_call 30; (with_reducible refine (HSG.out _ (bel_alloc _ _)).mono ?_); rintro e w1 ⟨rfl, hb1⟩; have HX1 : Hid (CX w (.slice p0 n0 q0) (.slice p1 n1 q1) (.slice p2 n2 q2) (.slice p3 n3 q3) w1) := (CX.start w _ _ _ _).next hb1; obtain ⟨b1, b2, c0, c1, c2, c3⟩ := HX1.out; clear hb1)
 clear c0 c1 c2 c3 b1 b2
 go_loopw [5] (fun iv wr => CX w (.slice p0 n0 q0) (.slice p1 n1 q1) (.slice p2 n2 q2) (.slice p3 n3 q3) wr ∧ ∃ j : Nat, j ≤ n1 ∧ iv = .int .i64 (j : Int) ∧ Hid ((c.regs.take j).all (fun t => typeMay t n0) = true)) (fun iv _ => n1 - (intOf iv).toNat)
 case atStart => exact ⟨HX1.out, 0, Nat.zero_le _, rfl, by show _ = _; simp⟩
 case round =>
  obtain ⟨hcx, j, hj, rfl, hall⟩ := hrel
  have HCX : Hid (CX w (.slice p0 n0 q0) (.slice p1 n1 q1) (.slice p2 n2 q2) (.slice p3 n3 q3) wr) := hcx
  obtain ⟨b1, b2, c0, c1, c2, c3⟩ := hcx
  clear HX1
  by_cases hlt : j < n1
  ·have hll : j < c.regs.length := by rw [HN1.out]; exact hlt
   obtain ⟨b, o, rfl, hx⟩ := HREGS.out.at hll
   have KN := HMT.out c.regs[j]
   have NX : Hid (typeMay c.regs[j] n0 = true → (c.regs.take (j + 1)).all (fun t => typeMay t n0) = true) := fun h => all_takeV _ hll hall.out h
   have NB : Hid (typeMay c.regs[j] n0 = false → (160, -1) = (RA, RB)) := fun h => by
    have h5 : typesMay c = false := by unfold typesMay; rw [HN0.out]; exact all_not _ hll h
    have h6 := HRES.out
    rw [h5, Bool.false_and, if_neg (by decide)] at h6
    exact h6
   obtain ⟨⟨K, P⟩, hT⟩ : ∃ T : Ty, c.regs[j] = T := ⟨_, rfl⟩
   rw [hT] at hx KN NX NB
   have y0 : wr.cell? ⟨b, o + j * 2, none⟩ = some (.int .i64 K) := kc b1 (hx.at 0 rfl)
   have y1 : wr.cell? ⟨b, o + j * 2 + 1, none⟩ = some (.int .i64 P) := kc b1 (hx.at 1 rfl)
   obtain ⟨X, hX⟩ : ∃ X, typeMay ⟨K, P⟩ n0 = X := ⟨_, rfl⟩
   rw [hX] at NX NB
   simp only [hX] at KN
   have HK : Hid (∀ v, Calls Tryz.prog 31 #[.agg #[.int .i64 K, .int .i64 P], .slice p0 n0 q0] v fun e w' => e = .returned (.bool X) ∧ Below v.heap.size v w') := KN
   have i1 : (0 : Int) ≤ (j : Int) := by omega
   have i2 : (j : Int) < (n1 : Int) := by omega
   clear KN hT hX hx hall
   cases X
   ·go_wp2
    refine wp_region_held_drew (S := (fun v => v.cell? ⟨w.heap.size, 1, none⟩ = some (.slice (some ⟨b, o, none⟩) n1 q1) ∧ v.cell? ⟨w.heap.size, 0, none⟩ = some (.slice p0 n0 q0) ∧ v.cell? ⟨b, o + j * 2, none⟩ = some (.int .i64 K) ∧ v.cell? ⟨b, o + j * 2 + 1, none⟩ = some (.int .i64 P))) (by kernel_rfl) ?_ (fun hHeld => ?_)
    ·((try dsimp only); go_keep)
    refine tkT 0 ?_
    refine tkT 1 ?_
    refine tkT 2 ?_
    refine tkT 3 ?_
    refine tkT 4 ?_
    refine tkT 5 ?_
    refine tkT 6 ?_
    clear hHeld
    refine wpAnyH_ready (rs := [7]) (by kernel_rfl) (by simp) ?_
    refine AllReadyH.cons (i := 7) (by simp only [List.getElem?_toArray, List.getElem?_cons_succ, List.getElem?_cons_zero]; rfl) (fun K hK => ?_) AllReadyH.nil
    go_simp
    (go_at_call 31; (with_reducible refine (HK.out _).mono ?_); rintro e w2 ⟨rfl, hb2⟩; have HB2 : Hid (Below wr.heap.size wr w2) := bel (bel_d _) hb2; clear hb2; obtain ⟨-, -, c0, c1, c2, c3⟩ := HCX.out.next HB2.out; have x0 := kc HB2.out y0; have x1 := kc HB2.out y1)
    try (go_wp2_with fail)
    refine hK.out _ _ ?_ (fun hHeld => ?_)
    ·((try dsimp only); go_keep)
    clear hK K
    try simp only [Act.put, List.setIfInBounds_toArray, List.set_cons_zero, List.set_cons_succ]
    refine tkT 8 ?_
    refine wpAnyH_done (by kernel_rfl) ?_ _
    go_wp2
    go_ret2
    exact ⟨ret_pair (NB.out (by first | rfl | trivial)), bel HCX.out.bel HB2.out⟩
   ·go_wp2
    refine wp_region_held_drew (S := (fun v => v.cell? ⟨w.heap.size, 1, none⟩ = some (.slice (some ⟨b, o, none⟩) n1 q1) ∧ v.cell? ⟨w.heap.size, 0, none⟩ = some (.slice p0 n0 q0) ∧ v.cell? ⟨b, o + j * 2, none⟩ = some (.int .i64 K) ∧ v.cell? ⟨b, o + j * 2 + 1, none⟩ = some (.int .i64 P))) (by kernel_rfl) ?_ (fun hHeld => ?_)
    ·((try dsimp only); go_keep)
    refine tkT 0 ?_
    refine tkT 1 ?_
    refine tkT 2 ?_
    refine tkT 3 ?_
    refine tkT 4 ?_
    refine tkT 5 ?_
    refine tkT 6 ?_
    clear hHeld
    refine wpAnyH_ready (rs := [7]) (by kernel_rfl) (by simp) ?_
    refine AllReadyH.cons (i := 7) (by simp only [List.getElem?_toArray, List.getElem?_cons_succ, List.getElem?_cons_zero]; rfl) (fun K hK => ?_) AllReadyH.nil
    go_simp
    (go_at_call 31; (with_reducible refine (HK.out _).mono ?_); rintro e w2 ⟨rfl, hb2⟩; have HB2 : Hid (Below wr.heap.size wr w2) := bel (bel_d _) hb2; clear hb2; obtain ⟨-, -, c0, c1, c2, c3⟩ := HCX.out.next HB2.out; have x0 := kc HB2.out y0; have x1 := kc HB2.out y1)
    try (go_wp2_with fail)
    refine hK.out _ _ ?_ (fun hHeld => ?_)
    ·((try dsimp only); go_keep)
    clear hK K
    try simp only [Act.put, List.setIfInBounds_toArray, List.set_cons_zero, List.set_cons_succ]
    refine tkT 8 ?_
    refine wpAnyH_done (by kernel_rfl) ?_ _
    go_wp2
    go_roundw
    case rel => exact ⟨HCX.out.next HB2.out, j + 1, by omega, by go_num, NX.out (by first | rfl | trivial)⟩
    case measure => simp [intOf]; omega
  have hjn : j = n1 := by omega
  have HT : Hid (typesMay c = true) := by
   show _ = _
   have h5 := hall.out
   rw [hjn, ← HN1.out, List.take_length] at h5
   unfold typesMay
   rw [HN0.out]
   exact h5
  have e1 : ¬ (j : Int) < (n1 : Int) := by omega
  clear hall hlt
  go_wp2
  clear e1 c0 c1 c2 c3 b1 b2
  go_loopw [6] (fun iv wr => CX w (.slice p0 n0 q0) (.slice p1 n1 q1) (.slice p2 n2 q2) (.slice p3 n3 q3) wr ∧ ∃ j : Nat, j ≤ n2 ∧ iv = .int .i64 (j : Int) ∧ Hid ((c.slots.take j).all (fun s => slotMay s n0) = true)) (fun iv _ => n2 - (intOf iv).toNat)
  case atStart => exact ⟨HCX.out, 0, Nat.zero_le _, rfl, by show _ = _; simp⟩
  case round =>
   obtain ⟨hcx, j, hj, rfl, hall⟩ := hrel
   have HCX : Hid (CX w (.slice p0 n0 q0) (.slice p1 n1 q1) (.slice p2 n2 q2) (.slice p3 n3 q3) wr) := hcx
   obtain ⟨b1, b2, c0, c1, c2, c3⟩ := hcx
   by_cases hlt : j < n2
   ·have hll : j < c.slots.length := by rw [HN2.out]; exact hlt
    obtain ⟨b, o, rfl, hx⟩ := HSLOTS.out.at hll
    have KN := HMS.out c.slots[j] (List.getElem_mem hll)
    have NX : Hid (slotMay c.slots[j] n0 = true → (c.slots.take (j + 1)).all (fun s => slotMay s n0) = true) := fun h => all_takeV _ hll hall.out h
    have NB : Hid (slotMay c.slots[j] n0 = false → (160, -1) = (RA, RB)) := fun h => by
     have h5 : slotsMay c = false := by unfold slotsMay; rw [HN0.out]; exact all_not _ hll h
     have h6 := HRES.out
     rw [h5, Bool.and_false, if_neg (by decide)] at h6
     exact h6
    obtain ⟨⟨⟨K, P⟩, kp, sb, si⟩, hT⟩ : ∃ T : Sl, c.slots[j] = T := ⟨_, rfl⟩
    rw [hT] at hx KN NX NB
    have y0 : wr.cell? ⟨b, o + j * 5, none⟩ = some (.int .i64 K) := kc b1 (hx.at 0 rfl)
    have y1 : wr.cell? ⟨b, o + j * 5 + 1, none⟩ = some (.int .i64 P) := kc b1 (hx.at 1 rfl)
    have y2 : wr.cell? ⟨b, o + j * 5 + 2, none⟩ = some (.bool kp) := kc b1 (hx.at 2 rfl)
    have y3 : wr.cell? ⟨b, o + j * 5 + 3, none⟩ = some (.int .u32 sb) := kc b1 (hx.at 3 rfl)
    have y4 : wr.cell? ⟨b, o + j * 5 + 4, none⟩ = some (.int .i64 si) := kc b1 (hx.at 4 rfl)
    obtain ⟨X, hX⟩ : ∃ X, slotMay ⟨⟨K, P⟩, kp, sb, si⟩ n0 = X := ⟨_, rfl⟩
    rw [hX] at NX NB
    simp only [hX] at KN
    have HK : Hid (∀ v, Calls Tryz.prog 32 #[.agg #[.int .i64 K, .int .i64 P, .bool kp, .int .u32 sb, .int .i64 si], .slice p0 n0 q0] v fun e w' => e = .returned (.bool X) ∧ Below v.heap.size v w') := KN
    have i1 : (0 : Int) ≤ (j : Int) := by omega
    have i2 : (j : Int) < (n2 : Int) := by omega
    clear KN hT hX hx hall
    cases X
    ·go_wp2
     refine wp_region_held_drew (S := (fun v => v.cell? ⟨w.heap.size, 2, none⟩ = some (.slice (some ⟨b, o, none⟩) n2 q2) ∧ v.cell? ⟨w.heap.size, 0, none⟩ = some (.slice p0 n0 q0) ∧ v.cell? ⟨b, o + j * 5, none⟩ = some (.int .i64 K) ∧ v.cell? ⟨b, o + j * 5 + 1, none⟩ = some (.int .i64 P) ∧ v.cell? ⟨b, o + j * 5 + 2, none⟩ = some (.bool kp) ∧ v.cell? ⟨b, o + j * 5 + 3, none⟩ = some (.int .u32 sb) ∧ v.cell? ⟨b, o + j * 5 + 4, none⟩ = some (.int .i64 si))) (by kernel_rfl) ?_ (fun hHeld => ?_)
     ·((try dsimp only); go_keep)
     refine tkT 0 ?_
     refine tkT 1 ?_
     refine tkT 2 ?_
     refine tkT 3 ?_
     refine tkT 4 ?_
     refine tkT 5 ?_
     refine tkT 6 ?_
     clear hHeld
     refine wpAnyH_ready (rs := [7]) (by kernel_rfl) (by simp) ?_
     refine AllReadyH.cons (i := 7) (by simp only [List.getElem?_toArray, List.getElem?_cons_succ, List.getElem?_cons_zero]; rfl) (fun K hK => ?_) AllReadyH.nil
     go_simp
     (go_at_call 32; (with_reducible refine (HK.out _).mono ?_); rintro e w2 ⟨rfl, hb2⟩; have HB2 : Hid (Below wr.heap.size wr w2) := bel (bel_d _) hb2; clear hb2; obtain ⟨-, -, c0, c1, c2, c3⟩ := HCX.out.next HB2.out; have x0 := kc HB2.out y0; have x1 := kc HB2.out y1; have x2 := kc HB2.out y2; have x3 := kc HB2.out y3; have x4 := kc HB2.out y4)
     try (go_wp2_with fail)
     refine hK.out _ _ ?_ (fun hHeld => ?_)
     ·((try dsimp only); go_keep)
     clear hK K
     try simp only [Act.put, List.setIfInBounds_toArray, List.set_cons_zero, List.set_cons_succ]
     refine tkT 8 ?_
     refine wpAnyH_done (by kernel_rfl) ?_ _
     go_wp2
     go_ret2
     exact ⟨ret_pair (NB.out (by first | rfl | trivial)), bel HCX.out.bel HB2.out⟩
    ·go_wp2
     refine wp_region_held_drew (S := (fun v => v.cell? ⟨w.heap.size, 2, none⟩ = some (.slice (some ⟨b, o, none⟩) n2 q2) ∧ v.cell? ⟨w.heap.size, 0, none⟩ = some (.slice p0 n0 q0) ∧ v.cell? ⟨b, o + j * 5, none⟩ = some (.int .i64 K) ∧ v.cell? ⟨b, o + j * 5 + 1, none⟩ = some (.int .i64 P) ∧ v.cell? ⟨b, o + j * 5 + 2, none⟩ = some (.bool kp) ∧ v.cell? ⟨b, o + j * 5 + 3, none⟩ = some (.int .u32 sb) ∧ v.cell? ⟨b, o + j * 5 + 4, none⟩ = some (.int .i64 si))) (by kernel_rfl) ?_ (fun hHeld => ?_)
     ·((try dsimp only); go_keep)
     refine tkT 0 ?_
     refine tkT 1 ?_
     refine tkT 2 ?_
     refine tkT 3 ?_
     refine tkT 4 ?_
     refine tkT 5 ?_
     refine tkT 6 ?_
     clear hHeld
     refine wpAnyH_ready (rs := [7]) (by kernel_rfl) (by simp) ?_
     refine AllReadyH.cons (i := 7) (by simp only [List.getElem?_toArray, List.getElem?_cons_succ, List.getElem?_cons_zero]; rfl) (fun K hK => ?_) AllReadyH.nil
     go_simp
     (go_at_call 32; (with_reducible refine (HK.out _).mono ?_); rintro e w2 ⟨rfl, hb2⟩; have HB2 : Hid (Below wr.heap.size wr w2) := bel (bel_d _) hb2; clear hb2; obtain ⟨-, -, c0, c1, c2, c3⟩ := HCX.out.next HB2.out; have x0 := kc HB2.out y0; have x1 := kc HB2.out y1; have x2 := kc HB2.out y2; have x3 := kc HB2.out y3; have x4 := kc HB2.out y4)
     try (go_wp2_with fail)
     refine hK.out _ _ ?_ (fun hHeld => ?_)
     ·((try dsimp only); go_keep)
     clear hK K
     try simp only [Act.put, List.setIfInBounds_toArray, List.set_cons_zero, List.set_cons_succ]
     refine tkT 8 ?_
     refine wpAnyH_done (by kernel_rfl) ?_ _
     go_wp2
     go_roundw
     case rel => exact ⟨HCX.out.next HB2.out, j + 1, by omega, by go_num, NX.out (by first | rfl | trivial)⟩
     case measure => simp [intOf]; omega
   have hjn2 : j = n2 := by omega
   have HGO0 : Hid (goP c ⟨[], []⟩ 0 c.list = (RA, RB)) := by
    show _ = _
    have h5 := hall.out
    rw [hjn2, ← HN2.out, List.take_length] at h5
    have h6 : slotsMay c = true := by unfold slotsMay; rw [HN0.out]; exact h5
    have h7 := HRES.out
    rw [HT.out, h6, if_pos (by rfl)] at h7
    exact h7
   have e1 : ¬ (j : Int) < (n2 : Int) := by omega
   clear hall hlt
   go_wp2
   clear e1 c0 c1 c2 c3 b1 b2
   go_loopw [7, 8] (fun sv iv wr => CX w (.slice p0 n0 q0) (.slice p1 n1 q1) (.slice p2 n2 q2) (.slice p3 n3 q3) wr ∧ ∃ (k : Nat) (p : Option Addr) (q : Nat), k ≤ n1 ∧ iv = .int .i64 (k : Int) ∧ sv = .slice p k q ∧ wr.ownsRow (w.heap.size + 1) 4 1 (.slice p k q) k (setB k [])) (fun _ iv _ => n1 - (intOf iv).toNat)
   case atStart => exact ⟨HCX.out, 0, none, 0, Nat.zero_le _, rfl, rfl, by rw [show setB 0 [] = [] from rfl]; exact World.ownsRow_nil _ _ _ 1⟩
   case round =>
    obtain ⟨hcx, k, p, q, hkn, rfl, rfl, how⟩ := hrel
    have HCX : Hid (CX w (.slice p0 n0 q0) (.slice p1 n1 q1) (.slice p2 n2 q2) (.slice p3 n3 q3) wr) := hcx
    obtain ⟨b1, b2, c0, c1, c2, c3⟩ := hcx
    by_cases hkl : k < n1
    ·obtain ⟨g, c', w8, hap, hb8, ho8⟩ := app_bool how (by omega) (by omega)
     have HAP : Hid ((Builtin.append_ #[82, 82] 82 #[.slice p k q, .slice (some ⟨wr.heap.size, 0, none⟩) 1 1]).run Tryz.prog (wr.alloc (.cells #[.bool false] 4)) = .ok (.slice (some ⟨g, 0, none⟩) (k + 1) c') w8) := hap
     have HY8 : Hid (CX w (.slice p0 n0 q0) (.slice p1 n1 q1) (.slice p2 n2 q2) (.slice p3 n3 q3) w8 ∧ w8.ownsRow (w.heap.size + 1) 4 1 (.slice (some ⟨g, 0, none⟩) (k + 1) c') (k + 1) (setB (k + 1) [])) := by
      refine ⟨HCX.out.on hb8, ?_⟩
      rw [setB_nil, List.replicate_succ', ← setB_nil]
      exact ho8
     have i2 : (k : Int) < (n1 : Int) := by omega
     have wi : IntKind.i64.wrap ((k : Int) + 1) = ((k + 1 : Nat) : Int) := by rw [IntKind.wrap_i64]; omega
     clear hap hb8 ho8 how
     go_wp2_with (at_builtin; refine wpList_app (by rfl) _ _ _ (by rfl) _ _ _ (by rfl) (by rfl) HAP.out ?_)
     go_roundw
     case rel => exact ⟨HY8.out.1, k + 1, _, _, by omega, by go_num, rfl, HY8.out.2⟩
     case measure => simp [intOf]; omega
    have hkn1 : k = n1 := by omega
    subst hkn1
    have HSK0 : Hid (SK (w.heap.size + 1) k wr (.slice p k q) (.slice none 0 0) ⟨[], []⟩ []) := SK.start wr _ b2 how
    have e1 : ¬ (k : Int) < (k : Int) := by omega
    clear how hkl
    go_wp2
    clear e1 c0 c1 c2 c3 b1 b2
    go_loopw [7, 9, 10] (fun sv ov iv wr => CX w (.slice p0 n0 q0) (.slice p1 k q1) (.slice p2 n2 q2) (.slice p3 n3 q3) wr ∧ ∃ (j : Nat) (s : Wk) (us : List Value), j ≤ n3 ∧ iv = .int .i64 (j : Int) ∧ Hid (SK (w.heap.size + 1) k wr sv ov s us) ∧ Hid (OkS k s) ∧ Hid (ParOK s) ∧ Hid (goP c s j (c.list.drop j) = (RA, RB))) (fun _ _ iv _ => n3 - (intOf iv).toNat)
    case atStart => exact ⟨HCX.out, 0, ⟨[], []⟩, [], Nat.zero_le _, rfl, HSK0.out, OkS.start k, ParOK.start, by show _ = _; rw [List.drop_zero]; exact HGO0.out⟩
    case round =>
     obtain ⟨hcx, j, s, us, hj, rfl, hsk, hok, hpo, hgo⟩ := hrel
     obtain ⟨po, qo, rfl⟩ := own_len hsk.out.opn
     obtain ⟨ps, qs, rfl⟩ := own_len hsk.out.set
     have HCX : Hid (CX w (.slice p0 n0 q0) (.slice p1 k q1) (.slice p2 n2 q2) (.slice p3 n3 q3) wr) := hcx
     obtain ⟨b1, b2, f0, f1, f2, f3⟩ := hcx
     have hnest := hok.out.nest
     clear HSK0
     by_cases hlt : j < n3
     ·have hll : j < c.list.length := by rw [HN3.out]; exact hlt
      obtain ⟨b, o, rfl, hx⟩ := HLIST.out.at hll
      have hgo' := hgo.out
      rw [List.drop_eq_getElem_cons hll] at hgo'
      have hgi : goP c s j (c.list[j] :: c.list.drop (j + 1)) = if takesP c s c.list[j] then goP c (stepP s c.list[j]) (j + 1) (c.list.drop (j + 1)) else (160, (j : Int)) := rfl
      rw [hgi] at hgo'
      have hib := HCO.out.ibits c.list[j] (List.getElem_mem hll)
      have hos : takesP c s c.list[j] = true → OkS k (stepP s c.list[j]) ∧ ParOK (stepP s c.list[j]) := fun ht => by
       have hq : OkS c.regs.length s := by rw [HN1.out]; exact hok.out
       have h5 := OkS.step hq ht
       rw [HN1.out] at h5
       exact ⟨h5, hpo.out.step ht⟩
      have htk : takesP c s c.list[j] = true → fitsC c c.list[j] (rowP c.list[j].op) = true ∧ mayStandP c s c.list[j] (rowP c.list[j].op) = true := fun ht => by
       obtain ⟨-, h5, h6, -⟩ := takes_open ht
       exact ⟨h5, h6⟩
      obtain ⟨⟨op, D, A, Q, E, nn, bt⟩, hxx⟩ : ∃ x : Ins, c.list[j] = x := ⟨_, rfl⟩
      rw [hxx] at hx hgo' hos htk hib
      have KS := rstands_any _ _ _ _ c HCO.out HT.out (⟨op, D, A, Q, E, nn, bt⟩ : Ins) hib.1 hib.2 (w.heap.size + 1) s (.slice ps k qs) (.slice po s.opens.length qo) us (by rw [HN1.out]; exact h1) (by rw [HN1.out]; exact hok.out) hpo.out (wr.alloc (.cells #[.int .i64 op, .int .i64 D, .int .i64 A, .int .i64 Q, .int .i64 E, .int .i64 nn, .int .u32 bt] 46)) ((HCV.out.below b1).below (bel_alloc _ _)) (by rw [HN1.out]; exact hsk.out.below (bel_alloc _ _))
      have x0 := kc b1 (hx.at 0 rfl)
      have x1 := kc b1 (hx.at 1 rfl)
      have x2 := kc b1 (hx.at 2 rfl)
      have x3 := kc b1 (hx.at 3 rfl)
      have x4 := kc b1 (hx.at 4 rfl)
      have x5 := kc b1 (hx.at 5 rfl)
      have x6 := kc b1 (hx.at 6 rfl)
      rw [Nat.add_zero] at x0
      obtain ⟨-, -, f0', f1', f2', f3'⟩ := HCX.out.next (bel_alloc wr (.cells #[.int .i64 op, .int .i64 D, .int .i64 A, .int .i64 Q, .int .i64 E, .int .i64 nn, .int .u32 bt] 46))
      have HIX : Hid (∀ v, Below (wr.alloc (.cells #[.int .i64 op, .int .i64 D, .int .i64 A, .int .i64 Q, .int .i64 E, .int .i64 nn, .int .u32 bt] 46)).heap.size (wr.alloc (.cells #[.int .i64 op, .int .i64 D, .int .i64 A, .int .i64 Q, .int .i64 E, .int .i64 nn, .int .u32 bt] 46)) v → v.cell? ⟨wr.heap.size, 0, none⟩ = some (.int .i64 op) ∧ v.cell? ⟨wr.heap.size, 1, none⟩ = some (.int .i64 D) ∧ v.cell? ⟨wr.heap.size, 2, none⟩ = some (.int .i64 A) ∧ v.cell? ⟨wr.heap.size, 3, none⟩ = some (.int .i64 Q) ∧ v.cell? ⟨wr.heap.size, 4, none⟩ = some (.int .i64 E) ∧ v.cell? ⟨wr.heap.size, 5, none⟩ = some (.int .i64 nn) ∧ v.cell? ⟨wr.heap.size, 6, none⟩ = some (.int .u32 bt)) := fun v hb => ⟨kc hb (by simp [go_sem]), kc hb (by simp [go_sem]), kc hb (by simp [go_sem]), kc hb (by simp [go_sem]), kc hb (by simp [go_sem]), kc hb (by simp [go_sem]), kc hb (by simp [go_sem])⟩
      obtain ⟨T, hT⟩ : ∃ T, takesP c s (⟨op, D, A, Q, E, nn, bt⟩ : Ins) = T := ⟨_, rfl⟩
      rw [hT] at hgo' hos htk KS
      have HST : Hid (Calls Tryz.prog 33 #[.agg #[.slice p0 n0 q0, .slice p1 k q1, .slice p2 n2 q2, .slice (some ⟨b, o, none⟩) n3 q3], .agg #[.int .i64 op, .int .i64 D, .int .i64 A, .int .i64 Q, .int .i64 E, .int .i64 nn, .int .u32 bt], .slice ps k qs, .slice po s.opens.length qo] (wr.alloc (.cells #[.int .i64 op, .int .i64 D, .int .i64 A, .int .i64 Q, .int .i64 E, .int .i64 nn, .int .u32 bt] 46)) fun e w' => e = .returned (.bool T) ∧ Below (wr.alloc (.cells #[.int .i64 op, .int .i64 D, .int .i64 A, .int .i64 Q, .int .i64 E, .int .i64 nn, .int .u32 bt] 46)).heap.size (wr.alloc (.cells #[.int .i64 op, .int .i64 D, .int .i64 A, .int .i64 Q, .int .i64 E, .int .i64 nn, .int .u32 bt] 46)) w') := KS
      have HGO : Hid ((if T = true then goP c (stepP s (⟨op, D, A, Q, E, nn, bt⟩ : Ins)) (j + 1) (c.list.drop (j + 1)) else (160, (j : Int))) = (RA, RB)) := hgo'
      have HOS : Hid (T = true → OkS k (stepP s (⟨op, D, A, Q, E, nn, bt⟩ : Ins)) ∧ ParOK (stepP s (⟨op, D, A, Q, E, nn, bt⟩ : Ins))) := hos
      have HTK : Hid (T = true → fitsC c (⟨op, D, A, Q, E, nn, bt⟩ : Ins) (rowP op) = true ∧ mayStandP c s (⟨op, D, A, Q, E, nn, bt⟩ : Ins) (rowP op) = true) := htk
      have k1 : (0 : Int) ≤ (j : Int) := by omega
      have k2 : (j : Int) < (n3 : Int) := by omega
      have wj : IntKind.i64.wrap ((j : Int) + 1) = ((j + 1 : Nat) : Int) := by rw [IntKind.wrap_i64]; omega
      clear KS hgo hgo' hgi hos htk hT hx hxx hib hll
      cases T
      ·have HQ : Hid ((160, (j : Int)) = (RA, RB)) := by show _ = _; have := HGO.out; rw [if_neg (by decide)] at this; exact this
       go_wp2_with (go_at_call 33; (with_reducible refine HST.out.mono ?_); rintro e w5 ⟨rfl, hb5⟩; have HB5 : Hid (Below (wr.alloc (.cells #[.int .i64 op, .int .i64 D, .int .i64 A, .int .i64 Q, .int .i64 E, .int .i64 nn, .int .u32 bt] 46)).heap.size (wr.alloc (.cells #[.int .i64 op, .int .i64 D, .int .i64 A, .int .i64 Q, .int .i64 E, .int .i64 nn, .int .u32 bt] 46)) w5) := hb5; clear hb5 f0 f1 f2 f3; obtain ⟨-, -, f0, f1, f2, f3⟩ := (HCX.out.next (bel_alloc _ _)).next HB5.out; obtain ⟨i0, i1, i2, i3, i4, i5, i6⟩ := HIX.out w5 HB5.out)
       go_ret2
       exact ⟨ret_pair HQ.out, bel (bel HCX.out.bel (bel_alloc _ _)) HB5.out⟩
      ·have HO1 : Hid (OkS k (stepP s (⟨op, D, A, Q, E, nn, bt⟩ : Ins)) ∧ ParOK (stepP s (⟨op, D, A, Q, E, nn, bt⟩ : Ins))) := HOS.out rfl
       have HG1 : Hid (goP c (stepP s (⟨op, D, A, Q, E, nn, bt⟩ : Ins)) (j + 1) (c.list.drop (j + 1)) = (RA, RB)) := by show _ = _; have := HGO.out; rw [if_pos rfl] at this; exact this
       have HTK1 : Hid (fitsC c (⟨op, D, A, Q, E, nn, bt⟩ : Ins) (rowP op) = true ∧ mayStandP c s (⟨op, D, A, Q, E, nn, bt⟩ : Ins) (rowP op) = true) := HTK.out rfl
       have HOB : Hid (∀ g, (Value.slice po s.opens.length qo).ownBlock = some g → g < wr.heap.size) := fun g e => (hsk.out.opn.lt g e).2
       clear HGO HOS HTK
       by_cases hop : op = 34 ∨ op = 36
       ·have hn64 : s.opens.length < 64 := stand_open (i := (⟨op, D, A, Q, E, nn, bt⟩ : Ins)) HTK1.out.2 hop
        have HOP : Hid (op = 34 ∨ op = 36) := hop
        have HCP : Hid (∀ v, Below wr.heap.size wr v → Calls Tryz.prog 34 #[.slice ps k qs] v fun e w' => ∃ u, e = .returned u ∧ w'.ownsRow v.heap.size 4 1 u k (setB k s.set) ∧ Below v.heap.size v w') := fun v hb => rcopied_any _ h1 v (own_below hsk.out.set hb)
        have hq : ((op == 34) = true) ∨ ((op == 34) = false ∧ (op == 36) = true) := by
         rcases hop with e | e
         ·exact .inl (by simpa using e)
         ·exact .inr ⟨by rw [e]; decide, by simpa using e⟩
        clear hop
        rcases hq with r1 | ⟨r1, r2⟩
        all_goals
         go_wp2_with (go_at_call 33; (with_reducible refine HST.out.mono ?_); rintro e w5 ⟨rfl, hb5⟩; have HB5 : Hid (Below (wr.alloc (.cells #[.int .i64 op, .int .i64 D, .int .i64 A, .int .i64 Q, .int .i64 E, .int .i64 nn, .int .u32 bt] 46)).heap.size (wr.alloc (.cells #[.int .i64 op, .int .i64 D, .int .i64 A, .int .i64 Q, .int .i64 E, .int .i64 nn, .int .u32 bt] 46)) w5) := hb5; have HBR : Hid (Below wr.heap.size wr w5) := bel (bel_alloc _ _) hb5; clear hb5 f0 f1 f2 f3; obtain ⟨-, -, f0, f1, f2, f3⟩ := (HCX.out.next (bel_alloc _ _)).next HB5.out; obtain ⟨i0, i1, i2, i3, i4, i5, i6⟩ := HIX.out w5 HB5.out)
         refine wp_region_held_drew (S := (fun v => v.cell? ⟨wr.heap.size, 0, none⟩ = some (.int .i64 op) ∧ v.cell? ⟨wr.heap.size, 5, none⟩ = some (.int .i64 nn))) (by kernel_rfl) ?_ (fun hHeld => ?_)
         ·((try dsimp only); go_keep)
         refine tkT 0 ?_
         refine tkT 1 ?_
         refine tkT 2 ?_
         refine tkT 3 ?_
         refine tkT 4 ?_
         refine tkT 5 ?_
         clear hHeld
         refine wpAnyH_ready (rs := [6]) (by kernel_rfl) (by simp) ?_
         refine AllReadyH.cons (i := 6) (by simp only [List.getElem?_toArray, List.getElem?_cons_succ, List.getElem?_cons_zero]; rfl) (fun K hK => ?_) AllReadyH.nil
         go_simp
         (go_at_call 34; (with_reducible refine (HCP.out _ (bel HBR.out (bel_d _))).mono ?_); rintro e w6 ⟨u, rfl, hu, hb6⟩; obtain ⟨pu, qu, rfl⟩ := own_len hu; have hb66 : Below w5.heap.size w5 w6 := bel (bel_d _) hb6; obtain ⟨g', c', w7, hrun, hb7, hsk7, hoth⟩ := SK.push (i := (⟨op, D, A, Q, E, nn, bt⟩ : Ins)) (hsk.out.below HBR.out) hb66 hu HOP.out hn64 83; dsimp only at hrun; have HRUN : Hid _ := hrun; have HX7 : Hid (CX w (.slice p0 n0 q0) (.slice p1 k q1) (.slice p2 n2 q2) (.slice (some ⟨b, o, none⟩) n3 q3) w7) := ((HCX.out.next (bel_alloc _ _)).next HB5.out).on hb7; have HS7 : Hid (SK (w.heap.size + 1) k w7 (.slice ps k qs) (.slice (some ⟨g', 0, none⟩) (s.opens.length + 1) c') (stepP s (⟨op, D, A, Q, E, nn, bt⟩ : Ins)) (us ++ [.slice pu k qu])) := hsk7; have j0 := kc hb66 i0; have j5 := kc hb66 i5; have hwl : wr.heap.size < w6.heap.size := mcell_lt j0; have hne : (Value.slice po s.opens.length qo).ownBlock ≠ some wr.heap.size := (fun e => Nat.lt_irrefl _ (HOB.out _ e)); have m0 : w7.cell? ⟨wr.heap.size, 0, none⟩ = some (.int .i64 op) := (World.cell?_of_block (hoth _ hwl hne)).trans j0; have m5 : w7.cell? ⟨wr.heap.size, 5, none⟩ = some (.int .i64 nn) := (World.cell?_of_block (hoth _ hwl hne)).trans j5; have a0 : ∀ x, (w6.alloc x).cell? ⟨wr.heap.size, 0, none⟩ = some (.int .i64 op) := (fun x => kc (bel_alloc _ _) j0); have a5 : ∀ x, (w6.alloc x).cell? ⟨wr.heap.size, 5, none⟩ = some (.int .i64 nn) := (fun x => kc (bel_alloc _ _) j5); clear hu hb6 hb66 hrun hb7 hsk7 hoth hne i0 i5)
         try (go_wp2_with fail)
         refine hK.out _ _ ?_ (fun hHeld => ?_)
         ·((try dsimp only); go_keep)
         clear hK K
         try simp only [Act.put, List.setIfInBounds_toArray, List.set_cons_zero, List.set_cons_succ]
         refine tkT 7 ?_
         clear hHeld
         refine wpAnyH_ready (rs := [8]) (by kernel_rfl) (by simp) ?_
         refine AllReadyH.cons (i := 8) (by simp only [List.getElem?_toArray, List.getElem?_cons_succ, List.getElem?_cons_zero]; rfl) (fun K hK => ?_) AllReadyH.nil
         go_simp
         refine hK.out _ _ ?_ (fun hHeld => ?_)
         ·((try dsimp only); go_keep)
         clear hK K
         try simp only [Act.put, List.setIfInBounds_toArray, List.set_cons_zero, List.set_cons_succ]
         clear hHeld
         refine wpAnyH_ready (rs := [9]) (by kernel_rfl) (by simp) ?_
         refine AllReadyH.cons (i := 9) (by simp only [List.getElem?_toArray, List.getElem?_cons_succ, List.getElem?_cons_zero]; rfl) (fun K hK => ?_) AllReadyH.nil
         refine ready_appR _ _ _ (by rfl) _ _ _ (by rfl) (by rfl) HRUN.out ?_ _ (by rfl)
         refine hK.out _ _ ?_ (fun hHeld => ?_)
         ·((try dsimp only); go_keep)
         clear hK K
         try simp only [Act.put, List.setIfInBounds_toArray, List.set_cons_zero, List.set_cons_succ]
         refine tkT 10 ?_
         refine wpAnyH_done (by kernel_rfl) ?_ _
         go_wp2
         go_roundw
         case rel => exact ⟨HX7.out, j + 1, stepP s (⟨op, D, A, Q, E, nn, bt⟩ : Ins), us ++ [Value.slice pu k qu], by omega, by go_num, HS7, HO1.out.1, HO1.out.2, HG1.out⟩
         case measure => simp [intOf]; omega
       have q34 : (op == 34) = false := by have : op ≠ 34 := fun e => hop (.inl e); simpa using this
       have q36 : (op == 36) = false := by have : op ≠ 36 := fun e => hop (.inr e); simpa using this
       have HNO : Hid (op ≠ 34 ∧ op ≠ 36) := ⟨fun e => hop (.inl e), fun e => hop (.inr e)⟩
       clear hop
       by_cases h35 : op = 35
       ·have hmay := HTK1.out.2
        unfold mayStandP at hmay
        rw [if_neg (fun e => e.elim HNO.out.1 HNO.out.2), if_pos h35] at hmay
        simp only [Bool.and_eq_true, Bool.not_eq_true'] at hmay
        have hn0 : 0 < s.opens.length := by
         rcases Nat.eq_zero_or_pos s.opens.length with e | e
         ·have := List.length_eq_zero_iff.1 e
          rw [this] at hmay
          exact absurd hmay.1 (by decide)
         ·exact e
        have HLP : Hid (inLoop s = false) := hmay.2
        obtain ⟨g, cap, eo, -⟩ := hsk.out.opn.form hn0
        simp only [Value.slice.injEq] at eo
        obtain ⟨rfl, -, -⟩ := eo
        obtain ⟨X, u, hX, hu, -, -, z2⟩ := hsk.out.last hn0
        obtain ⟨pu, qu, rfl⟩ := own_len hu
        have HXO : Hid ((opR s)[s.opens.length - 1]? = some ⟨if inLoop s then 36 else 34, innerP s, X⟩) := hX
        have HCP : Hid (∀ v, Below wr.heap.size wr v → Calls Tryz.prog 34 #[.slice pu k qu] v fun e w' => ∃ u, e = .returned u ∧ w'.ownsRow v.heap.size 4 1 u k (setB k X) ∧ Below v.heap.size v w') := fun v hb => rcopied_any _ h1 v (own_below hu hb)
        have s1 := fun w => slice_toG und_O size_O (some ⟨g, 0, none⟩) s.opens.length qo (s.opens.length - 1) (by have := own_cap hsk.out.opn; omega) w
        have HN0' : Hid (0 < s.opens.length) := hn0
        obtain ⟨N, hN⟩ : ∃ N, s.opens.length = N := ⟨_, rfl⟩
        obtain ⟨m, hm⟩ : ∃ m, N - 1 = m := ⟨_, rfl⟩
        have HNN : Hid (s.opens.length = N) := hN
        have HMM : Hid (N - 1 = m) := hm
        rw [hN] at z2 s1 hn0 hnest
        rw [hm] at z2 s1
        rw [hN] at HST
        rw [hN]
        have hw : IntKind.i64.wrap ((N : Int) - 1) = (m : Int) := by rw [IntKind.wrap_i64]; omega
        have r1 : (0 : Int) ≤ (m : Int) := by omega
        have r2 : (m : Int) < (N : Int) := by omega
        have q35 : (op == 35) = true := by simpa using h35
        have HOP : Hid (op = 35 ∨ op = 37) := .inl h35
        clear hmay hX hu h35 hN hm
        go_wp2_with (first
         | (go_at_call 33; (with_reducible refine HST.out.mono ?_); rintro e w5 ⟨rfl, hb5⟩; have HB5 : Hid (Below (wr.alloc (.cells #[.int .i64 op, .int .i64 D, .int .i64 A, .int .i64 Q, .int .i64 E, .int .i64 nn, .int .u32 bt] 46)).heap.size (wr.alloc (.cells #[.int .i64 op, .int .i64 D, .int .i64 A, .int .i64 Q, .int .i64 E, .int .i64 nn, .int .u32 bt] 46)) w5) := hb5; have HBR : Hid (Below wr.heap.size wr w5) := bel (bel_alloc _ _) hb5; clear hb5 f0 f1 f2 f3; obtain ⟨-, -, f0, f1, f2, f3⟩ := (HCX.out.next (bel_alloc _ _)).next HB5.out; have z5 := kc HBR.out z2; obtain ⟨i0, i1, i2, i3, i4, i5, i6⟩ := HIX.out w5 HB5.out)
         | (go_at_call 34; (with_reducible refine (HCP.out _ HBR.out).mono ?_); rintro e w6 ⟨u, rfl, hu, hb6⟩; have HU6 : Hid (w6.ownsRow w5.heap.size 4 1 u k (setB k X)) := hu; have HB6 : Hid (Below w5.heap.size w5 w6) := hb6; clear hu hb6))
        go_roundw
        case rel =>
         refine ⟨((HCX.out.next (bel_alloc _ _)).next HB5.out).next HB6.out, j + 1, stepP s (⟨op, D, A, Q, E, nn, bt⟩ : Ins), us.take (s.opens.length - 1), by omega, by go_num, ?_, HO1.out.1, HO1.out.2, HG1.out⟩
         have e1 : stepP s (⟨op, D, A, Q, E, nn, bt⟩ : Ins) = leaveP s := step35r HOP.out
         have h9 := SK.back (hsk.out.below HBR.out) hok.out HN0'.out HLP.out HB6.out HXO.out HU6.out
         rw [e1, ← HMM.out, ← HNN.out]
         exact h9
        case measure => simp [intOf]; omega
       have q35 : (op == 35) = false := by simpa using h35
       by_cases h37 : op = 37
       ·have hmay := HTK1.out.2
        unfold mayStandP at hmay
        rw [if_neg (fun e => e.elim HNO.out.1 HNO.out.2), if_neg h35, if_pos h37] at hmay
        have hn0 : 0 < s.opens.length := by
         rcases Nat.eq_zero_or_pos s.opens.length with e | e
         ·have := List.length_eq_zero_iff.1 e
          unfold inLoop at hmay
          rw [this] at hmay
          exact absurd hmay (by decide)
         ·exact e
        have HLP : Hid (inLoop s = true) := hmay
        have s1 := fun w => slice_toG und_O size_O po s.opens.length qo (s.opens.length - 1) (by have := own_cap hsk.out.opn; omega) w
        have HN0' : Hid (0 < s.opens.length) := hn0
        obtain ⟨N, hN⟩ : ∃ N, s.opens.length = N := ⟨_, rfl⟩
        obtain ⟨m, hm⟩ : ∃ m, N - 1 = m := ⟨_, rfl⟩
        have HNN : Hid (s.opens.length = N) := hN
        have HMM : Hid (N - 1 = m) := hm
        rw [hN] at s1 hn0 hnest
        rw [hm] at s1
        rw [hN] at HST
        rw [hN]
        have hw : IntKind.i64.wrap ((N : Int) - 1) = (m : Int) := by rw [IntKind.wrap_i64]; omega
        have r1 : (0 : Int) ≤ (m : Int) := by omega
        have r2 : (m : Int) < (N : Int) := by omega
        have q37 : (op == 37) = true := by simpa using h37
        have HOP : Hid (op = 35 ∨ op = 37) := .inr h37
        clear hmay h35 h37 hN hm
        go_wp2_with (go_at_call 33; (with_reducible refine HST.out.mono ?_); rintro e w5 ⟨rfl, hb5⟩; have HB5 : Hid (Below (wr.alloc (.cells #[.int .i64 op, .int .i64 D, .int .i64 A, .int .i64 Q, .int .i64 E, .int .i64 nn, .int .u32 bt] 46)).heap.size (wr.alloc (.cells #[.int .i64 op, .int .i64 D, .int .i64 A, .int .i64 Q, .int .i64 E, .int .i64 nn, .int .u32 bt] 46)) w5) := hb5; have HBR : Hid (Below wr.heap.size wr w5) := bel (bel_alloc _ _) hb5; clear hb5 f0 f1 f2 f3; obtain ⟨-, -, f0, f1, f2, f3⟩ := (HCX.out.next (bel_alloc _ _)).next HB5.out; obtain ⟨i0, i1, i2, i3, i4, i5, i6⟩ := HIX.out w5 HB5.out)
        go_roundw
        case rel =>
         refine ⟨(HCX.out.next (bel_alloc _ _)).next HB5.out, j + 1, stepP s (⟨op, D, A, Q, E, nn, bt⟩ : Ins), us.take (s.opens.length - 1), by omega, by go_num, ?_, HO1.out.1, HO1.out.2, HG1.out⟩
         have e1 : stepP s (⟨op, D, A, Q, E, nn, bt⟩ : Ins) = leaveP s := step35r HOP.out
         have h9 := SK.pop (hsk.out.below HBR.out) hok.out HN0'.out HLP.out
         rw [e1, ← HMM.out, ← HNN.out]
         exact h9
        case measure => simp [intOf]; omega
       have q37 : (op == 37) = false := by simpa using h37
       have HNP : Hid (op ≠ 34 ∧ op ≠ 35 ∧ op ≠ 36 ∧ op ≠ 37) := ⟨HNO.out.1, h35, HNO.out.2, h37⟩
       have KE := rsets_any (⟨op, D, A, Q, E, nn, bt⟩ : Ins)
       unfold setsP at KE
       simp only at KE
       have hdr : (rowP op).d ≠ 0 → 0 ≤ D ∧ D < (k : Int) := fun hd => by
        have := fitsReg_lt (fitsC_d HTK1.out.1) hd
        rw [HN1.out] at this
        exact this
       clear h35 h37
       by_cases hsd : (rowP op).d = 0
       ·have e9 : ((rowP op).d != 0) = false := by simp [hsd]
        rw [e9] at KE
        have HKE : Hid (∀ v, Calls Tryz.prog 35 #[.agg #[.int .i64 op, .int .i64 D, .int .i64 A, .int .i64 Q, .int .i64 E, .int .i64 nn, .int .u32 bt]] v fun e w' => e = .returned (.bool false) ∧ Below v.heap.size v w') := KE
        have HSD : Hid ((rowP op).d = 0) := hsd
        clear KE e9 hdr hsd
        go_wp2_with (first
         | (go_at_call 33; (with_reducible refine HST.out.mono ?_); rintro e w5 ⟨rfl, hb5⟩; have HB5 : Hid (Below (wr.alloc (.cells #[.int .i64 op, .int .i64 D, .int .i64 A, .int .i64 Q, .int .i64 E, .int .i64 nn, .int .u32 bt] 46)).heap.size (wr.alloc (.cells #[.int .i64 op, .int .i64 D, .int .i64 A, .int .i64 Q, .int .i64 E, .int .i64 nn, .int .u32 bt] 46)) w5) := hb5; have HBR : Hid (Below wr.heap.size wr w5) := bel (bel_alloc _ _) hb5; clear hb5 f0 f1 f2 f3; obtain ⟨-, -, f0, f1, f2, f3⟩ := (HCX.out.next (bel_alloc _ _)).next HB5.out; obtain ⟨i0, i1, i2, i3, i4, i5, i6⟩ := HIX.out w5 HB5.out)
         | (go_at_call 35; (with_reducible refine (HKE.out _).mono ?_); rintro e w6 ⟨rfl, hb6⟩; have HB6 : Hid (Below w5.heap.size w5 w6) := hb6; clear hb6))
        go_roundw
        case rel => exact ⟨((HCX.out.next (bel_alloc _ _)).next HB5.out).next HB6.out, j + 1, stepP s (⟨op, D, A, Q, E, nn, bt⟩ : Ins), us, by omega, by go_num, SK.keep ((hsk.out.below HBR.out).below HB6.out) hok.out HNP.out.1 HNP.out.2.1 HNP.out.2.2.1 HNP.out.2.2.2 HSD.out, HO1.out.1, HO1.out.2, HG1.out⟩
        case measure => simp [intOf]; omega
       ·have e9 : ((rowP op).d != 0) = true := by simp [hsd]
        rw [e9] at KE
        have HKE : Hid (∀ v, Calls Tryz.prog 35 #[.agg #[.int .i64 op, .int .i64 D, .int .i64 A, .int .i64 Q, .int .i64 E, .int .i64 nn, .int .u32 bt]] v fun e w' => e = .returned (.bool true) ∧ Below v.heap.size v w') := KE
        have HSD : Hid ((rowP op).d ≠ 0) := hsd
        obtain ⟨d, rfl⟩ : ∃ d : Nat, D = (d : Int) := ⟨D.toNat, by have := hdr hsd; omega⟩
        have hd2 := (hdr hsd).2
        obtain ⟨gs, cap, eo, hgs, -⟩ := hsk.out.set.form (by omega)
        simp only [Value.slice.injEq] at eo
        obtain ⟨rfl, -, -⟩ := eo
        have d0 : (0 : Int) ≤ (d : Int) := by omega
        have HG9 : Hid (w.heap.size + 1 ≤ gs) := (hsk.out.set.lt gs rfl).1
        have HCE : Hid (∀ v, Below wr.heap.size wr v → v.cell? ⟨gs, d, none⟩ = some (.bool (decide (d ∈ s.set))) ∧ v.frozen? ⟨gs, d, none⟩ = false) := fun v hb => by
         have h9 := own_below hsk.out.set hb
         exact ⟨by rw [h9.cellAt d (by omega), setB_at (by omega)], h9.frozenAt d⟩
        clear KE e9 hdr hsd
        go_wp2_with (first
         | (go_at_call 33; (with_reducible refine HST.out.mono ?_); rintro e w5 ⟨rfl, hb5⟩; have HB5 : Hid (Below (wr.alloc (.cells #[.int .i64 op, .int .i64 (d : Int), .int .i64 A, .int .i64 Q, .int .i64 E, .int .i64 nn, .int .u32 bt] 46)).heap.size (wr.alloc (.cells #[.int .i64 op, .int .i64 (d : Int), .int .i64 A, .int .i64 Q, .int .i64 E, .int .i64 nn, .int .u32 bt] 46)) w5) := hb5; have HBR : Hid (Below wr.heap.size wr w5) := bel (bel_alloc _ _) hb5; clear hb5 f0 f1 f2 f3; obtain ⟨-, -, f0, f1, f2, f3⟩ := (HCX.out.next (bel_alloc _ _)).next HB5.out; obtain ⟨i0, i1, i2, i3, i4, i5, i6⟩ := HIX.out w5 HB5.out)
         | (go_at_call 35; (with_reducible refine (HKE.out _).mono ?_); rintro e w6 ⟨rfl, hb6⟩; have HB6 : Hid (Below w5.heap.size w5 w6) := hb6; obtain ⟨y8, y9⟩ := HCE.out w6 (bel HBR.out hb6); have i1 := kc hb6 i1; clear hb6))
        go_roundw
        case rel => exact ⟨(((HCX.out.next (bel_alloc _ _)).next HB5.out).next HB6.out).on ((Below.refl _ _).setCell HG9.out _), j + 1, stepP s ⟨op, (d : Int), A, Q, E, nn, bt⟩, us, by omega, by go_num, SK.ins (i := ⟨op, (d : Int), A, Q, E, nn, bt⟩) ((hsk.out.below HBR.out).below HB6.out) hok.out HNP.out.1 HNP.out.2.1 HNP.out.2.2.1 HNP.out.2.2.2 HSD.out (by have := hd2; show d < k; omega), HO1.out.1, HO1.out.2, HG1.out⟩
        case measure => simp [intOf]; omega
     ·have hjn3 : j = n3 := by omega
      have hgo' := hgo.out
      rw [List.drop_of_length_le (by rw [HN3.out, hjn3]; exact Nat.le_refl _)] at hgo'
      have hgi : goP c s j [] = if s.opens.isEmpty then (0, 0) else (160, (j : Int)) := rfl
      rw [hgi] at hgo'
      obtain ⟨N, hN⟩ : ∃ N, s.opens.length = N := ⟨_, rfl⟩
      have hE : s.opens.isEmpty = decide (N = 0) := by
       rw [← hN]
       cases s.opens with
       | nil => rfl
       | cons a l => simp
      rw [hE] at hgo'
      have HGO : Hid ((if decide (N = 0) = true then ((0 : Int), (0 : Int)) else (160, (j : Int))) = (RA, RB)) := hgo'
      rw [hN] at hnest
      rw [hN]
      have e1 : ¬ (j : Int) < (n3 : Int) := by omega
      clear hgo hgo' hgi hE hN hlt
      by_cases hz : N = 0
      ·have HQ : Hid ((0, 0) = (RA, RB)) := by show _ = _; have := HGO.out; rw [if_pos (by simpa using hz)] at this; exact this
       subst hz
       go_wp2
       go_ret2
       exact ⟨ret_pair HQ.out, HCX.out.bel⟩
      ·have HQ : Hid ((160, (j : Int)) = (RA, RB)) := by show _ = _; have := HGO.out; rw [if_neg (by simpa using hz)] at this; exact this
       have hz' : (0 : Int) < (N : Int) := by omega
       have HJ : Hid ((j : Int) = (n3 : Int)) := by show _ = _; omega
       clear hz
       go_wp2
       refine wp_region_held_drew (S := (fun v => v.cell? ⟨w.heap.size, 3, none⟩ = some (.slice p3 n3 q3))) (by kernel_rfl) ?_ (fun hHeld => ?_)
       ·((try dsimp only); go_keep)
       refine tkT 0 ?_
       refine tkT 1 ?_
       refine tkT 2 ?_
       refine tkT 3 ?_
       refine tkT 4 ?_
       refine wpAnyH_done (by kernel_rfl) ?_ _
       go_wp2
       go_ret2
       refine ⟨ret_pair ?_, bel_drewR HCX.out.bel⟩
       rw [← HJ.out]
       exact HQ.out
end Go.Proofs.YtgcmnkanjcfndaaGreatDoor
namespace Go.Proofs.YtgcmnkanjcfndaaGreatDoor
open Go.RowKit
set_option linter.unusedVariables false
set_option linter.unusedSimpArgs false
theorem rcheck16_any (v0 v1 v2 v3 : Value) (c : Cd) (hk : CdOk c) (w : World) (hv : CdV w v0 v1 v2 v3 c) :
  Calls Tryz.prog 14 #[.agg #[v0, v1, v2, v3]] w fun e w' => e = .returned (.tuple #[.int .i64 (checkC c).1, .int .i64 (checkC c).2]) ∧ Below w.heap.size w w' := by
 by_cases h0 : checkP c.sign = 0
 ·by_cases h1 : 16384 < c.regs.length ∨ 32768 < c.list.length
  ·have e : checkC c = (181, -1) := by unfold checkC aheadP; simp [h0, h1]
   rw [e]
   exact rcheck_early v0 v1 v2 v3 c hk w hv 181 (.inr (.inl ⟨h0, h1, rfl⟩))
  ·by_cases h2 : 4096 < c.slots.length
   ·have e : checkC c = (180, -1) := by unfold checkC aheadP; simp [h0, h1, h2]
    rw [e]
    exact rcheck_early v0 v1 v2 v3 c hk w hv 180 (.inr (.inr ⟨h0, fun e => h1 (.inl e), fun e => h1 (.inr e), h2, rfl⟩))
   ·refine rcheck_walk v0 v1 v2 v3 c hk w hv h0 (by omega) (by omega) (by omega) _ _ ?_
    have hA : aheadP c = if (typesMay c && slotsMay c) = true then 0 else 160 := by
     unfold aheadP
     rw [if_neg (fun e => e h0), if_neg h1, if_neg h2]
    unfold checkC
    rw [hA]
    by_cases h3 : (typesMay c && slotsMay c) = true
    ·rw [if_pos h3, if_pos h3, if_neg (by decide)]
    ·rw [if_neg h3, if_neg h3, if_pos (by decide)]
 ·have e : checkC c = (checkP c.sign, -1) := by unfold checkC aheadP; simp [h0]
  rw [e]
  exact rcheck_early v0 v1 v2 v3 c hk w hv _ (.inl ⟨h0, rfl⟩)
end Go.Proofs.YtgcmnkanjcfndaaGreatDoor
