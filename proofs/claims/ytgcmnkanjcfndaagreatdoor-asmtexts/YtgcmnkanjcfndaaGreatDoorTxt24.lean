import Derived.Test.YtgcmnkanjcfndaaGreatDoorTxt1
import Derived.Test.YtgcmnkanjcfndaaGreatDoorTxt23
namespace Go.Proofs.YtgcmnkanjcfndaaGreatDoor
open Go.RowKit
set_option linter.unusedVariables false
set_option linter.unusedSimpArgs false
set_option maxRecDepth 100000 in
set_option maxHeartbeats 8000000 in
theorem rfits_A (v0 v1 v2 v3 : Value) (c : Cd) (co : CdOk c) (hT : typesMay c = true) (op D A B E n bt La Lb Lc Ld Le : Int) (a b cc d e : UInt8)
  (HROW : Hid (∀ w, Calls Tryz.prog 68 #[.int .i64 op] w fun x w' => x = .returned (.tuple #[.string ⟨#[a, b, cc, d, e]⟩, .bool true]) ∧ w' = w))
  (HCAN : Hid (∀ w, Calls Tryz.prog 65 #[.int .u32 bt] w fun e w' => e = .returned (.bool true) ∧ Below w.heap.size w w'))
  (ix0 : ∀ w, (Instr.index 9 (.string ⟨#[a, b, cc, d, e]⟩) (.int .i64 0)).run Tryz.prog w = .ok (.int .u8 La) w)
  (ix1 : ∀ w, (Instr.index 9 (.string ⟨#[a, b, cc, d, e]⟩) (.int .i64 1)).run Tryz.prog w = .ok (.int .u8 Lb) w)
  (ix2 : ∀ w, (Instr.index 9 (.string ⟨#[a, b, cc, d, e]⟩) (.int .i64 2)).run Tryz.prog w = .ok (.int .u8 Lc) w)
  (ix3 : ∀ w, (Instr.index 9 (.string ⟨#[a, b, cc, d, e]⟩) (.int .i64 3)).run Tryz.prog w = .ok (.int .u8 Ld) w)
  (ix4 : ∀ w, (Instr.index 9 (.string ⟨#[a, b, cc, d, e]⟩) (.int .i64 4)).run Tryz.prog w = .ok (.int .u8 Le) w)
  (oa : letOK La) (ob : letOK Lb) (oc : letOK Lc) (od : letOK Ld) (oT : Le = 112 → La = 118 ∨ (La = 45 ∧ Lb = 118)) (o1 : (op == 1) = false) (o2 : (op != 1) = true) (o3 : (bt == 0) = true) (o4 : (bt != 0) = false) (hz0 : La = 45) (oA : Lb = 45 → Le = 45 ∨ Le = 113) (oB : Lb ≠ 45 → Le = 45 ∨ Le = 112 ∨ Le = 115)
  (w : World) (hv : CdV w v0 v1 v2 v3 c) :
  Calls Tryz.prog 66 #[.agg #[v0, v1, v2, v3], .agg #[.int .i64 op, .int .i64 D, .int .i64 A, .int .i64 B, .int .i64 E, .int .i64 n, .int .u32 bt]] w fun e w' => e = .returned (.bool (operR c.regs La D ⟨0, 0⟩ && (operR c.regs Lb A (dR c.regs La D) && (operR c.regs Lc B (dR c.regs La D) && (operR c.regs Ld E (dR c.regs La D) && tailR c Le n (tR c.regs La Lb D A)))))) ∧ Below w.heap.size w w' := by
 have KO : ∀ (l n : Int) (d : Ty), letOK l → ∀ v, Below w.heap.size w v → Calls Tryz.prog 95 #[.agg #[v0, v1, v2, v3], .int .u8 l, .int .i64 n, .agg #[.int .i64 d.kind, .int .i64 d.par]] v fun e w' => e = .returned (.bool (operR c.regs l n d)) ∧ Below v.heap.size v w' := fun l n d hl v hb => roperand_any v0 v1 v2 v3 c co l n d hl v (hv.below hb)
 have HT0 : Hid (TW w v0 v1 v2 v3 (w.heap.size + 1) op D A B E n bt ((w.alloc (.cells #[v0, v1, v2, v3] 27)).alloc (.cells #[.int .i64 op, .int .i64 D, .int .i64 A, .int .i64 B, .int .i64 E, .int .i64 n, .int .u32 bt] 46))) := TW.start w v0 v1 v2 v3 op D A B E n bt
 obtain ⟨p0, q0, rfl, -⟩ := id hv.sign
 obtain ⟨p1, q1, rfl, hr1⟩ := id hv.regs
 obtain ⟨p2, q2, rfl, -⟩ := id hv.slots
 have hREG : ∀ x : Int, isPl x c.regs.length = true → ∃ (k lb lo : Nat), x = (k : Int) ∧ k < c.regs.length ∧ p1 = some ⟨lb, lo, none⟩ ∧ w.cell? ⟨lb, lo + k * 2, none⟩ = some (.int .i64 (regT c.regs x).kind) ∧ w.cell? ⟨lb, lo + k * 2 + 1, none⟩ = some (.int .i64 (regT c.regs x).par) := by
  intro x hx
  obtain ⟨k, rfl, hkl⟩ := pl_nat hx
  obtain ⟨lb, lo, hp, hc⟩ := RowG.at (p := p1) (n := c.regs.length) (c := q1) hv.regs hkl
  rw [regT_at rfl hkl]
  exact ⟨k, lb, lo, rfl, hkl, hp, hc.at 0 rfl, hc.at 1 rfl⟩
 have HREG : Hid (∀ x : Int, isPl x c.regs.length = true → ∃ (k lb lo : Nat), x = (k : Int) ∧ k < c.regs.length ∧ p1 = some ⟨lb, lo, none⟩ ∧ w.cell? ⟨lb, lo + k * 2, none⟩ = some (.int .i64 (regT c.regs x).kind) ∧ w.cell? ⟨lb, lo + k * 2 + 1, none⟩ = some (.int .i64 (regT c.regs x).par)) := hREG
 have HCV : Hid (CdV w (.slice p0 c.sign.length q0) (.slice p1 c.regs.length q1) (.slice p2 c.slots.length q2) v3 c) := hv
 have HCO : Hid (CdOk c) := co
 have hB0 := co.signL
 have hB1 := co.regsL
 have hB2 := co.slotsL
 have hTy : ∀ x : Int, isPl x c.regs.length = true → letR 118 (regT c.regs x) ⟨0, 0⟩ = true → isPl (regT c.regs x).par c.sign.length = true := fun x hx hk => by
  have h1 := may_num hT hx
  have h2 : (regT c.regs x).kind = 3 := by simpa [letR] using hk
  unfold typeMay at h1
  rw [if_neg (by omega), if_pos h2] at h1
  exact h1
 obtain ⟨n0, hn0⟩ : ∃ n0, c.sign.length = n0 := ⟨_, rfl⟩
 obtain ⟨n1, hn1⟩ : ∃ n1, c.regs.length = n1 := ⟨_, rfl⟩
 obtain ⟨n2, hn2⟩ : ∃ n2, c.slots.length = n2 := ⟨_, rfl⟩
 have HN0 : Hid (c.sign.length = n0) := hn0
 have HN1 : Hid (c.regs.length = n1) := hn1
 have HN2 : Hid (c.slots.length = n2) := hn2
 rw [hn0] at hB0
 rw [hn1] at hB1
 rw [hn2] at hB2
 rw [hn0, hn1, hn2] at HCV KO HT0 ⊢
 clear hREG hv hr1 hn0 hn1 hn2 co
 have HTY : Hid (∀ x : Int, isPl x c.regs.length = true → letR 118 (regT c.regs x) ⟨0, 0⟩ = true → isPl (regT c.regs x).par c.sign.length = true) := hTy
 clear hTy hT
 have hKO0 := fun d => KO La D d oa
 have hKOA := fun d => KO Lb A d ob
 have hKOB := fun d => KO Lc B d oc
 have hKOC := fun d => KO Ld E d od
 clear KO
 have hPP0 : Le = 112 → La = 118 ∨ (La = 45 ∧ Lb = 118) := oT
 clear oT oc od
 obtain ⟨RES, hRES⟩ : ∃ R, (operR c.regs La D ⟨0, 0⟩ && (operR c.regs Lb A (dR c.regs La D) && (operR c.regs Lc B (dR c.regs La D) && (operR c.regs Ld E (dR c.regs La D) && tailR c Le n (tR c.regs La Lb D A))))) = R := ⟨_, rfl⟩
 rw [hRES]
 subst hz0
 by_cases hD : D = 0
 ·subst hD
  rw [operR_no, show ((0 : Int) == 0) = true from rfl, Bool.true_and, show dR c.regs 45 0 = ⟨0, 0⟩ from rfl] at hRES
  have hXT : operR c.regs Lb A ⟨0, 0⟩ = true → Lb ≠ 45 → isPl A c.regs.length = true := fun h hl => by
   rw [operR_yes hl] at h
   simp only [Bool.and_eq_true] at h
   exact h.1
  have hXP : operR c.regs Lb A ⟨0, 0⟩ = true → Lb = 118 → letR 118 (regT c.regs A) ⟨0, 0⟩ = true := fun h hl => by
   subst hl
   rw [operR_yes (by decide)] at h
   simp only [Bool.and_eq_true] at h
   exact h.2
  obtain ⟨XA, hXA⟩ : ∃ X, operR c.regs Lb A ⟨0, 0⟩ = X := ⟨_, rfl⟩
  obtain ⟨XB, hXB⟩ : ∃ X, operR c.regs Lc B ⟨0, 0⟩ = X := ⟨_, rfl⟩
  obtain ⟨XC, hXC⟩ : ∃ X, operR c.regs Ld E ⟨0, 0⟩ = X := ⟨_, rfl⟩
  rw [hXA] at hXT hXP
  rw [hXA, hXB, hXC] at hRES
  have HKA : Hid _ := hKOA ⟨0, 0⟩
  have HKB : Hid _ := hKOB ⟨0, 0⟩
  have HKC : Hid _ := hKOC ⟨0, 0⟩
  rw [hXA] at HKA
  rw [hXB] at HKB
  rw [hXC] at HKC
  simp only at HKA HKB HKC
  have HXT : Hid (XA = true → Lb ≠ 45 → isPl A c.regs.length = true) := hXT
  have HXP : Hid (XA = true → Lb = 118 → letR 118 (regT c.regs A) ⟨0, 0⟩ = true) := hXP
  have HRES : Hid ((XA && (XB && (XC && tailR c Le n (tR c.regs 45 Lb 0 A)))) = RES) := hRES
  clear hKO0 hKOA hKOB hKOC hXA hXB hXC hXT hXP hRES
  go_enter Tryz.func66, Tryz.ntmps66
  go_wp2_with (first
   | (go_at_call 68; refine (HROW.out _).mono ?_; rintro e w1 ⟨rfl, rfl⟩)
   | (go_at_call 65; refine (HCAN.out _).mono ?_; rintro e w2 ⟨rfl, hb2⟩; have HT2 : Hid (TW w (.slice p0 n0 q0) (.slice p1 n1 q1) (.slice p2 n2 q2) v3 (w.heap.size + 1) op 0 A B E n bt (w2.alloc (.cells #[.int .i64 0, .int .i64 0] 50))) := (HT0.out.next hb2).next (bel_alloc _ _); obtain ⟨b1, c0, c1, c2, c3, i0, i1, i2, i3, i4, i5, i6⟩ := HT2.out; have HS2 : Hid (w.heap.size + 1 < w2.heap.size) := mcell_lt (HT0.out.next hb2).i0; clear hb2))
  have HD : Hid ((w2.alloc (.cells #[.int .i64 0, .int .i64 0] 50)).cell? ⟨w2.heap.size, 0, none⟩ = some (.int .i64 0) ∧ (w2.alloc (.cells #[.int .i64 0, .int .i64 0] 50)).cell? ⟨w2.heap.size, 1, none⟩ = some (.int .i64 0)) := ⟨by simp [go_sem], by simp [go_sem]⟩
  have HTD : Hid _ := HT2.out
  obtain ⟨Z, hZ⟩ : ∃ Z, w2.heap.size = Z := ⟨_, rfl⟩
  obtain ⟨Wd, hWd⟩ : ∃ W, w2.alloc (.cells #[.int .i64 0, .int .i64 0] 50) = W := ⟨_, rfl⟩
  rw [hZ] at HD
  rw [hWd] at HD HTD ⊢
  try rw [hZ]
  clear hZ hWd HT2 b1 c0 c1 c2 c3 i0 i1 i2 i3 i4 i5 i6 HT0 HROW HCAN
  have HCD : Hid (∀ v, Below Wd.heap.size Wd v → v.cell? ⟨w.heap.size, 0, none⟩ = some (.slice p0 n0 q0) ∧ v.cell? ⟨w.heap.size, 1, none⟩ = some (.slice p1 n1 q1) ∧ v.cell? ⟨w.heap.size, 2, none⟩ = some (.slice p2 n2 q2) ∧ v.cell? ⟨w.heap.size, 3, none⟩ = some v3 ∧ v.cell? ⟨w.heap.size + 1, 1, none⟩ = some (.int .i64 0) ∧ v.cell? ⟨w.heap.size + 1, 2, none⟩ = some (.int .i64 A) ∧ v.cell? ⟨w.heap.size + 1, 3, none⟩ = some (.int .i64 B) ∧ v.cell? ⟨w.heap.size + 1, 4, none⟩ = some (.int .i64 E) ∧ v.cell? ⟨w.heap.size + 1, 5, none⟩ = some (.int .i64 n) ∧ v.cell? ⟨Z, 0, none⟩ = some (.int .i64 0) ∧ v.cell? ⟨Z, 1, none⟩ = some (.int .i64 0)) := fun v hb => ⟨kc hb HTD.out.c0, kc hb HTD.out.c1, kc hb HTD.out.c2, kc hb HTD.out.c3, kc hb HTD.out.i1, kc hb HTD.out.i2, kc hb HTD.out.i3, kc hb HTD.out.i4, kc hb HTD.out.i5, kc hb HD.out.1, kc hb HD.out.2⟩
  obtain ⟨c0, c1, c2, c3, i1, i2, i3, i4, i5, d0, d1⟩ := HCD.out Wd (bel0 _)
  cases XA
  ·have HQF : Hid (false = RES) := HRES.out
   go_wp2
   refine wp_region_held_drew (S := (fun v => v.cell? ⟨w.heap.size, 0, none⟩ = some (.slice p0 n0 q0) ∧ v.cell? ⟨w.heap.size, 1, none⟩ = some (.slice p1 n1 q1) ∧ v.cell? ⟨w.heap.size, 2, none⟩ = some (.slice p2 n2 q2) ∧ v.cell? ⟨w.heap.size, 3, none⟩ = some v3 ∧ v.cell? ⟨w.heap.size + 1, 1, none⟩ = some (.int .i64 0) ∧ v.cell? ⟨w.heap.size + 1, 2, none⟩ = some (.int .i64 A) ∧ v.cell? ⟨w.heap.size + 1, 3, none⟩ = some (.int .i64 B) ∧ v.cell? ⟨w.heap.size + 1, 4, none⟩ = some (.int .i64 E) ∧ v.cell? ⟨w.heap.size + 1, 5, none⟩ = some (.int .i64 n) ∧ v.cell? ⟨Z, 0, none⟩ = some (.int .i64 0) ∧ v.cell? ⟨Z, 1, none⟩ = some (.int .i64 0))) (by kernel_rfl) ?_ (fun hHeld => ?_)
   ·((try dsimp only); go_keep)
   refine tkT 0 ?_
   refine tkT 1 ?_
   refine tkT 2 ?_
   refine tkT 3 ?_
   refine tkT 4 ?_
   refine tkT 5 ?_
   clear hHeld
   refine wpAnyH_ready (rs := [6]) (by kernel_rfl) (by simp) ?_
   refine AllReadyH.cons (i := 6) (by simp only [List.getElem?_toArray, List.getElem?_cons_succ, List.getElem?_cons_zero]; rfl) (fun K hK => ?_) AllReadyH.nil
   go_simp
   (go_at_call 95; (with_reducible refine (HKA.out _ (bel HTD.out.bel (bel_d _))).mono ?_); rintro e w3 ⟨rfl, hb9⟩; have HB3 : Hid (Below Wd.heap.size Wd w3) := bel (bel_d _) hb9; clear hb9; obtain ⟨c0, c1, c2, c3, i1, i2, i3, i4, i5, d0, d1⟩ := HCD.out w3 HB3.out)
   try (go_wp2_with fail)
   refine hK.out _ _ ?_ (fun hHeld => ?_)
   ·((try dsimp only); go_keep)
   clear hK K
   try simp only [Act.put, List.setIfInBounds_toArray, List.set_cons_zero, List.set_cons_succ]
   refine tkT 7 ?_
   refine tkT 8 ?_
   refine tkK 9 ?_
   refine tkK 10 ?_
   refine tkK 11 ?_
   refine tkK 12 ?_
   refine tkK 13 ?_
   refine tkK 14 ?_
   refine tkK 15 ?_
   refine tkK 16 ?_
   refine tkT 17 ?_
   refine tkT 18 ?_
   refine tkK 19 ?_
   refine tkK 20 ?_
   refine tkK 21 ?_
   refine tkK 22 ?_
   refine tkK 23 ?_
   refine tkK 24 ?_
   refine tkK 25 ?_
   refine tkK 26 ?_
   refine tkT 27 ?_
   refine wpAnyH_done (by kernel_rfl) ?_ _
   go_wp2
   go_ret
   exact ⟨ret_bool HQF.out, bel HTD.out.bel HB3.out⟩
  cases XB
  ·have HQF : Hid (false = RES) := HRES.out
   go_wp2
   refine wp_region_held_drew (S := (fun v => v.cell? ⟨w.heap.size, 0, none⟩ = some (.slice p0 n0 q0) ∧ v.cell? ⟨w.heap.size, 1, none⟩ = some (.slice p1 n1 q1) ∧ v.cell? ⟨w.heap.size, 2, none⟩ = some (.slice p2 n2 q2) ∧ v.cell? ⟨w.heap.size, 3, none⟩ = some v3 ∧ v.cell? ⟨w.heap.size + 1, 1, none⟩ = some (.int .i64 0) ∧ v.cell? ⟨w.heap.size + 1, 2, none⟩ = some (.int .i64 A) ∧ v.cell? ⟨w.heap.size + 1, 3, none⟩ = some (.int .i64 B) ∧ v.cell? ⟨w.heap.size + 1, 4, none⟩ = some (.int .i64 E) ∧ v.cell? ⟨w.heap.size + 1, 5, none⟩ = some (.int .i64 n) ∧ v.cell? ⟨Z, 0, none⟩ = some (.int .i64 0) ∧ v.cell? ⟨Z, 1, none⟩ = some (.int .i64 0))) (by kernel_rfl) ?_ (fun hHeld => ?_)
   ·((try dsimp only); go_keep)
   refine tkT 0 ?_
   refine tkT 1 ?_
   refine tkT 2 ?_
   refine tkT 3 ?_
   refine tkT 4 ?_
   refine tkT 5 ?_
   clear hHeld
   refine wpAnyH_ready (rs := [6]) (by kernel_rfl) (by simp) ?_
   refine AllReadyH.cons (i := 6) (by simp only [List.getElem?_toArray, List.getElem?_cons_succ, List.getElem?_cons_zero]; rfl) (fun K hK => ?_) AllReadyH.nil
   go_simp
   (go_at_call 95; (with_reducible refine (HKA.out _ (bel HTD.out.bel (bel_d _))).mono ?_); rintro e w3 ⟨rfl, hb9⟩; have HB3 : Hid (Below Wd.heap.size Wd w3) := bel (bel_d _) hb9; clear hb9; obtain ⟨c0, c1, c2, c3, i1, i2, i3, i4, i5, d0, d1⟩ := HCD.out w3 HB3.out)
   try (go_wp2_with fail)
   refine hK.out _ _ ?_ (fun hHeld => ?_)
   ·((try dsimp only); go_keep)
   clear hK K
   try simp only [Act.put, List.setIfInBounds_toArray, List.set_cons_zero, List.set_cons_succ]
   refine tkT 7 ?_
   refine tkT 8 ?_
   refine tkT 9 ?_
   refine tkT 10 ?_
   refine tkT 11 ?_
   refine tkT 12 ?_
   refine tkT 13 ?_
   refine tkT 14 ?_
   clear hHeld
   refine wpAnyH_ready (rs := [15]) (by kernel_rfl) (by simp) ?_
   refine AllReadyH.cons (i := 15) (by simp only [List.getElem?_toArray, List.getElem?_cons_succ, List.getElem?_cons_zero]; rfl) (fun K hK => ?_) AllReadyH.nil
   go_simp
   (go_at_call 95; (with_reducible refine (HKB.out _ (bel HTD.out.bel HB3.out)).mono ?_); rintro e w4 ⟨rfl, hb9⟩; have HB4 : Hid (Below Wd.heap.size Wd w4) := bel HB3.out hb9; clear hb9; clear c0 c1 c2 c3 i1 i2 i3 i4 i5 d0 d1; obtain ⟨c0, c1, c2, c3, i1, i2, i3, i4, i5, d0, d1⟩ := HCD.out w4 HB4.out)
   try (go_wp2_with fail)
   refine hK.out _ _ ?_ (fun hHeld => ?_)
   ·((try dsimp only); go_keep)
   clear hK K
   try simp only [Act.put, List.setIfInBounds_toArray, List.set_cons_zero, List.set_cons_succ]
   refine tkT 16 ?_
   refine tkT 17 ?_
   refine tkT 18 ?_
   refine tkK 19 ?_
   refine tkK 20 ?_
   refine tkK 21 ?_
   refine tkK 22 ?_
   refine tkK 23 ?_
   refine tkK 24 ?_
   refine tkK 25 ?_
   refine tkK 26 ?_
   refine tkT 27 ?_
   refine wpAnyH_done (by kernel_rfl) ?_ _
   go_wp2
   go_ret
   exact ⟨ret_bool HQF.out, bel HTD.out.bel HB4.out⟩
  cases XC
  ·have HQF : Hid (false = RES) := HRES.out
   go_wp2
   refine wp_region_held_drew (S := (fun v => v.cell? ⟨w.heap.size, 0, none⟩ = some (.slice p0 n0 q0) ∧ v.cell? ⟨w.heap.size, 1, none⟩ = some (.slice p1 n1 q1) ∧ v.cell? ⟨w.heap.size, 2, none⟩ = some (.slice p2 n2 q2) ∧ v.cell? ⟨w.heap.size, 3, none⟩ = some v3 ∧ v.cell? ⟨w.heap.size + 1, 1, none⟩ = some (.int .i64 0) ∧ v.cell? ⟨w.heap.size + 1, 2, none⟩ = some (.int .i64 A) ∧ v.cell? ⟨w.heap.size + 1, 3, none⟩ = some (.int .i64 B) ∧ v.cell? ⟨w.heap.size + 1, 4, none⟩ = some (.int .i64 E) ∧ v.cell? ⟨w.heap.size + 1, 5, none⟩ = some (.int .i64 n) ∧ v.cell? ⟨Z, 0, none⟩ = some (.int .i64 0) ∧ v.cell? ⟨Z, 1, none⟩ = some (.int .i64 0))) (by kernel_rfl) ?_ (fun hHeld => ?_)
   ·((try dsimp only); go_keep)
   refine tkT 0 ?_
   refine tkT 1 ?_
   refine tkT 2 ?_
   refine tkT 3 ?_
   refine tkT 4 ?_
   refine tkT 5 ?_
   clear hHeld
   refine wpAnyH_ready (rs := [6]) (by kernel_rfl) (by simp) ?_
   refine AllReadyH.cons (i := 6) (by simp only [List.getElem?_toArray, List.getElem?_cons_succ, List.getElem?_cons_zero]; rfl) (fun K hK => ?_) AllReadyH.nil
   go_simp
   (go_at_call 95; (with_reducible refine (HKA.out _ (bel HTD.out.bel (bel_d _))).mono ?_); rintro e w3 ⟨rfl, hb9⟩; have HB3 : Hid (Below Wd.heap.size Wd w3) := bel (bel_d _) hb9; clear hb9; obtain ⟨c0, c1, c2, c3, i1, i2, i3, i4, i5, d0, d1⟩ := HCD.out w3 HB3.out)
   try (go_wp2_with fail)
   refine hK.out _ _ ?_ (fun hHeld => ?_)
   ·((try dsimp only); go_keep)
   clear hK K
   try simp only [Act.put, List.setIfInBounds_toArray, List.set_cons_zero, List.set_cons_succ]
   refine tkT 7 ?_
   refine tkT 8 ?_
   refine tkT 9 ?_
   refine tkT 10 ?_
   refine tkT 11 ?_
   refine tkT 12 ?_
   refine tkT 13 ?_
   refine tkT 14 ?_
   clear hHeld
   refine wpAnyH_ready (rs := [15]) (by kernel_rfl) (by simp) ?_
   refine AllReadyH.cons (i := 15) (by simp only [List.getElem?_toArray, List.getElem?_cons_succ, List.getElem?_cons_zero]; rfl) (fun K hK => ?_) AllReadyH.nil
   go_simp
   (go_at_call 95; (with_reducible refine (HKB.out _ (bel HTD.out.bel HB3.out)).mono ?_); rintro e w4 ⟨rfl, hb9⟩; have HB4 : Hid (Below Wd.heap.size Wd w4) := bel HB3.out hb9; clear hb9; clear c0 c1 c2 c3 i1 i2 i3 i4 i5 d0 d1; obtain ⟨c0, c1, c2, c3, i1, i2, i3, i4, i5, d0, d1⟩ := HCD.out w4 HB4.out)
   try (go_wp2_with fail)
   refine hK.out _ _ ?_ (fun hHeld => ?_)
   ·((try dsimp only); go_keep)
   clear hK K
   try simp only [Act.put, List.setIfInBounds_toArray, List.set_cons_zero, List.set_cons_succ]
   refine tkT 16 ?_
   refine tkT 17 ?_
   refine tkT 18 ?_
   refine tkT 19 ?_
   refine tkT 20 ?_
   refine tkT 21 ?_
   refine tkT 22 ?_
   refine tkT 23 ?_
   refine tkT 24 ?_
   clear hHeld
   refine wpAnyH_ready (rs := [25]) (by kernel_rfl) (by simp) ?_
   refine AllReadyH.cons (i := 25) (by simp only [List.getElem?_toArray, List.getElem?_cons_succ, List.getElem?_cons_zero]; rfl) (fun K hK => ?_) AllReadyH.nil
   go_simp
   (go_at_call 95; (with_reducible refine (HKC.out _ (bel HTD.out.bel HB4.out)).mono ?_); rintro e w5 ⟨rfl, hb9⟩; have HB5 : Hid (Below Wd.heap.size Wd w5) := bel HB4.out hb9; clear hb9; clear c0 c1 c2 c3 i1 i2 i3 i4 i5 d0 d1; obtain ⟨c0, c1, c2, c3, i1, i2, i3, i4, i5, d0, d1⟩ := HCD.out w5 HB5.out)
   try (go_wp2_with fail)
   refine hK.out _ _ ?_ (fun hHeld => ?_)
   ·((try dsimp only); go_keep)
   clear hK K
   try simp only [Act.put, List.setIfInBounds_toArray, List.set_cons_zero, List.set_cons_succ]
   refine tkT 26 ?_
   refine tkT 27 ?_
   refine wpAnyH_done (by kernel_rfl) ?_ _
   go_wp2
   go_ret
   exact ⟨ret_bool HQF.out, bel HTD.out.bel HB5.out⟩
  go_wp2
  refine wp_region_held_drew (S := (fun v => v.cell? ⟨w.heap.size, 0, none⟩ = some (.slice p0 n0 q0) ∧ v.cell? ⟨w.heap.size, 1, none⟩ = some (.slice p1 n1 q1) ∧ v.cell? ⟨w.heap.size, 2, none⟩ = some (.slice p2 n2 q2) ∧ v.cell? ⟨w.heap.size, 3, none⟩ = some v3 ∧ v.cell? ⟨w.heap.size + 1, 1, none⟩ = some (.int .i64 0) ∧ v.cell? ⟨w.heap.size + 1, 2, none⟩ = some (.int .i64 A) ∧ v.cell? ⟨w.heap.size + 1, 3, none⟩ = some (.int .i64 B) ∧ v.cell? ⟨w.heap.size + 1, 4, none⟩ = some (.int .i64 E) ∧ v.cell? ⟨w.heap.size + 1, 5, none⟩ = some (.int .i64 n) ∧ v.cell? ⟨Z, 0, none⟩ = some (.int .i64 0) ∧ v.cell? ⟨Z, 1, none⟩ = some (.int .i64 0))) (by kernel_rfl) ?_ (fun hHeld => ?_)
  ·((try dsimp only); go_keep)
  refine tkT 0 ?_
  refine tkT 1 ?_
  refine tkT 2 ?_
  refine tkT 3 ?_
  refine tkT 4 ?_
  refine tkT 5 ?_
  clear hHeld
  refine wpAnyH_ready (rs := [6]) (by kernel_rfl) (by simp) ?_
  refine AllReadyH.cons (i := 6) (by simp only [List.getElem?_toArray, List.getElem?_cons_succ, List.getElem?_cons_zero]; rfl) (fun K hK => ?_) AllReadyH.nil
  go_simp
  (go_at_call 95; (with_reducible refine (HKA.out _ (bel HTD.out.bel (bel_d _))).mono ?_); rintro e w3 ⟨rfl, hb9⟩; have HB3 : Hid (Below Wd.heap.size Wd w3) := bel (bel_d _) hb9; clear hb9; obtain ⟨c0, c1, c2, c3, i1, i2, i3, i4, i5, d0, d1⟩ := HCD.out w3 HB3.out)
  try (go_wp2_with fail)
  refine hK.out _ _ ?_ (fun hHeld => ?_)
  ·((try dsimp only); go_keep)
  clear hK K
  try simp only [Act.put, List.setIfInBounds_toArray, List.set_cons_zero, List.set_cons_succ]
  refine tkT 7 ?_
  refine tkT 8 ?_
  refine tkT 9 ?_
  refine tkT 10 ?_
  refine tkT 11 ?_
  refine tkT 12 ?_
  refine tkT 13 ?_
  refine tkT 14 ?_
  clear hHeld
  refine wpAnyH_ready (rs := [15]) (by kernel_rfl) (by simp) ?_
  refine AllReadyH.cons (i := 15) (by simp only [List.getElem?_toArray, List.getElem?_cons_succ, List.getElem?_cons_zero]; rfl) (fun K hK => ?_) AllReadyH.nil
  go_simp
  (go_at_call 95; (with_reducible refine (HKB.out _ (bel HTD.out.bel HB3.out)).mono ?_); rintro e w4 ⟨rfl, hb9⟩; have HB4 : Hid (Below Wd.heap.size Wd w4) := bel HB3.out hb9; clear hb9; clear c0 c1 c2 c3 i1 i2 i3 i4 i5 d0 d1; obtain ⟨c0, c1, c2, c3, i1, i2, i3, i4, i5, d0, d1⟩ := HCD.out w4 HB4.out)
  try (go_wp2_with fail)
  refine hK.out _ _ ?_ (fun hHeld => ?_)
  ·((try dsimp only); go_keep)
  clear hK K
  try simp only [Act.put, List.setIfInBounds_toArray, List.set_cons_zero, List.set_cons_succ]
  refine tkT 16 ?_
  refine tkT 17 ?_
  refine tkT 18 ?_
  refine tkT 19 ?_
  refine tkT 20 ?_
  refine tkT 21 ?_
  refine tkT 22 ?_
  refine tkT 23 ?_
  refine tkT 24 ?_
  clear hHeld
  refine wpAnyH_ready (rs := [25]) (by kernel_rfl) (by simp) ?_
  refine AllReadyH.cons (i := 25) (by simp only [List.getElem?_toArray, List.getElem?_cons_succ, List.getElem?_cons_zero]; rfl) (fun K hK => ?_) AllReadyH.nil
  go_simp
  (go_at_call 95; (with_reducible refine (HKC.out _ (bel HTD.out.bel HB4.out)).mono ?_); rintro e w5 ⟨rfl, hb9⟩; have HB5 : Hid (Below Wd.heap.size Wd w5) := bel HB4.out hb9; clear hb9; clear c0 c1 c2 c3 i1 i2 i3 i4 i5 d0 d1; obtain ⟨c0, c1, c2, c3, i1, i2, i3, i4, i5, d0, d1⟩ := HCD.out w5 HB5.out)
  try (go_wp2_with fail)
  refine hK.out _ _ ?_ (fun hHeld => ?_)
  ·((try dsimp only); go_keep)
  clear hK K
  try simp only [Act.put, List.setIfInBounds_toArray, List.set_cons_zero, List.set_cons_succ]
  refine tkT 26 ?_
  refine tkT 27 ?_
  refine wpAnyH_done (by kernel_rfl) ?_ _
  clear c0 c1 c2 c3 i1 i2 i3 i4 i5 d0 d1
  have HT5 : Hid (TW w (.slice p0 n0 q0) (.slice p1 n1 q1) (.slice p2 n2 q2) v3 (w.heap.size + 1) op 0 A B E n bt w5) := HTD.out.next HB5.out
  obtain ⟨hb5, c0, c1, c2, c3, i0, i1, i2, i3, i4, i5, i6⟩ := HT5.out
  obtain ⟨-, -, -, -, -, -, -, -, -, d0, d1⟩ := HCD.out w5 HB5.out
  have hs5 : w5.heap.size ≠ w.heap.size + 1 ∧ w.heap.size < w5.heap.size := ⟨fun e => by have := mcell_lt i0; simp only at this; omega, by have := mcell_lt c0; simp only at this; omega⟩
  have HAL : Hid (TW w (.slice p0 n0 q0) (.slice p1 n1 q1) (.slice p2 n2 q2) v3 (w.heap.size + 1) op 0 A B E n bt (w5.alloc (.cells #[.int .i64 0, .int .i64 0] 50))) := HT5.out.next (bel_alloc _ _)
  by_cases hlb : Lb = 45
  ·have oe := oA hlb
   subst hlb
   have HRT : Hid (tailR c Le n ⟨0, 0⟩ = RES) := HRES.out
   clear c0 c1 c2 c3 i0 i1 i2 i3 i4 i5 i6
   have t0 : (w5.alloc (.cells #[.int .i64 0, .int .i64 0] 50)).cell? ⟨w5.heap.size, 0, none⟩ = some (.int .i64 0) := by simp [go_sem]
   have t1 : (w5.alloc (.cells #[.int .i64 0, .int .i64 0] 50)).cell? ⟨w5.heap.size, 1, none⟩ = some (.int .i64 0) := by simp [go_sem]
   obtain ⟨hbx, c0, c1, c2, c3, i0, i1, i2, i3, i4, i5, i6⟩ := HAL.out
   clear d0 d1 hPP0 HXT HXP HRES oA oB
   have hbt := hbx
   rcases oe with rfl | rfl
   ·have HQ : Hid ((n == 0) = RES) := HRT.out
    go_wp2
    go_ret
    exact ⟨ret_bool HQ.out, hbt⟩
   ·have HQ : Hid (isPl n c.sign.length = RES) := HRT.out
    have hN0 := HN0.out
    by_cases hn0 : 0 ≤ n
    all_goals
     go_wp2
     go_ret
     refine ⟨ret_bool ?_, hbt⟩
     rw [← HQ.out]
     unfold isPl
     rw [hN0]
     first | (simp [hn0]; done) | (simp [hn0]; omega) | (simp [hn0]; intro h; omega)
  ·have oe := oB hlb
   have hlb1 : (Lb == 45) = false := by simpa using hlb
   have hlb2 : (Lb != 45) = true := by simpa using hlb
   obtain ⟨ka, lb, lo, rfl, hka, rfl, ya0, ya1⟩ := HREG.out A (HXT.out (by first | rfl | trivial) hlb)
   have HRT0 : Hid (tailR c Le n (regT c.regs (ka : Int)) = RES) := by
    have h1 := HRES.out
    have h2 : tR c.regs 45 Lb 0 (ka : Int) = regT c.regs (ka : Int) := if_pos ⟨rfl, hlb⟩
    rw [h2] at h1
    exact h1
   have HPP0 : Hid (Le = 112 → isPl (regT c.regs (ka : Int)).par c.sign.length = true) := fun e => by
    rcases hPP0 e with h | ⟨-, h⟩
    ·exact absurd h (by decide)
    ·exact HTY.out _ (HXT.out (by first | rfl | trivial) hlb) (HXP.out (by first | rfl | trivial) h)
   obtain ⟨⟨tk, tp⟩, htt⟩ : ∃ t : Ty, regT c.regs (ka : Int) = t := ⟨_, rfl⟩
   rw [htt] at HRT0 HPP0 ya0 ya1
   have HRT : Hid (tailR c Le n ⟨tk, tp⟩ = RES) := HRT0.out
   have HPP : Hid (Le = 112 → isPl tp c.sign.length = true) := HPP0.out
   have ka0 : (0 : Int) ≤ (ka : Int) := by omega
   have ka1 : (ka : Int) < (n1 : Int) := by have := HN1.out; omega
   clear c0 c1 c2 c3 i0 i1 i2 i3 i4 i5 i6
   have hq5 := fun o => HT5.out.next (bel_alloc w5 o)
   have c0 := fun o => (hq5 o).c0
   have c1 := fun o => (hq5 o).c1
   have c2 := fun o => (hq5 o).c2
   have c3 := fun o => (hq5 o).c3
   have i2 := fun o => (hq5 o).i2
   have i5 := fun o => (hq5 o).i5
   have xa0 := fun o => kc (hq5 o).bel ya0
   have xa1 := fun o => kc (hq5 o).bel ya1
   have hbx := (hq5 (.cells #[.int .i64 tk, .int .i64 tp] 50)).bel
   have t0 : (w5.alloc (.cells #[.int .i64 tk, .int .i64 tp] 50)).cell? ⟨w5.heap.size, 0, none⟩ = some (.int .i64 tk) := by simp [go_sem]
   have t1 : (w5.alloc (.cells #[.int .i64 tk, .int .i64 tp] 50)).cell? ⟨w5.heap.size, 1, none⟩ = some (.int .i64 tp) := by simp [go_sem]
   clear d0 d1 hPP0 HXT HXP HRES oA oB hq5
   have hbt := hbx
   rcases oe with rfl | rfl | rfl
   ·have HQ : Hid ((n == 0) = RES) := HRT.out
    go_wp2
    go_ret
    exact ⟨ret_bool HQ.out, hbt⟩
   ·have HQ : Hid ((n == 0 || (n == 1 && kindOf c.sign tp == 2)) = RES) := HRT.out
    have HPA : Hid (∀ v, Below w.heap.size w v → Calls Tryz.prog 96 #[.agg #[.slice p0 n0 q0, .slice (some ⟨lb, lo, none⟩) n1 q1, .slice p2 n2 q2, v3], .int .i64 n, .int .i64 tp] v fun e w' => e = .returned (.bool RES) ∧ Below v.heap.size v w') := fun v hb => by rw [← HQ.out]; exact rpart_any _ _ _ _ c HCO.out n tp (fun _ => HPP.out rfl) v (HCV.out.below hb)
    go_wp2_with (go_at_call 96; (with_reducible refine (HPA.out _ hbt).mono ?_); rintro e w7 ⟨rfl, hb7⟩; have HB7 : Hid _ := hb7; clear hb7)
    go_ret
    exact ⟨rfl, bel hbt HB7.out⟩
   ·have HQ : Hid ((isPl n c.slots.length && decide (slotT c.slots n = ⟨tk, tp⟩)) = RES) := HRT.out
    cases hpl : isPl n c.slots.length
    ·have HQF : Hid (false = RES) := by show _ = _; have := HQ.out; rw [hpl] at this; exact this
     have hpl' := hpl
     unfold isPl at hpl'
     rw [HN2.out] at hpl'
     by_cases hn0 : 0 ≤ n
     ·have HLT : Hid (¬ n < (n2 : Int)) := by show ¬ _; simp [hn0] at hpl'; omega
      clear hpl hpl'
      go_wp2
      refine wp_region_held_drew (S := (fun v => v.cell? ⟨w.heap.size, 2, none⟩ = some (.slice p2 n2 q2) ∧ v.cell? ⟨w.heap.size + 1, 5, none⟩ = some (.int .i64 n))) (by kernel_rfl) ?_ (fun hHeld => ?_)
      ·((try dsimp only); go_keep)
      refine tkT 0 ?_
      refine tkT 1 ?_
      refine tkT 2 ?_
      refine tkT 3 ?_
      refine tkT 4 ?_
      refine tkT 5 ?_
      refine tkT 6 ?_
      refine tkT 7 ?_
      refine tkT 8 ?_
      refine wpAnyH_take (i := 9) (v := .bool false) (by simp only [List.getElem?_toArray, List.getElem?_cons_succ, List.getElem?_cons_zero]; rfl) (by kernel_rfl) (by kernel_rfl) (by kernel_rfl) (by exact fun _ _ _ h => h) (Or.inl ⟨by rfl, ?_⟩) (by assumption) ?_
      ·(intro wS hSw; (try dsimp only at hSw); have hltF := HLT.out; go_simp; first | done | rfl | omega | (simp; omega) | simp [hltF])
      try simp only [Act.put, List.setIfInBounds_toArray, List.set_cons_zero, List.set_cons_succ]
      refine tkT 10 ?_
      refine tkT 11 ?_
      refine tkK 12 ?_
      refine tkK 13 ?_
      refine tkK 14 ?_
      refine tkK 15 ?_
      refine tkK 16 ?_
      refine tkK 17 ?_
      refine tkK 18 ?_
      refine tkK 19 ?_
      refine tkK 20 ?_
      refine tkT 21 ?_
      refine tkT 22 ?_
      refine wpAnyH_done (by kernel_rfl) ?_ _
      go_wp2
      go_ret
      exact ⟨ret_bool HQF.out, bel_drewR hbt⟩
     ·have HLT : Hid (¬ 0 ≤ n) := hn0
      clear hpl hpl' hn0
      go_wp2
      refine wp_region_held_drew (S := (fun v => v.cell? ⟨w.heap.size, 2, none⟩ = some (.slice p2 n2 q2) ∧ v.cell? ⟨w.heap.size + 1, 5, none⟩ = some (.int .i64 n))) (by kernel_rfl) ?_ (fun hHeld => ?_)
      ·((try dsimp only); go_keep)
      refine tkT 0 ?_
      refine tkT 1 ?_
      refine wpAnyH_take (i := 2) (v := .bool false) (by simp only [List.getElem?_toArray, List.getElem?_cons_succ, List.getElem?_cons_zero]; rfl) (by kernel_rfl) (by kernel_rfl) (by kernel_rfl) (by exact fun _ _ _ h => h) (Or.inl ⟨by rfl, ?_⟩) (by assumption) ?_
      ·(intro wS hSw; (try dsimp only at hSw); have hltF := HLT.out; go_simp; first | done | rfl | omega | (simp; omega) | simp [hltF])
      try simp only [Act.put, List.setIfInBounds_toArray, List.set_cons_zero, List.set_cons_succ]
      refine tkT 3 ?_
      refine tkK 4 ?_
      refine tkK 5 ?_
      refine tkK 6 ?_
      refine tkK 7 ?_
      refine tkK 8 ?_
      refine tkK 9 ?_
      refine tkT 10 ?_
      refine tkT 11 ?_
      refine tkK 12 ?_
      refine tkK 13 ?_
      refine tkK 14 ?_
      refine tkK 15 ?_
      refine tkK 16 ?_
      refine tkK 17 ?_
      refine tkK 18 ?_
      refine tkK 19 ?_
      refine tkK 20 ?_
      refine tkT 21 ?_
      refine tkT 22 ?_
      refine wpAnyH_done (by kernel_rfl) ?_ _
      go_wp2
      go_ret
      exact ⟨ret_bool HQF.out, bel_drewR hbt⟩
    ·obtain ⟨k, rfl, hkl⟩ := pl_nat hpl
     obtain ⟨lb9, lo9, ep, hc9⟩ := RowG.at (p := p2) (n := n2) (c := q2) HCV.out.slots hkl
     subst ep
     have e9 : slotT c.slots (k : Int) = c.slots[k].ty := by unfold slotT; rw [Int.toNat_natCast, List.getElem?_eq_getElem hkl]; rfl
     have hq9 := HQ.out
     rw [hpl, Bool.true_and, e9] at hq9
     obtain ⟨⟨⟨sk, sp⟩, sQ, sB, sI⟩, ht9⟩ : ∃ t : Sl, c.slots[k] = t := ⟨_, rfl⟩
     rw [ht9] at hc9 hq9
     have HQ9 : Hid (decide ((⟨sk, sp⟩ : Ty) = ⟨tk, tp⟩) = RES) := hq9
     have y0 : w.cell? ⟨lb9, lo9 + k * 5, none⟩ = some (.int .i64 sk) := hc9.at 0 rfl
     have y1 : w.cell? ⟨lb9, lo9 + k * 5 + 1, none⟩ = some (.int .i64 sp) := hc9.at 1 rfl
     have x0 := kc hbt y0
     have x1 := kc hbt y1
     have k0 : (0 : Int) ≤ (k : Int) := by omega
     have k1 : (k : Int) < (n2 : Int) := by have := HN2.out; omega
     clear hc9 ht9 e9 hpl hq9 HQ
     by_cases hks : sk = tk
     ·obtain rfl := hks
      by_cases hps : sp = tp
      ·obtain rfl := hps
       go_wp2
       refine wp_region_held_drew (S := (fun v => v.cell? ⟨w.heap.size, 2, none⟩ = some (.slice (some ⟨lb9, lo9, none⟩) n2 q2) ∧ v.cell? ⟨w.heap.size + 1, 5, none⟩ = some (.int .i64 (k : Int)) ∧ v.cell? ⟨lb9, lo9 + k * 5, none⟩ = some (.int .i64 sk) ∧ v.cell? ⟨lb9, lo9 + k * 5 + 1, none⟩ = some (.int .i64 sp) ∧ v.cell? ⟨w5.heap.size, 0, none⟩ = some (.int .i64 sk) ∧ v.cell? ⟨w5.heap.size, 1, none⟩ = some (.int .i64 sp))) (by kernel_rfl) ?_ (fun hHeld => ?_)
       ·((try dsimp only); go_keep)
       refine tkT 0 ?_
       refine tkT 1 ?_
       refine tkT 2 ?_
       refine tkT 3 ?_
       refine tkT 4 ?_
       refine tkT 5 ?_
       refine tkT 6 ?_
       refine tkT 7 ?_
       refine tkT 8 ?_
       refine tkT 9 ?_
       refine tkT 10 ?_
       refine tkT 11 ?_
       refine tkT 12 ?_
       refine tkT 13 ?_
       refine tkT 14 ?_
       refine tkT 15 ?_
       refine tkT 16 ?_
       refine tkT 17 ?_
       refine tkT 18 ?_
       refine tkT 19 ?_
       refine tkT 20 ?_
       refine tkT 21 ?_
       refine tkT 22 ?_
       refine wpAnyH_done (by kernel_rfl) ?_ _
       go_wp2
       go_ret
       refine ⟨ret_bool ?_, bel_drewR hbt⟩
       rw [← HQ9.out]
       simp
      ·go_wp2
       refine wp_region_held_drew (S := (fun v => v.cell? ⟨w.heap.size, 2, none⟩ = some (.slice (some ⟨lb9, lo9, none⟩) n2 q2) ∧ v.cell? ⟨w.heap.size + 1, 5, none⟩ = some (.int .i64 (k : Int)) ∧ v.cell? ⟨lb9, lo9 + k * 5, none⟩ = some (.int .i64 sk) ∧ v.cell? ⟨lb9, lo9 + k * 5 + 1, none⟩ = some (.int .i64 sp) ∧ v.cell? ⟨w5.heap.size, 0, none⟩ = some (.int .i64 sk) ∧ v.cell? ⟨w5.heap.size, 1, none⟩ = some (.int .i64 tp))) (by kernel_rfl) ?_ (fun hHeld => ?_)
       ·((try dsimp only); go_keep)
       refine tkT 0 ?_
       refine tkT 1 ?_
       refine tkT 2 ?_
       refine tkT 3 ?_
       refine tkT 4 ?_
       refine tkT 5 ?_
       refine tkT 6 ?_
       refine tkT 7 ?_
       refine tkT 8 ?_
       refine tkT 9 ?_
       refine tkT 10 ?_
       refine tkT 11 ?_
       refine tkT 12 ?_
       refine tkT 13 ?_
       refine tkT 14 ?_
       refine tkT 15 ?_
       refine tkT 16 ?_
       refine tkT 17 ?_
       refine tkT 18 ?_
       refine tkT 19 ?_
       refine tkT 20 ?_
       refine tkT 21 ?_
       refine tkT 22 ?_
       refine wpAnyH_done (by kernel_rfl) ?_ _
       go_wp2
       go_ret
       refine ⟨ret_bool ?_, bel_drewR hbt⟩
       rw [← HQ9.out]
       simp [hps]
     ·go_wp2
      refine wp_region_held_drew (S := (fun v => v.cell? ⟨w.heap.size, 2, none⟩ = some (.slice (some ⟨lb9, lo9, none⟩) n2 q2) ∧ v.cell? ⟨w.heap.size + 1, 5, none⟩ = some (.int .i64 (k : Int)) ∧ v.cell? ⟨lb9, lo9 + k * 5, none⟩ = some (.int .i64 sk) ∧ v.cell? ⟨lb9, lo9 + k * 5 + 1, none⟩ = some (.int .i64 sp) ∧ v.cell? ⟨w5.heap.size, 0, none⟩ = some (.int .i64 tk) ∧ v.cell? ⟨w5.heap.size, 1, none⟩ = some (.int .i64 tp))) (by kernel_rfl) ?_ (fun hHeld => ?_)
      ·((try dsimp only); go_keep)
      refine tkT 0 ?_
      refine tkT 1 ?_
      refine tkT 2 ?_
      refine tkT 3 ?_
      refine tkT 4 ?_
      refine tkT 5 ?_
      refine tkT 6 ?_
      refine tkT 7 ?_
      refine tkT 8 ?_
      refine tkT 9 ?_
      refine tkT 10 ?_
      refine tkT 11 ?_
      refine tkT 12 ?_
      refine tkT 13 ?_
      refine tkT 14 ?_
      refine tkT 15 ?_
      refine tkT 16 ?_
      refine tkT 17 ?_
      refine tkT 18 ?_
      refine tkT 19 ?_
      refine tkT 20 ?_
      refine tkT 21 ?_
      refine tkT 22 ?_
      refine wpAnyH_done (by kernel_rfl) ?_ _
      go_wp2
      go_ret
      refine ⟨ret_bool ?_, bel_drewR hbt⟩
      rw [← HQ9.out]
      simp [hks]
 ·rw [operR_no, show (D == 0) = false by simpa using hD, Bool.false_and] at hRES
  have hD1 : (D == 0) = false := by simpa using hD
  have hD2 : (D != 0) = true := by simpa using hD
  have HRF : Hid (false = RES) := hRES
  clear hRES
  go_enter Tryz.func66, Tryz.ntmps66
  go_wp2_with (first
   | (go_at_call 68; refine (HROW.out _).mono ?_; rintro e w1 ⟨rfl, rfl⟩)
   | (go_at_call 65; refine (HCAN.out _).mono ?_; rintro e w2 ⟨rfl, hb2⟩; have HT2 : Hid (TW w (.slice p0 n0 q0) (.slice p1 n1 q1) (.slice p2 n2 q2) v3 (w.heap.size + 1) op D A B E n bt (w2.alloc (.cells #[.int .i64 0, .int .i64 0] 50))) := (HT0.out.next hb2).next (bel_alloc _ _); obtain ⟨b1, c0, c1, c2, c3, i0, i1, i2, i3, i4, i5, i6⟩ := HT2.out; have HS2 : Hid (w.heap.size + 1 < w2.heap.size) := mcell_lt (HT0.out.next hb2).i0; clear hb2))
  go_ret
  exact ⟨ret_bool HRF.out, HT2.out.bel⟩
end Go.Proofs.YtgcmnkanjcfndaaGreatDoor
