import Derived.Test.YtgcmnkanjcfndaaGreatDoorTxt1
import Derived.Test.YtgcmnkanjcfndaaGreatDoorTxt23
import Derived.Test.YtgcmnkanjcfndaaGreatDoorTxt24
import Derived.Test.YtgcmnkanjcfndaaGreatDoorTxt25
import Derived.Test.YtgcmnkanjcfndaaGreatDoorTxt14
namespace Go.Proofs.YtgcmnkanjcfndaaGreatDoor
open Go.RowKit
set_option linter.unusedVariables false
set_option linter.unusedSimpArgs false
set_option maxRecDepth 100000 in
set_option maxHeartbeats 8000000 in
theorem rfits_C (v0 v1 v2 v3 : Value) (c : Cd) (co : CdOk c) (hT : typesMay c = true) (op D A B E n bt La Lb Lc Ld Le : Int) (a b cc d e : UInt8)
  (HROW : Hid (∀ w, Calls Tryz.prog 68 #[.int .i64 op] w fun x w' => x = .returned (.tuple #[.string ⟨#[a, b, cc, d, e]⟩, .bool true]) ∧ w' = w))
  (HCAN : Hid (∀ w, Calls Tryz.prog 65 #[.int .u32 bt] w fun e w' => e = .returned (.bool true) ∧ Below w.heap.size w w'))
  (ix0 : ∀ w, (Instr.index 9 (.string ⟨#[a, b, cc, d, e]⟩) (.int .i64 0)).run Tryz.prog w = .ok (.int .u8 La) w)
  (ix1 : ∀ w, (Instr.index 9 (.string ⟨#[a, b, cc, d, e]⟩) (.int .i64 1)).run Tryz.prog w = .ok (.int .u8 Lb) w)
  (ix2 : ∀ w, (Instr.index 9 (.string ⟨#[a, b, cc, d, e]⟩) (.int .i64 2)).run Tryz.prog w = .ok (.int .u8 Lc) w)
  (ix3 : ∀ w, (Instr.index 9 (.string ⟨#[a, b, cc, d, e]⟩) (.int .i64 3)).run Tryz.prog w = .ok (.int .u8 Ld) w)
  (ix4 : ∀ w, (Instr.index 9 (.string ⟨#[a, b, cc, d, e]⟩) (.int .i64 4)).run Tryz.prog w = .ok (.int .u8 Le) w)
  (oa : letOK La) (ob : letOK Lb) (oc : letOK Lc) (od : letOK Ld) (oT : Le = 112 → La = 118 ∨ (La = 45 ∧ Lb = 118)) (o1 : (op == 1) = true) (o2 : (op != 1) = false) (hz0 : La ≠ 45) (oe : Le = 45)
  (w : World) (hv : CdV w v0 v1 v2 v3 c) :
  Calls Tryz.prog 66 #[.agg #[v0, v1, v2, v3], .agg #[.int .i64 op, .int .i64 D, .int .i64 A, .int .i64 B, .int .i64 E, .int .i64 n, .int .u32 bt]] w fun e w' => e = .returned (.bool (operR c.regs La D ⟨0, 0⟩ && (operR c.regs Lb A (dR c.regs La D) && (operR c.regs Lc B (dR c.regs La D) && (operR c.regs Ld E (dR c.regs La D) && tailR c Le n (tR c.regs La Lb D A)))))) ∧ Below w.heap.size w w' := by
 have KO : ∀ (l n : Int) (d : Ty), letOK l → ∀ v, Below w.heap.size w v → Calls Tryz.prog 95 #[.agg #[v0, v1, v2, v3], .int .u8 l, .int .i64 n, .agg #[.int .i64 d.kind, .int .i64 d.par]] v fun e w' => e = .returned (.bool (operR c.regs l n d)) ∧ Below v.heap.size v w' := fun l n d hl v hb => roperand_any v0 v1 v2 v3 c co l n d hl v (hv.below hb)
 have HT0 : Hid (TW w v0 v1 v2 v3 (w.heap.size + 1) op D A B E n bt ((w.alloc (.cells #[v0, v1, v2, v3] 27)).alloc (.cells #[.int .i64 op, .int .i64 D, .int .i64 A, .int .i64 B, .int .i64 E, .int .i64 n, .int .u32 bt] 46))) := TW.start w v0 v1 v2 v3 op D A B E n bt
 obtain ⟨p0, q0, rfl, -⟩ := id hv.sign
 obtain ⟨p1, q1, rfl, hr1⟩ := id hv.regs
 obtain ⟨p2, q2, rfl, -⟩ := id hv.slots
 have hREG : ∀ x : Int, isPl x c.regs.length = true → ∃ (k lb lo : Nat), x = (k : Int) ∧ k < c.regs.length ∧ p1 = some ⟨lb, lo, none⟩ ∧ w.cell? ⟨lb, lo + k * 2, none⟩ = some (.int .i64 (regT c.regs x).kind) ∧ w.cell? ⟨lb, lo + k * 2 + 1, none⟩ = some (.int .i64 (regT c.regs x).par) := by
  intro x hx
  obtain ⟨k, rfl, hkl⟩ := pl_nat hx
  obtain ⟨lb, lo, hp, hc⟩ := RowG.at (p := p1) (n := c.regs.length) (c := q1) hv.regs hkl
  rw [regT_at rfl hkl]
  exact ⟨k, lb, lo, rfl, hkl, hp, hc.at 0 rfl, hc.at 1 rfl⟩
 have HREG : Hid (∀ x : Int, isPl x c.regs.length = true → ∃ (k lb lo : Nat), x = (k : Int) ∧ k < c.regs.length ∧ p1 = some ⟨lb, lo, none⟩ ∧ w.cell? ⟨lb, lo + k * 2, none⟩ = some (.int .i64 (regT c.regs x).kind) ∧ w.cell? ⟨lb, lo + k * 2 + 1, none⟩ = some (.int .i64 (regT c.regs x).par)) := hREG
 have HCV : Hid (CdV w (.slice p0 c.sign.length q0) (.slice p1 c.regs.length q1) (.slice p2 c.slots.length q2) v3 c) := hv
 have HCO : Hid (CdOk c) := co
 have hB0 := co.signL
 have hB1 := co.regsL
 have hB2 := co.slotsL
 have hTy : ∀ x : Int, isPl x c.regs.length = true → letR 118 (regT c.regs x) ⟨0, 0⟩ = true → isPl (regT c.regs x).par c.sign.length = true := fun x hx hk => by
  have h1 := may_num hT hx
  have h2 : (regT c.regs x).kind = 3 := by simpa [letR] using hk
  unfold typeMay at h1
  rw [if_neg (by omega), if_pos h2] at h1
  exact h1
 obtain ⟨n0, hn0⟩ : ∃ n0, c.sign.length = n0 := ⟨_, rfl⟩
 obtain ⟨n1, hn1⟩ : ∃ n1, c.regs.length = n1 := ⟨_, rfl⟩
 obtain ⟨n2, hn2⟩ : ∃ n2, c.slots.length = n2 := ⟨_, rfl⟩
 have HN0 : Hid (c.sign.length = n0) := hn0
 have HN1 : Hid (c.regs.length = n1) := hn1
 have HN2 : Hid (c.slots.length = n2) := hn2
 rw [hn0] at hB0
 rw [hn1] at hB1
 rw [hn2] at hB2
 rw [hn0, hn1, hn2] at HCV KO HT0 ⊢
 clear hREG hv hr1 hn0 hn1 hn2 co
 have HTY : Hid (∀ x : Int, isPl x c.regs.length = true → letR 118 (regT c.regs x) ⟨0, 0⟩ = true → isPl (regT c.regs x).par c.sign.length = true) := hTy
 clear hTy hT
 have hKO0 := fun d => KO La D d oa
 have hKOA := fun d => KO Lb A d ob
 have hKOB := fun d => KO Lc B d oc
 have hKOC := fun d => KO Ld E d od
 clear KO
 have hPP0 : Le = 112 → La = 118 ∨ (La = 45 ∧ Lb = 118) := oT
 clear oT oc od
 obtain ⟨RES, hRES⟩ : ∃ R, (operR c.regs La D ⟨0, 0⟩ && (operR c.regs Lb A (dR c.regs La D) && (operR c.regs Lc B (dR c.regs La D) && (operR c.regs Ld E (dR c.regs La D) && tailR c Le n (tR c.regs La Lb D A))))) = R := ⟨_, rfl⟩
 rw [hRES]
 have hz1 : (La == 45) = false := by simpa using hz0
 have hz2 : (La != 45) = true := by simpa using hz0
 have hPL : operR c.regs La D ⟨0, 0⟩ = true → isPl D c.regs.length = true := fun h => by
  rw [operR_yes hz0] at h
  simp only [Bool.and_eq_true] at h
  exact h.1
 have hPV : operR c.regs La D ⟨0, 0⟩ = true → La = 118 → letR 118 (regT c.regs D) ⟨0, 0⟩ = true := fun h hl => by
  subst hl
  rw [operR_yes (by decide)] at h
  simp only [Bool.and_eq_true] at h
  exact h.2
 have hdR : dR c.regs La D = regT c.regs D := if_neg hz0
 have htR : tR c.regs La Lb D A = regT c.regs D := by unfold tR; rw [if_neg (fun e => hz0 e.1), hdR]
 rw [htR, hdR] at hRES
 have HPP0 : Hid (operR c.regs La D ⟨0, 0⟩ = true → Le = 112 → isPl (regT c.regs D).par c.sign.length = true) := fun h e => by
  rcases hPP0 e with h1 | ⟨h1, -⟩
  ·exact HTY.out _ (hPL h) (hPV h h1)
  ·exact absurd h1 hz0
 obtain ⟨X0, hX0⟩ : ∃ X, operR c.regs La D ⟨0, 0⟩ = X := ⟨_, rfl⟩
 have HK0 : Hid _ := hKO0 ⟨0, 0⟩
 rw [hX0] at hRES hPL HPP0 HK0
 simp only at HK0
 clear hX0 hPV hdR htR hKO0 hPP0 HTY
 cases X0
 ·have HRF : Hid (false = RES) := hRES
  clear hRES hKOA hKOB hKOC hPL HPP0
  go_enter Tryz.func66, Tryz.ntmps66
  go_wp2_with (first
   | (go_at_call 68; refine (HROW.out _).mono ?_; rintro e w1 ⟨rfl, rfl⟩)
   | (go_at_call 65; refine (HCAN.out _).mono ?_; rintro e w2 ⟨rfl, hb2⟩; have HT2 : Hid (TW w (.slice p0 n0 q0) (.slice p1 n1 q1) (.slice p2 n2 q2) v3 (w.heap.size + 1) op D A B E n bt (w2.alloc (.cells #[.int .i64 0, .int .i64 0] 50))) := (HT0.out.next hb2).next (bel_alloc _ _); obtain ⟨b1, c0, c1, c2, c3, i0, i1, i2, i3, i4, i5, i6⟩ := HT2.out; have HS2 : Hid (w.heap.size + 1 < w2.heap.size) := mcell_lt (HT0.out.next hb2).i0; clear hb2))
  have HTD : Hid _ := HT2.out
  have HD : Hid ((w2.alloc (.cells #[.int .i64 0, .int .i64 0] 50)).cell? ⟨w2.heap.size, 0, none⟩ = some (.int .i64 0) ∧ (w2.alloc (.cells #[.int .i64 0, .int .i64 0] 50)).cell? ⟨w2.heap.size, 1, none⟩ = some (.int .i64 0)) := ⟨by simp [go_sem], by simp [go_sem]⟩
  obtain ⟨Z, hZ⟩ : ∃ Z, w2.heap.size = Z := ⟨_, rfl⟩
  obtain ⟨Wd, hWd⟩ : ∃ W, w2.alloc (.cells #[.int .i64 0, .int .i64 0] 50) = W := ⟨_, rfl⟩
  rw [hZ] at HD
  rw [hWd] at HD HTD ⊢
  try rw [hZ]
  clear hZ hWd HT2 b1 c0 c1 c2 c3 i0 i1 i2 i3 i4 i5 i6 HT0 HROW HCAN
  have HCD : Hid (∀ v, Below Wd.heap.size Wd v → v.cell? ⟨w.heap.size, 0, none⟩ = some (.slice p0 n0 q0) ∧ v.cell? ⟨w.heap.size, 1, none⟩ = some (.slice p1 n1 q1) ∧ v.cell? ⟨w.heap.size, 2, none⟩ = some (.slice p2 n2 q2) ∧ v.cell? ⟨w.heap.size, 3, none⟩ = some v3 ∧ v.cell? ⟨w.heap.size + 1, 1, none⟩ = some (.int .i64 D) ∧ v.cell? ⟨w.heap.size + 1, 2, none⟩ = some (.int .i64 A) ∧ v.cell? ⟨w.heap.size + 1, 3, none⟩ = some (.int .i64 B) ∧ v.cell? ⟨w.heap.size + 1, 4, none⟩ = some (.int .i64 E) ∧ v.cell? ⟨w.heap.size + 1, 5, none⟩ = some (.int .i64 n) ∧ v.cell? ⟨Z, 0, none⟩ = some (.int .i64 0) ∧ v.cell? ⟨Z, 1, none⟩ = some (.int .i64 0)) := fun v hb => ⟨kc hb HTD.out.c0, kc hb HTD.out.c1, kc hb HTD.out.c2, kc hb HTD.out.c3, kc hb HTD.out.i1, kc hb HTD.out.i2, kc hb HTD.out.i3, kc hb HTD.out.i4, kc hb HTD.out.i5, kc hb HD.out.1, kc hb HD.out.2⟩
  obtain ⟨c0, c1, c2, c3, i1, i2, i3, i4, i5, d0, d1⟩ := HCD.out Wd (bel0 _)
  refine wp_region_held_drew (S := (fun v => v.cell? ⟨w.heap.size, 0, none⟩ = some (.slice p0 n0 q0) ∧ v.cell? ⟨w.heap.size, 1, none⟩ = some (.slice p1 n1 q1) ∧ v.cell? ⟨w.heap.size, 2, none⟩ = some (.slice p2 n2 q2) ∧ v.cell? ⟨w.heap.size, 3, none⟩ = some v3 ∧ v.cell? ⟨w.heap.size + 1, 1, none⟩ = some (.int .i64 D) ∧ v.cell? ⟨w.heap.size + 1, 2, none⟩ = some (.int .i64 A) ∧ v.cell? ⟨w.heap.size + 1, 3, none⟩ = some (.int .i64 B) ∧ v.cell? ⟨w.heap.size + 1, 4, none⟩ = some (.int .i64 E) ∧ v.cell? ⟨w.heap.size + 1, 5, none⟩ = some (.int .i64 n) ∧ v.cell? ⟨Z, 0, none⟩ = some (.int .i64 0) ∧ v.cell? ⟨Z, 1, none⟩ = some (.int .i64 0))) (by kernel_rfl) ?_ (fun hHeld => ?_)
  ·((try dsimp only); go_keep)
  refine tkT 0 ?_
  refine tkT 1 ?_
  refine tkT 2 ?_
  refine tkT 3 ?_
  refine tkT 4 ?_
  refine tkT 5 ?_
  clear hHeld
  refine wpAnyH_ready (rs := [6]) (by kernel_rfl) (by simp) ?_
  refine AllReadyH.cons (i := 6) (by simp only [List.getElem?_toArray, List.getElem?_cons_succ, List.getElem?_cons_zero]; rfl) (fun K hK => ?_) AllReadyH.nil
  go_simp
  (go_at_call 95; (with_reducible refine (HK0.out _ (bel HTD.out.bel (bel_d _))).mono ?_); rintro e w3 ⟨rfl, hb9⟩; have HB3 : Hid (Below Wd.heap.size Wd w3) := bel (bel_d _) hb9; clear hb9; obtain ⟨c0, c1, c2, c3, i1, i2, i3, i4, i5, d0, d1⟩ := HCD.out w3 HB3.out)
  try (go_wp2_with fail)
  refine hK.out _ _ ?_ (fun hHeld => ?_)
  ·((try dsimp only); go_keep)
  clear hK K
  try simp only [Act.put, List.setIfInBounds_toArray, List.set_cons_zero, List.set_cons_succ]
  refine tkT 7 ?_
  refine wpAnyH_done (by kernel_rfl) ?_ _
  go_wp2
  go_ret
  exact ⟨ret_bool HRF.out, bel HTD.out.bel HB3.out⟩
 obtain ⟨kd, lb, lo, rfl, hkd, rfl, ya0, ya1⟩ := HREG.out D (hPL rfl)
 obtain ⟨⟨dk, dp⟩, htt⟩ : ∃ t : Ty, regT c.regs (kd : Int) = t := ⟨_, rfl⟩
 rw [htt] at HPP0 ya0 ya1 hRES
 obtain ⟨XA, hXA⟩ : ∃ X, operR c.regs Lb A ⟨dk, dp⟩ = X := ⟨_, rfl⟩
 obtain ⟨XB, hXB⟩ : ∃ X, operR c.regs Lc B ⟨dk, dp⟩ = X := ⟨_, rfl⟩
 obtain ⟨XC, hXC⟩ : ∃ X, operR c.regs Ld E ⟨dk, dp⟩ = X := ⟨_, rfl⟩
 rw [hXA, hXB, hXC] at hRES
 have HKA : Hid _ := hKOA ⟨dk, dp⟩
 have HKB : Hid _ := hKOB ⟨dk, dp⟩
 have HKC : Hid _ := hKOC ⟨dk, dp⟩
 rw [hXA] at HKA
 rw [hXB] at HKB
 rw [hXC] at HKC
 simp only at HKA HKB HKC
 have HRES : Hid ((XA && (XB && (XC && tailR c Le n ⟨dk, dp⟩))) = RES) := hRES
 have HPP : Hid (Le = 112 → isPl dp c.sign.length = true) := HPP0.out rfl
 have ka0 : (0 : Int) ≤ (kd : Int) := by omega
 have ka1 : (kd : Int) < (n1 : Int) := by have := HN1.out; omega
 clear hKOA hKOB hKOC hXA hXB hXC hRES HPP0 hPL htt
 go_enter Tryz.func66, Tryz.ntmps66
 go_wp2_with (first
  | (go_at_call 68; refine (HROW.out _).mono ?_; rintro e w1 ⟨rfl, rfl⟩)
  | (go_at_call 65; refine (HCAN.out _).mono ?_; rintro e w2 ⟨rfl, hb2⟩; have HT2 : Hid (TW w (.slice p0 n0 q0) (.slice (some ⟨lb, lo, none⟩) n1 q1) (.slice p2 n2 q2) v3 (w.heap.size + 1) op (kd : Int) A B E n bt (w2.alloc (.cells #[.int .i64 0, .int .i64 0] 50))) := (HT0.out.next hb2).next (bel_alloc _ _); obtain ⟨b1, c0, c1, c2, c3, i0, i1, i2, i3, i4, i5, i6⟩ := HT2.out; have HS2 : Hid (w.heap.size + 1 < w2.heap.size) := mcell_lt (HT0.out.next hb2).i0; clear hb2))
 have HTD0 : Hid _ := HT2.out
 have HD0 : Hid ((w2.alloc (.cells #[.int .i64 0, .int .i64 0] 50)).cell? ⟨w2.heap.size, 0, none⟩ = some (.int .i64 0) ∧ (w2.alloc (.cells #[.int .i64 0, .int .i64 0] 50)).cell? ⟨w2.heap.size, 1, none⟩ = some (.int .i64 0) ∧ (w2.alloc (.cells #[.int .i64 0, .int .i64 0] 50)).frozen? ⟨w2.heap.size, 0, none⟩ = false ∧ (w2.alloc (.cells #[.int .i64 0, .int .i64 0] 50)).frozen? ⟨w2.heap.size, 1, none⟩ = false) := ⟨by simp [go_sem], by simp [go_sem], by simp [go_sem], by simp [go_sem]⟩
 have HBZ9 : Hid (lb < w.heap.size) := mcell_lt ya0
 have HZ : Hid (w2.heap.size ≠ w.heap.size + 1 ∧ w.heap.size < w2.heap.size ∧ lb ≠ w2.heap.size) := by
  refine ⟨?_, ?_, ?_⟩
  all_goals (have h3 := HS2.out; have h4 := HBZ9.out; omega)
 obtain ⟨Z, hZ⟩ : ∃ Z, w2.heap.size = Z := ⟨_, rfl⟩
 obtain ⟨Wa, hWa⟩ : ∃ W, w2.alloc (.cells #[.int .i64 0, .int .i64 0] 50) = W := ⟨_, rfl⟩
 rw [hZ] at HD0 HZ
 rw [hWa] at HD0 HTD0 ⊢
 try rw [hZ]
 clear hZ hWa HT2 b1 c0 c1 c2 c3 i0 i1 i2 i3 i4 i5 i6 HT0 HROW HCAN HS2
 have HCD0 : Hid (∀ v, Below Wa.heap.size Wa v → v.cell? ⟨w.heap.size, 0, none⟩ = some (.slice p0 n0 q0) ∧ v.cell? ⟨w.heap.size, 1, none⟩ = some (.slice (some ⟨lb, lo, none⟩) n1 q1) ∧ v.cell? ⟨w.heap.size, 2, none⟩ = some (.slice p2 n2 q2) ∧ v.cell? ⟨w.heap.size, 3, none⟩ = some v3 ∧ v.cell? ⟨w.heap.size + 1, 1, none⟩ = some (.int .i64 (kd : Int)) ∧ v.cell? ⟨w.heap.size + 1, 2, none⟩ = some (.int .i64 A) ∧ v.cell? ⟨w.heap.size + 1, 3, none⟩ = some (.int .i64 B) ∧ v.cell? ⟨w.heap.size + 1, 4, none⟩ = some (.int .i64 E) ∧ v.cell? ⟨w.heap.size + 1, 5, none⟩ = some (.int .i64 n) ∧ v.cell? ⟨Z, 0, none⟩ = some (.int .i64 0) ∧ v.cell? ⟨Z, 1, none⟩ = some (.int .i64 0)) := fun v hb => ⟨kc hb HTD0.out.c0, kc hb HTD0.out.c1, kc hb HTD0.out.c2, kc hb HTD0.out.c3, kc hb HTD0.out.i1, kc hb HTD0.out.i2, kc hb HTD0.out.i3, kc hb HTD0.out.i4, kc hb HTD0.out.i5, kc hb HD0.out.1, kc hb HD0.out.2.1⟩
 obtain ⟨c0, c1, c2, c3, i1, i2, i3, i4, i5, d0, d1⟩ := HCD0.out Wa (bel0 _)
 have HYA : Hid (∀ v, Below Wa.heap.size Wa v → v.cell? ⟨lb, lo + kd * 2, none⟩ = some (.int .i64 dk) ∧ v.cell? ⟨lb, lo + kd * 2 + 1, none⟩ = some (.int .i64 dp) ∧ v.frozen? ⟨Z, 0, none⟩ = false ∧ v.frozen? ⟨Z, 1, none⟩ = false) := fun v hb => ⟨kc (bel HTD0.out.bel hb) ya0, kc (bel HTD0.out.bel hb) ya1, kf hb HD0.out.1 HD0.out.2.2.1, kf hb HD0.out.2.1 HD0.out.2.2.2⟩
 refine wp_region_held_drew (S := (fun v => v.cell? ⟨w.heap.size, 0, none⟩ = some (.slice p0 n0 q0) ∧ v.cell? ⟨w.heap.size, 1, none⟩ = some (.slice (some ⟨lb, lo, none⟩) n1 q1) ∧ v.cell? ⟨w.heap.size, 2, none⟩ = some (.slice p2 n2 q2) ∧ v.cell? ⟨w.heap.size, 3, none⟩ = some v3 ∧ v.cell? ⟨w.heap.size + 1, 1, none⟩ = some (.int .i64 (kd : Int)) ∧ v.cell? ⟨w.heap.size + 1, 2, none⟩ = some (.int .i64 A) ∧ v.cell? ⟨w.heap.size + 1, 3, none⟩ = some (.int .i64 B) ∧ v.cell? ⟨w.heap.size + 1, 4, none⟩ = some (.int .i64 E) ∧ v.cell? ⟨w.heap.size + 1, 5, none⟩ = some (.int .i64 n) ∧ v.cell? ⟨Z, 0, none⟩ = some (.int .i64 0) ∧ v.cell? ⟨Z, 1, none⟩ = some (.int .i64 0))) (by kernel_rfl) ?_ (fun hHeld => ?_)
 ·((try dsimp only); go_keep)
 refine tkT 0 ?_
 refine tkT 1 ?_
 refine tkT 2 ?_
 refine tkT 3 ?_
 refine tkT 4 ?_
 refine tkT 5 ?_
 clear hHeld
 refine wpAnyH_ready (rs := [6]) (by kernel_rfl) (by simp) ?_
 refine AllReadyH.cons (i := 6) (by simp only [List.getElem?_toArray, List.getElem?_cons_succ, List.getElem?_cons_zero]; rfl) (fun K hK => ?_) AllReadyH.nil
 go_simp
 (go_at_call 95; (with_reducible refine (HK0.out _ (bel HTD0.out.bel (bel_d _))).mono ?_); rintro e w9 ⟨rfl, hb9⟩; have HB9 : Hid (Below Wa.heap.size Wa w9) := bel (bel_d _) hb9; clear hb9; obtain ⟨ya2, ya3, fz0, fz1⟩ := HYA.out w9 HB9.out; obtain ⟨c0, c1, c2, c3, i1, i2, i3, i4, i5, d0, d1⟩ := HCD0.out w9 HB9.out)
 try (go_wp2_with fail)
 refine hK.out _ _ ?_ (fun hHeld => ?_)
 ·((try dsimp only); go_keep)
 clear hK K
 try simp only [Act.put, List.setIfInBounds_toArray, List.set_cons_zero, List.set_cons_succ]
 refine tkT 7 ?_
 refine wpAnyH_done (by kernel_rfl) ?_ _
 obtain ⟨hz5, hz6, hz7⟩ := HZ.out
 go_wp2
 have HD : Hid (((w9.setCell ⟨Z, 0, none⟩ (.int .i64 dk)).setCell ⟨Z, 1, none⟩ (.int .i64 dp)).cell? ⟨Z, 0, none⟩ = some (.int .i64 dk) ∧ ((w9.setCell ⟨Z, 0, none⟩ (.int .i64 dk)).setCell ⟨Z, 1, none⟩ (.int .i64 dp)).cell? ⟨Z, 1, none⟩ = some (.int .i64 dp)) := ⟨by simp [go_sem, d0, d1], by simp [go_sem, d0, d1]⟩
 have HTD : Hid _ := ((HTD0.out.next HB9.out).keep (g := Z) (o := 0) (.int .i64 dk) hz6 hz5).keep (g := Z) (o := 1) (.int .i64 dp) hz6 hz5
 obtain ⟨Wd, hWd⟩ : ∃ W, (w9.setCell ⟨Z, 0, none⟩ (.int .i64 dk)).setCell ⟨Z, 1, none⟩ (.int .i64 dp) = W := ⟨_, rfl⟩
 rw [hWd] at HD HTD ⊢
 clear hWd c0 c1 c2 c3 i1 i2 i3 i4 i5 d0 d1 ya2 ya3 fz0 fz1 HCD0 HYA HD0 HTD0 HB9 HK0 hz5 hz6 hz7 HZ
 have HCD : Hid (∀ v, Below Wd.heap.size Wd v → v.cell? ⟨w.heap.size, 0, none⟩ = some (.slice p0 n0 q0) ∧ v.cell? ⟨w.heap.size, 1, none⟩ = some (.slice (some ⟨lb, lo, none⟩) n1 q1) ∧ v.cell? ⟨w.heap.size, 2, none⟩ = some (.slice p2 n2 q2) ∧ v.cell? ⟨w.heap.size, 3, none⟩ = some v3 ∧ v.cell? ⟨w.heap.size + 1, 1, none⟩ = some (.int .i64 (kd : Int)) ∧ v.cell? ⟨w.heap.size + 1, 2, none⟩ = some (.int .i64 A) ∧ v.cell? ⟨w.heap.size + 1, 3, none⟩ = some (.int .i64 B) ∧ v.cell? ⟨w.heap.size + 1, 4, none⟩ = some (.int .i64 E) ∧ v.cell? ⟨w.heap.size + 1, 5, none⟩ = some (.int .i64 n) ∧ v.cell? ⟨Z, 0, none⟩ = some (.int .i64 dk) ∧ v.cell? ⟨Z, 1, none⟩ = some (.int .i64 dp)) := fun v hb => ⟨kc hb HTD.out.c0, kc hb HTD.out.c1, kc hb HTD.out.c2, kc hb HTD.out.c3, kc hb HTD.out.i1, kc hb HTD.out.i2, kc hb HTD.out.i3, kc hb HTD.out.i4, kc hb HTD.out.i5, kc hb HD.out.1, kc hb HD.out.2⟩
 obtain ⟨c0, c1, c2, c3, i1, i2, i3, i4, i5, d0, d1⟩ := HCD.out Wd (bel0 _)
 cases XA
 ·have HQF : Hid (false = RES) := HRES.out
  go_wp2
  refine wp_region_held_drew (S := (fun v => v.cell? ⟨w.heap.size, 0, none⟩ = some (.slice p0 n0 q0) ∧ v.cell? ⟨w.heap.size, 1, none⟩ = some (.slice (some ⟨lb, lo, none⟩) n1 q1) ∧ v.cell? ⟨w.heap.size, 2, none⟩ = some (.slice p2 n2 q2) ∧ v.cell? ⟨w.heap.size, 3, none⟩ = some v3 ∧ v.cell? ⟨w.heap.size + 1, 1, none⟩ = some (.int .i64 (kd : Int)) ∧ v.cell? ⟨w.heap.size + 1, 2, none⟩ = some (.int .i64 A) ∧ v.cell? ⟨w.heap.size + 1, 3, none⟩ = some (.int .i64 B) ∧ v.cell? ⟨w.heap.size + 1, 4, none⟩ = some (.int .i64 E) ∧ v.cell? ⟨w.heap.size + 1, 5, none⟩ = some (.int .i64 n) ∧ v.cell? ⟨Z, 0, none⟩ = some (.int .i64 dk) ∧ v.cell? ⟨Z, 1, none⟩ = some (.int .i64 dp))) (by kernel_rfl) ?_ (fun hHeld => ?_)
  ·((try dsimp only); go_keep)
  refine tkT 0 ?_
  refine tkT 1 ?_
  refine tkT 2 ?_
  refine tkT 3 ?_
  refine tkT 4 ?_
  refine tkT 5 ?_
  clear hHeld
  refine wpAnyH_ready (rs := [6]) (by kernel_rfl) (by simp) ?_
  refine AllReadyH.cons (i := 6) (by simp only [List.getElem?_toArray, List.getElem?_cons_succ, List.getElem?_cons_zero]; rfl) (fun K hK => ?_) AllReadyH.nil
  go_simp
  (go_at_call 95; (with_reducible refine (HKA.out _ (bel HTD.out.bel (bel_d _))).mono ?_); rintro e w3 ⟨rfl, hb9⟩; have HB3 : Hid (Below Wd.heap.size Wd w3) := bel (bel_d _) hb9; clear hb9; obtain ⟨c0, c1, c2, c3, i1, i2, i3, i4, i5, d0, d1⟩ := HCD.out w3 HB3.out)
  try (go_wp2_with fail)
  refine hK.out _ _ ?_ (fun hHeld => ?_)
  ·((try dsimp only); go_keep)
  clear hK K
  try simp only [Act.put, List.setIfInBounds_toArray, List.set_cons_zero, List.set_cons_succ]
  refine tkT 7 ?_
  refine tkT 8 ?_
  refine tkK 9 ?_
  refine tkK 10 ?_
  refine tkK 11 ?_
  refine tkK 12 ?_
  refine tkK 13 ?_
  refine tkK 14 ?_
  refine tkK 15 ?_
  refine tkK 16 ?_
  refine tkT 17 ?_
  refine tkT 18 ?_
  refine tkK 19 ?_
  refine tkK 20 ?_
  refine tkK 21 ?_
  refine tkK 22 ?_
  refine tkK 23 ?_
  refine tkK 24 ?_
  refine tkK 25 ?_
  refine tkK 26 ?_
  refine tkT 27 ?_
  refine wpAnyH_done (by kernel_rfl) ?_ _
  go_wp2
  go_ret
  exact ⟨ret_bool HQF.out, bel HTD.out.bel HB3.out⟩
 cases XB
 ·have HQF : Hid (false = RES) := HRES.out
  go_wp2
  refine wp_region_held_drew (S := (fun v => v.cell? ⟨w.heap.size, 0, none⟩ = some (.slice p0 n0 q0) ∧ v.cell? ⟨w.heap.size, 1, none⟩ = some (.slice (some ⟨lb, lo, none⟩) n1 q1) ∧ v.cell? ⟨w.heap.size, 2, none⟩ = some (.slice p2 n2 q2) ∧ v.cell? ⟨w.heap.size, 3, none⟩ = some v3 ∧ v.cell? ⟨w.heap.size + 1, 1, none⟩ = some (.int .i64 (kd : Int)) ∧ v.cell? ⟨w.heap.size + 1, 2, none⟩ = some (.int .i64 A) ∧ v.cell? ⟨w.heap.size + 1, 3, none⟩ = some (.int .i64 B) ∧ v.cell? ⟨w.heap.size + 1, 4, none⟩ = some (.int .i64 E) ∧ v.cell? ⟨w.heap.size + 1, 5, none⟩ = some (.int .i64 n) ∧ v.cell? ⟨Z, 0, none⟩ = some (.int .i64 dk) ∧ v.cell? ⟨Z, 1, none⟩ = some (.int .i64 dp))) (by kernel_rfl) ?_ (fun hHeld => ?_)
  ·((try dsimp only); go_keep)
  refine tkT 0 ?_
  refine tkT 1 ?_
  refine tkT 2 ?_
  refine tkT 3 ?_
  refine tkT 4 ?_
  refine tkT 5 ?_
  clear hHeld
  refine wpAnyH_ready (rs := [6]) (by kernel_rfl) (by simp) ?_
  refine AllReadyH.cons (i := 6) (by simp only [List.getElem?_toArray, List.getElem?_cons_succ, List.getElem?_cons_zero]; rfl) (fun K hK => ?_) AllReadyH.nil
  go_simp
  (go_at_call 95; (with_reducible refine (HKA.out _ (bel HTD.out.bel (bel_d _))).mono ?_); rintro e w3 ⟨rfl, hb9⟩; have HB3 : Hid (Below Wd.heap.size Wd w3) := bel (bel_d _) hb9; clear hb9; obtain ⟨c0, c1, c2, c3, i1, i2, i3, i4, i5, d0, d1⟩ := HCD.out w3 HB3.out)
  try (go_wp2_with fail)
  refine hK.out _ _ ?_ (fun hHeld => ?_)
  ·((try dsimp only); go_keep)
  clear hK K
  try simp only [Act.put, List.setIfInBounds_toArray, List.set_cons_zero, List.set_cons_succ]
  refine tkT 7 ?_
  refine tkT 8 ?_
  refine tkT 9 ?_
  refine tkT 10 ?_
  refine tkT 11 ?_
  refine tkT 12 ?_
  refine tkT 13 ?_
  refine tkT 14 ?_
  clear hHeld
  refine wpAnyH_ready (rs := [15]) (by kernel_rfl) (by simp) ?_
  refine AllReadyH.cons (i := 15) (by simp only [List.getElem?_toArray, List.getElem?_cons_succ, List.getElem?_cons_zero]; rfl) (fun K hK => ?_) AllReadyH.nil
  go_simp
  (go_at_call 95; (with_reducible refine (HKB.out _ (bel HTD.out.bel HB3.out)).mono ?_); rintro e w4 ⟨rfl, hb9⟩; have HB4 : Hid (Below Wd.heap.size Wd w4) := bel HB3.out hb9; clear hb9; clear c0 c1 c2 c3 i1 i2 i3 i4 i5 d0 d1; obtain ⟨c0, c1, c2, c3, i1, i2, i3, i4, i5, d0, d1⟩ := HCD.out w4 HB4.out)
  try (go_wp2_with fail)
  refine hK.out _ _ ?_ (fun hHeld => ?_)
  ·((try dsimp only); go_keep)
  clear hK K
  try simp only [Act.put, List.setIfInBounds_toArray, List.set_cons_zero, List.set_cons_succ]
  refine tkT 16 ?_
  refine tkT 17 ?_
  refine tkT 18 ?_
  refine tkK 19 ?_
  refine tkK 20 ?_
  refine tkK 21 ?_
  refine tkK 22 ?_
  refine tkK 23 ?_
  refine tkK 24 ?_
  refine tkK 25 ?_
  refine tkK 26 ?_
  refine tkT 27 ?_
  refine wpAnyH_done (by kernel_rfl) ?_ _
  go_wp2
  go_ret
  exact ⟨ret_bool HQF.out, bel HTD.out.bel HB4.out⟩
 cases XC
 ·have HQF : Hid (false = RES) := HRES.out
  go_wp2
  refine wp_region_held_drew (S := (fun v => v.cell? ⟨w.heap.size, 0, none⟩ = some (.slice p0 n0 q0) ∧ v.cell? ⟨w.heap.size, 1, none⟩ = some (.slice (some ⟨lb, lo, none⟩) n1 q1) ∧ v.cell? ⟨w.heap.size, 2, none⟩ = some (.slice p2 n2 q2) ∧ v.cell? ⟨w.heap.size, 3, none⟩ = some v3 ∧ v.cell? ⟨w.heap.size + 1, 1, none⟩ = some (.int .i64 (kd : Int)) ∧ v.cell? ⟨w.heap.size + 1, 2, none⟩ = some (.int .i64 A) ∧ v.cell? ⟨w.heap.size + 1, 3, none⟩ = some (.int .i64 B) ∧ v.cell? ⟨w.heap.size + 1, 4, none⟩ = some (.int .i64 E) ∧ v.cell? ⟨w.heap.size + 1, 5, none⟩ = some (.int .i64 n) ∧ v.cell? ⟨Z, 0, none⟩ = some (.int .i64 dk) ∧ v.cell? ⟨Z, 1, none⟩ = some (.int .i64 dp))) (by kernel_rfl) ?_ (fun hHeld => ?_)
  ·((try dsimp only); go_keep)
  refine tkT 0 ?_
  refine tkT 1 ?_
  refine tkT 2 ?_
  refine tkT 3 ?_
  refine tkT 4 ?_
  refine tkT 5 ?_
  clear hHeld
  refine wpAnyH_ready (rs := [6]) (by kernel_rfl) (by simp) ?_
  refine AllReadyH.cons (i := 6) (by simp only [List.getElem?_toArray, List.getElem?_cons_succ, List.getElem?_cons_zero]; rfl) (fun K hK => ?_) AllReadyH.nil
  go_simp
  (go_at_call 95; (with_reducible refine (HKA.out _ (bel HTD.out.bel (bel_d _))).mono ?_); rintro e w3 ⟨rfl, hb9⟩; have HB3 : Hid (Below Wd.heap.size Wd w3) := bel (bel_d _) hb9; clear hb9; obtain ⟨c0, c1, c2, c3, i1, i2, i3, i4, i5, d0, d1⟩ := HCD.out w3 HB3.out)
  try (go_wp2_with fail)
  refine hK.out _ _ ?_ (fun hHeld => ?_)
  ·((try dsimp only); go_keep)
  clear hK K
  try simp only [Act.put, List.setIfInBounds_toArray, List.set_cons_zero, List.set_cons_succ]
  refine tkT 7 ?_
  refine tkT 8 ?_
  refine tkT 9 ?_
  refine tkT 10 ?_
  refine tkT 11 ?_
  refine tkT 12 ?_
  refine tkT 13 ?_
  refine tkT 14 ?_
  clear hHeld
  refine wpAnyH_ready (rs := [15]) (by kernel_rfl) (by simp) ?_
  refine AllReadyH.cons (i := 15) (by simp only [List.getElem?_toArray, List.getElem?_cons_succ, List.getElem?_cons_zero]; rfl) (fun K hK => ?_) AllReadyH.nil
  go_simp
  (go_at_call 95; (with_reducible refine (HKB.out _ (bel HTD.out.bel HB3.out)).mono ?_); rintro e w4 ⟨rfl, hb9⟩; have HB4 : Hid (Below Wd.heap.size Wd w4) := bel HB3.out hb9; clear hb9; clear c0 c1 c2 c3 i1 i2 i3 i4 i5 d0 d1; obtain ⟨c0, c1, c2, c3, i1, i2, i3, i4, i5, d0, d1⟩ := HCD.out w4 HB4.out)
  try (go_wp2_with fail)
  refine hK.out _ _ ?_ (fun hHeld => ?_)
  ·((try dsimp only); go_keep)
  clear hK K
  try simp only [Act.put, List.setIfInBounds_toArray, List.set_cons_zero, List.set_cons_succ]
  refine tkT 16 ?_
  refine tkT 17 ?_
  refine tkT 18 ?_
  refine tkT 19 ?_
  refine tkT 20 ?_
  refine tkT 21 ?_
  refine tkT 22 ?_
  refine tkT 23 ?_
  refine tkT 24 ?_
  clear hHeld
  refine wpAnyH_ready (rs := [25]) (by kernel_rfl) (by simp) ?_
  refine AllReadyH.cons (i := 25) (by simp only [List.getElem?_toArray, List.getElem?_cons_succ, List.getElem?_cons_zero]; rfl) (fun K hK => ?_) AllReadyH.nil
  go_simp
  (go_at_call 95; (with_reducible refine (HKC.out _ (bel HTD.out.bel HB4.out)).mono ?_); rintro e w5 ⟨rfl, hb9⟩; have HB5 : Hid (Below Wd.heap.size Wd w5) := bel HB4.out hb9; clear hb9; clear c0 c1 c2 c3 i1 i2 i3 i4 i5 d0 d1; obtain ⟨c0, c1, c2, c3, i1, i2, i3, i4, i5, d0, d1⟩ := HCD.out w5 HB5.out)
  try (go_wp2_with fail)
  refine hK.out _ _ ?_ (fun hHeld => ?_)
  ·((try dsimp only); go_keep)
  clear hK K
  try simp only [Act.put, List.setIfInBounds_toArray, List.set_cons_zero, List.set_cons_succ]
  refine tkT 26 ?_
  refine tkT 27 ?_
  refine wpAnyH_done (by kernel_rfl) ?_ _
  go_wp2
  go_ret
  exact ⟨ret_bool HQF.out, bel HTD.out.bel HB5.out⟩
 go_wp2
 refine wp_region_held_drew (S := (fun v => v.cell? ⟨w.heap.size, 0, none⟩ = some (.slice p0 n0 q0) ∧ v.cell? ⟨w.heap.size, 1, none⟩ = some (.slice (some ⟨lb, lo, none⟩) n1 q1) ∧ v.cell? ⟨w.heap.size, 2, none⟩ = some (.slice p2 n2 q2) ∧ v.cell? ⟨w.heap.size, 3, none⟩ = some v3 ∧ v.cell? ⟨w.heap.size + 1, 1, none⟩ = some (.int .i64 (kd : Int)) ∧ v.cell? ⟨w.heap.size + 1, 2, none⟩ = some (.int .i64 A) ∧ v.cell? ⟨w.heap.size + 1, 3, none⟩ = some (.int .i64 B) ∧ v.cell? ⟨w.heap.size + 1, 4, none⟩ = some (.int .i64 E) ∧ v.cell? ⟨w.heap.size + 1, 5, none⟩ = some (.int .i64 n) ∧ v.cell? ⟨Z, 0, none⟩ = some (.int .i64 dk) ∧ v.cell? ⟨Z, 1, none⟩ = some (.int .i64 dp))) (by kernel_rfl) ?_ (fun hHeld => ?_)
 ·((try dsimp only); go_keep)
 refine tkT 0 ?_
 refine tkT 1 ?_
 refine tkT 2 ?_
 refine tkT 3 ?_
 refine tkT 4 ?_
 refine tkT 5 ?_
 clear hHeld
 refine wpAnyH_ready (rs := [6]) (by kernel_rfl) (by simp) ?_
 refine AllReadyH.cons (i := 6) (by simp only [List.getElem?_toArray, List.getElem?_cons_succ, List.getElem?_cons_zero]; rfl) (fun K hK => ?_) AllReadyH.nil
 go_simp
 (go_at_call 95; (with_reducible refine (HKA.out _ (bel HTD.out.bel (bel_d _))).mono ?_); rintro e w3 ⟨rfl, hb9⟩; have HB3 : Hid (Below Wd.heap.size Wd w3) := bel (bel_d _) hb9; clear hb9; obtain ⟨c0, c1, c2, c3, i1, i2, i3, i4, i5, d0, d1⟩ := HCD.out w3 HB3.out)
 try (go_wp2_with fail)
 refine hK.out _ _ ?_ (fun hHeld => ?_)
 ·((try dsimp only); go_keep)
 clear hK K
 try simp only [Act.put, List.setIfInBounds_toArray, List.set_cons_zero, List.set_cons_succ]
 refine tkT 7 ?_
 refine tkT 8 ?_
 refine tkT 9 ?_
 refine tkT 10 ?_
 refine tkT 11 ?_
 refine tkT 12 ?_
 refine tkT 13 ?_
 refine tkT 14 ?_
 clear hHeld
 refine wpAnyH_ready (rs := [15]) (by kernel_rfl) (by simp) ?_
 refine AllReadyH.cons (i := 15) (by simp only [List.getElem?_toArray, List.getElem?_cons_succ, List.getElem?_cons_zero]; rfl) (fun K hK => ?_) AllReadyH.nil
 go_simp
 (go_at_call 95; (with_reducible refine (HKB.out _ (bel HTD.out.bel HB3.out)).mono ?_); rintro e w4 ⟨rfl, hb9⟩; have HB4 : Hid (Below Wd.heap.size Wd w4) := bel HB3.out hb9; clear hb9; clear c0 c1 c2 c3 i1 i2 i3 i4 i5 d0 d1; obtain ⟨c0, c1, c2, c3, i1, i2, i3, i4, i5, d0, d1⟩ := HCD.out w4 HB4.out)
 try (go_wp2_with fail)
 refine hK.out _ _ ?_ (fun hHeld => ?_)
 ·((try dsimp only); go_keep)
 clear hK K
 try simp only [Act.put, List.setIfInBounds_toArray, List.set_cons_zero, List.set_cons_succ]
 refine tkT 16 ?_
 refine tkT 17 ?_
 refine tkT 18 ?_
 refine tkT 19 ?_
 refine tkT 20 ?_
 refine tkT 21 ?_
 refine tkT 22 ?_
 refine tkT 23 ?_
 refine tkT 24 ?_
 clear hHeld
 refine wpAnyH_ready (rs := [25]) (by kernel_rfl) (by simp) ?_
 refine AllReadyH.cons (i := 25) (by simp only [List.getElem?_toArray, List.getElem?_cons_succ, List.getElem?_cons_zero]; rfl) (fun K hK => ?_) AllReadyH.nil
 go_simp
 (go_at_call 95; (with_reducible refine (HKC.out _ (bel HTD.out.bel HB4.out)).mono ?_); rintro e w5 ⟨rfl, hb9⟩; have HB5 : Hid (Below Wd.heap.size Wd w5) := bel HB4.out hb9; clear hb9; clear c0 c1 c2 c3 i1 i2 i3 i4 i5 d0 d1; obtain ⟨c0, c1, c2, c3, i1, i2, i3, i4, i5, d0, d1⟩ := HCD.out w5 HB5.out)
 try (go_wp2_with fail)
 refine hK.out _ _ ?_ (fun hHeld => ?_)
 ·((try dsimp only); go_keep)
 clear hK K
 try simp only [Act.put, List.setIfInBounds_toArray, List.set_cons_zero, List.set_cons_succ]
 refine tkT 26 ?_
 refine tkT 27 ?_
 refine wpAnyH_done (by kernel_rfl) ?_ _
 clear c0 c1 c2 c3 i1 i2 i3 i4 i5 d0 d1
 have HT5 : Hid (TW w (.slice p0 n0 q0) (.slice (some ⟨lb, lo, none⟩) n1 q1) (.slice p2 n2 q2) v3 (w.heap.size + 1) op (kd : Int) A B E n bt w5) := HTD.out.next HB5.out
 obtain ⟨hb5, c0, c1, c2, c3, i0, i1, i2, i3, i4, i5, i6⟩ := HT5.out
 obtain ⟨-, -, -, -, -, -, -, -, -, d0, d1⟩ := HCD.out w5 HB5.out
 have hs5 : w5.heap.size ≠ w.heap.size + 1 ∧ w.heap.size < w5.heap.size := ⟨fun e => by have := mcell_lt i0; simp only at this; omega, by have := mcell_lt c0; simp only at this; omega⟩
 have HAL : Hid (TW w (.slice p0 n0 q0) (.slice (some ⟨lb, lo, none⟩) n1 q1) (.slice p2 n2 q2) v3 (w.heap.size + 1) op (kd : Int) A B E n bt (w5.alloc (.cells #[.int .i64 dk, .int .i64 dp] 50))) := HT5.out.next (bel_alloc _ _)
 have HRT : Hid (tailR c Le n ⟨dk, dp⟩ = RES) := HRES.out
 clear c0 c1 c2 c3 i0 i1 i2 i3 i4 i5 i6
 have t0 : (w5.alloc (.cells #[.int .i64 dk, .int .i64 dp] 50)).cell? ⟨w5.heap.size, 0, none⟩ = some (.int .i64 dk) := by simp [go_sem]
 have t1 : (w5.alloc (.cells #[.int .i64 dk, .int .i64 dp] 50)).cell? ⟨w5.heap.size, 1, none⟩ = some (.int .i64 dp) := by simp [go_sem]
 obtain ⟨hbx, c0, c1, c2, c3, i0, i1, i2, i3, i4, i5, i6⟩ := HAL.out
 clear d0 d1 HRES
 have hbt := hbx
 subst oe
 have HQ : Hid ((n == 0) = RES) := HRT.out
 go_wp2
 go_ret
 exact ⟨ret_bool HQ.out, hbt⟩
end Go.Proofs.YtgcmnkanjcfndaaGreatDoor
namespace Go.Proofs.YtgcmnkanjcfndaaGreatDoor
open Go.RowKit
set_option linter.unusedVariables false
set_option linter.unusedSimpArgs false
def okM (L : Lt) : Bool := decide (L.a = 45 → L.b = 45 → L.e = 45 ∨ L.e = 113) && (decide (L.a = 45 → L.b ≠ 45 → L.e = 45 ∨ L.e = 112 ∨ L.e = 115) && decide (L.a ≠ 45 → L.e = 45 ∨ L.e = 105 ∨ L.e = 112 ∨ L.e = 115))
theorem okM_ite {p : Prop} [Decidable p] {x y : Lt} (h : okM x = true) (k : okM y = true) : okM (if p then x else y) = true := by
 split
 ·exact h
 ·exact k
theorem ltR_okM (op : Int) : okM (ltR op) = true := by
 unfold ltR
 iterate 19 refine okM_ite (by decide) ?_
 decide
theorem rfits_yes (v0 v1 v2 v3 : Value) (c : Cd) (co : CdOk c) (hT : typesMay c = true) (i : Ins) (h0 : 0 ≤ i.bits) (h1 : i.bits < 4294967296) (hk : knownP i.op = true) (h2 : (i.op == 1 || i.bits == 0) = true) (h3 : toldB i.bits = true) (w : World) (hv : CdV w v0 v1 v2 v3 c) :
  Calls Tryz.prog 66 #[.agg #[v0, v1, v2, v3], insV i] w fun e w' => e = .returned (.bool (fitsR c i (ltR i.op))) ∧ Below w.heap.size w w' := by
 have HCAN : Hid (∀ w, Calls Tryz.prog 65 #[.int .u32 i.bits] w fun e w' => e = .returned (.bool true) ∧ Below w.heap.size w w') := by rw [← h3]; exact rcanonical_any i.bits h0 h1
 obtain ⟨a, b, cc, d, e, ⟨ea, eb, ec, ed, ee⟩, hc⟩ := rrow_lt i.op hk
 obtain ⟨oa, ob, oc, od, oe, oT⟩ := ltR_ok i.op
 have om := ltR_okM i.op
 unfold okM at om
 simp only [Bool.and_eq_true, decide_eq_true_eq] at om
 obtain ⟨m1, m2, m3⟩ := om
 have hF : fitsR c i (ltR i.op) = (operR c.regs (ltR i.op).a i.d ⟨0, 0⟩ && (operR c.regs (ltR i.op).b i.a (dR c.regs (ltR i.op).a i.d) && (operR c.regs (ltR i.op).c i.b (dR c.regs (ltR i.op).a i.d) && (operR c.regs (ltR i.op).d i.c (dR c.regs (ltR i.op).a i.d) && tailR c (ltR i.op).e i.n (tR c.regs (ltR i.op).a (ltR i.op).b i.d i.a))))) := by
  unfold fitsR; rw [h2, h3, Bool.true_and, Bool.true_and]
 rw [hF]
 clear hF h3
 have ix0 : ∀ w, (Instr.index 9 (.string ⟨#[a, b, cc, d, e]⟩) (.int .i64 0)).run Tryz.prog w = .ok (.int .u8 (ltR i.op).a) w := fun w => by rw [← ea]; simp [Instr.index, run_underlying Tryz.underlying9, asIntOf, go_sem]; rfl
 have ix1 : ∀ w, (Instr.index 9 (.string ⟨#[a, b, cc, d, e]⟩) (.int .i64 1)).run Tryz.prog w = .ok (.int .u8 (ltR i.op).b) w := fun w => by rw [← eb]; simp [Instr.index, run_underlying Tryz.underlying9, asIntOf, go_sem]; rfl
 have ix2 : ∀ w, (Instr.index 9 (.string ⟨#[a, b, cc, d, e]⟩) (.int .i64 2)).run Tryz.prog w = .ok (.int .u8 (ltR i.op).c) w := fun w => by rw [← ec]; simp [Instr.index, run_underlying Tryz.underlying9, asIntOf, go_sem]; rfl
 have ix3 : ∀ w, (Instr.index 9 (.string ⟨#[a, b, cc, d, e]⟩) (.int .i64 3)).run Tryz.prog w = .ok (.int .u8 (ltR i.op).d) w := fun w => by rw [← ed]; simp [Instr.index, run_underlying Tryz.underlying9, asIntOf, go_sem]; rfl
 have ix4 : ∀ w, (Instr.index 9 (.string ⟨#[a, b, cc, d, e]⟩) (.int .i64 4)).run Tryz.prog w = .ok (.int .u8 (ltR i.op).e) w := fun w => by rw [← ee]; simp [Instr.index, run_underlying Tryz.underlying9, asIntOf, go_sem]; rfl
 cases h : (i.op == 1)
 ·rw [h, Bool.false_or] at h2
  have o2 : (i.op != 1) = true := by simpa using h
  have o4 : (i.bits != 0) = false := by simpa using h2
  by_cases hz : (ltR i.op).a = 45
  ·exact rfits_A v0 v1 v2 v3 c co hT i.op i.d i.a i.b i.c i.n i.bits _ _ _ _ _ a b cc d e hc HCAN ix0 ix1 ix2 ix3 ix4 oa ob oc od oT h o2 h2 o4 hz (m1 hz) (m2 hz) w hv
  ·exact rfits_B v0 v1 v2 v3 c co hT i.op i.d i.a i.b i.c i.n i.bits _ _ _ _ _ a b cc d e hc HCAN ix0 ix1 ix2 ix3 ix4 oa ob oc od oT h o2 h2 o4 hz (m3 hz) w hv
 ·have o2 : (i.op != 1) = false := by simpa using h
  have e1 : i.op = 1 := by simpa using h
  have ha : (ltR i.op).a ≠ 45 := by rw [e1]; decide
  have he : (ltR i.op).e = 45 := by rw [e1]; rfl
  exact rfits_C v0 v1 v2 v3 c co hT i.op i.d i.a i.b i.c i.n i.bits _ _ _ _ _ a b cc d e hc HCAN ix0 ix1 ix2 ix3 ix4 oa ob oc od oT h o2 ha he w hv
end Go.Proofs.YtgcmnkanjcfndaaGreatDoor
namespace Go.Proofs.YtgcmnkanjcfndaaGreatDoor
open Go.RowKit
set_option linter.unusedVariables false
set_option linter.unusedSimpArgs false
theorem setB_one (M : Nat) (X : List Nat) : ∀ u ∈ setB M X, u.oneCell' = true := by
 intro u hu
 unfold setB at hu
 simp only [List.mem_map] at hu
 obtain ⟨j, -, rfl⟩ := hu
 rfl
theorem app_noneG {t e : TypeId} {z : Value} {sz by' : Nat} (ht : Tryz.prog.underlying t = some (.slice e)) (hi : (Tryz.prog.info? e).map (fun i => (i.zero, i.size, i.bytes)) = some (some z, sz, by')) (p : Option Addr) (n c : Nat) (x : Option Addr) (d : Nat) (hn : n ≤ c) (ty : TypeId) (w : World) : (Builtin.append_ #[t, t] ty #[.slice p n c, .slice x 0 d]).run Tryz.prog w = .ok (.slice p n c) w := by
 obtain ⟨i0, hi0, hz0, hz1, hz2⟩ := info_parts hi
 have h1 : ¬ c < n := by omega
 cases x with
 | none => cases p <;> simp [Builtin.append_, run_underlying ht, sizeOf, typeInfo, hi0, Builtin.lenOf, Builtin.firstCells, storeCells, loadCells, loadCellsFrom, hn, h1]
 | some a => cases p <;> simp [Builtin.append_, run_underlying ht, sizeOf, typeInfo, hi0, Builtin.lenOf, Builtin.firstCells, storeCells, loadCells, loadCellsFrom, hn, h1]
set_option maxRecDepth 100000 in
set_option maxHeartbeats 1000000 in
theorem rcopied_any {B M : Nat} {X : List Nat} (v : Value) (hM : M ≤ 16384) (w : World) (h : w.ownsRow B 4 1 v M (setB M X)) :
  Calls Tryz.prog 34 #[v] w fun e w' => ∃ u, e = .returned u ∧ w'.ownsRow w.heap.size 4 1 u M (setB M X) ∧ Below w.heap.size w w' := by
 obtain ⟨p, q, rfl⟩ := own_len h
 have key : ∃ u w', (Builtin.append_ #[82, 82] 82 #[.slice none 0 0, .slice p M q]).run Tryz.prog w = .ok u w' ∧ w'.ownsRow w.heap.size 4 1 u M (setB M X) ∧ Below w.heap.size w w' := by
  by_cases h0 : M = 0
  ·subst h0
   refine ⟨.slice none 0 0, w, app_noneG Tryz.underlying82 info_Bool none 0 0 p q (Nat.le_refl _) _ _, ?_, bel0 _⟩
   have : setB 0 X = [] := by simp [setB]
   rw [this]
   exact World.ownsRow_nil _ _ _ 1
  ·obtain ⟨g, c, e, hl, hg⟩ := h.form (by omega)
   simp only [Value.slice.injEq] at e
   obtain ⟨rfl, -, rfl⟩ := e
   obtain ⟨i0, hi0, hz0, hz1, hz2⟩ := info_parts info_Bool
   obtain ⟨g', cap, w', hr, hown, hgrow, hat, hlt⟩ := run_append_lies (P := Tryz.prog) w 82 82 w.heap.size 4 i0 _ 1 1 Tryz.underlying82 hi0 hz0 hz1 hz2 rfl (by decide) (.slice none 0 0) 0 [] (World.ownsRow_nil _ _ _ 1) ⟨g, 0, none⟩ M q (setB M X) (by rw [setB_len]; omega)
    (fun j u hu => by
     have hj : j < M := by have := (List.getElem?_eq_some_iff.1 hu).1; rw [setB_len] at this; exact this
     have e := h.cellAt j (by omega)
     have e2 : (⟨g, 0, none⟩ : Addr).add j = ⟨g, j, none⟩ := by simp [Addr.add]; omega
     rw [e2, e, hu]) (setB_one M X) (by omega) (by unfold maxLen; omega) (by omega) (Nat.le_refl _) _ rfl
   simp only [Nat.zero_add, List.nil_append] at hr hown
   exact ⟨_, w', hr, hown, (Below.refl _ _).grown hgrow (Nat.le_refl _) (fun k e => by simp [Value.ownBlock] at e)⟩
 obtain ⟨u, w', hr, ho, hb⟩ := key
 have HR : Hid ((Builtin.append_ #[82, 82] 82 #[.slice none 0 0, .slice p M q]).run Tryz.prog w = .ok u w') := hr
 have HO : Hid (w'.ownsRow w.heap.size 4 1 u M (setB M X) ∧ Below w.heap.size w w') := ⟨ho, hb⟩
 clear h hr ho hb
 go_enter Tryz.func34, Tryz.ntmps34
 go_wp2_with (at_builtin; refine wpList_app (by rfl) _ _ _ (by rfl) _ _ _ (by rfl) (by rfl) HR.out ?_)
 go_ret
 exact ⟨u, rfl, HO.out.1, HO.out.2⟩
theorem ready_appR {P : Program} {w w' : World} {o : Oper} {a : Act} {K : Act → World → Prop} {Q : Exit → Act → World → Prop} (s x : Operand) (t : TypeId)
  (ho : o.op = .call { callee := .builtin .append, args := #[s, x], argTypes := #[t, t] }) (v v2 v' : Value) (hs : a.eval s = v) (hx : a.eval x = v2) (hr : (Builtin.append_ #[t, t] o.type #[v, v2]).run P w = .ok v' w')
  (h : K (a.put o.dst v') w') (y' : Bool) (hy : y' = true) : if y' = true then Oper.wp P o a w K Q else K (a.put o.dst undef) w := by
 rw [if_pos hy]
 unfold Oper.wp execOp
 simp only [ho, resolve, invoke, builtin, Sem.run_bind, Sem.run_pure, Result.andThen_ok, List.map_toArray, List.map_cons, List.map_nil, hs, hx, hr]
 exact h
end Go.Proofs.YtgcmnkanjcfndaaGreatDoor
