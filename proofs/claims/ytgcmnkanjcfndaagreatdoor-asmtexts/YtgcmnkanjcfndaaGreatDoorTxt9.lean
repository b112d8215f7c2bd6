import Derived.Test.YtgcmnkanjcfndaaGreatDoorTxt1
import Derived.Test.YtgcmnkanjcfndaaGreatDoorTxt8
import Derived.Deep.DeepCutAuto
namespace Go.Proofs.YtgcmnkanjcfndaaGreatDoor
open Go.RowKit
set_option linter.unusedVariables false
set_option linter.unusedSimpArgs false
instance : DecidableEq Par := fun a b => by
 cases a; cases b
 simp only [Par.mk.injEq]
 exact inferInstanceAs (Decidable (_ ∧ _ ∧ _))
theorem step_bin {P : Program} {w : World} {ops : Array Oper} {o : Oper} {a : Act} {K : Act → World → Prop} {Q : Exit → Act → World → Prop} {E : Prop} (hgd : o.guard = none) (t : TypeId) (x y : Operand) (yt : TypeId)
  (ho : o.op = .binOp .neq t x y yt) (v1 v2 v : Value) (hx : a.eval x = v1) (hy : a.eval y = v2) (hg : (eqGuard .neq t x y v1 v2).run P w = .ok () w) (hr : (binOp .neq t v1 v2).run P w = .ok v w) (h : K (a.put o.dst v) w) :
  if Region.wanted o (yielded ops a.tmps) = true then Oper.wp P o a w K Q else E := by
 have hw : Region.wanted o (yielded ops a.tmps) = true := by simp [Region.wanted, hgd]
 rw [if_pos hw]
 unfold Oper.wp execOp
 simp only [ho, Sem.run_bind, Sem.run_pure, Result.andThen_ok, hx, hy, hg, hr]
 exact h
set_option maxRecDepth 100000 in
set_option maxHeartbeats 1000000 in
theorem neq_Par (a b : Par) (w : World) : (binOp .neq 48 (pv a) (pv b)).run Tryz.prog w = .ok (.bool (!decide (a = b))) w := by
 obtain ⟨x0, x1, x2⟩ := a
 obtain ⟨y0, y1, y2⟩ := b
 unfold pv
 by_cases h0 : x0 = y0
 ·subst h0
  by_cases h1 : x1 = y1
  ·subst h1
   by_cases h2 : x2 = y2
   ·subst h2
    go_simp
   ·go_simp
  ·go_simp
 ·go_simp
  exact fun e => absurd (Go.WideShapes.bytes_inj (by rwa [ByteArray.toList_eq, ByteArray.toList_eq] at e)) h0
set_option maxRecDepth 100000 in
theorem grd_Par (p q : Operand) (a b : Par) (w : World) : (eqGuard .neq 48 p q (pv a) (pv b)).run Tryz.prog w = .ok () w := by
 obtain ⟨x0, x1, x2⟩ := a
 obtain ⟨y0, y1, y2⟩ := b
 unfold pv
 simp [eqGuard, go_sem]
set_option maxRecDepth 100000 in
set_option maxHeartbeats 1000000 in
theorem neq_Ty (a b : Ty) (w : World) : (binOp .neq 50 (tyV a) (tyV b)).run Tryz.prog w = .ok (.bool (!decide (a = b))) w := by
 obtain ⟨x0, x1⟩ := a
 obtain ⟨y0, y1⟩ := b
 unfold tyV
 by_cases h0 : x0 = y0
 ·subst h0
  by_cases h1 : x1 = y1
  ·subst h1
   go_simp
  ·go_simp
 ·go_simp
set_option maxRecDepth 100000 in
theorem grd_Ty (p q : Operand) (a b : Ty) (w : World) : (eqGuard .neq 50 p q (tyV a) (tyV b)).run Tryz.prog w = .ok () w := by
 obtain ⟨x0, x1⟩ := a
 obtain ⟨y0, y1⟩ := b
 unfold tyV
 simp [eqGuard, go_sem]
set_option maxRecDepth 100000 in
set_option maxHeartbeats 1000000 in
theorem neq_Sl (a b : Sl) (w : World) : (binOp .neq 60 (slV a) (slV b)).run Tryz.prog w = .ok (.bool (!decide (a = b))) w := by
 obtain ⟨⟨x0, x1⟩, x2, x3, x4⟩ := a
 obtain ⟨⟨y0, y1⟩, y2, y3, y4⟩ := b
 unfold slV
 by_cases h0 : x0 = y0
 ·subst h0
  by_cases h1 : x1 = y1
  ·subst h1
   by_cases h2 : x2 = y2
   ·subst h2
    by_cases h3 : x3 = y3
    ·subst h3
     by_cases h4 : x4 = y4
     ·subst h4
      go_simp
     ·go_simp
    ·go_simp
   ·go_simp
  ·go_simp
 ·go_simp
set_option maxRecDepth 100000 in
theorem grd_Sl (p q : Operand) (a b : Sl) (w : World) : (eqGuard .neq 60 p q (slV a) (slV b)).run Tryz.prog w = .ok () w := by
 obtain ⟨⟨x0, x1⟩, x2, x3, x4⟩ := a
 obtain ⟨⟨y0, y1⟩, y2, y3, y4⟩ := b
 unfold slV
 simp [eqGuard, go_sem]
set_option maxRecDepth 100000 in
set_option maxHeartbeats 1000000 in
theorem neq_Ins (a b : Ins) (w : World) : (binOp .neq 46 (insV a) (insV b)).run Tryz.prog w = .ok (.bool (!decide (a = b))) w := by
 obtain ⟨x0, x1, x2, x3, x4, x5, x6⟩ := a
 obtain ⟨y0, y1, y2, y3, y4, y5, y6⟩ := b
 unfold insV
 by_cases h0 : x0 = y0
 ·subst h0
  by_cases h1 : x1 = y1
  ·subst h1
   by_cases h2 : x2 = y2
   ·subst h2
    by_cases h3 : x3 = y3
    ·subst h3
     by_cases h4 : x4 = y4
     ·subst h4
      by_cases h5 : x5 = y5
      ·subst h5
       by_cases h6 : x6 = y6
       ·subst h6
        go_simp
       ·go_simp
      ·go_simp
     ·go_simp
    ·go_simp
   ·go_simp
  ·go_simp
 ·go_simp
set_option maxRecDepth 100000 in
theorem grd_Ins (p q : Operand) (a b : Ins) (w : World) : (eqGuard .neq 46 p q (insV a) (insV b)).run Tryz.prog w = .ok () w := by
 obtain ⟨x0, x1, x2, x3, x4, x5, x6⟩ := a
 obtain ⟨y0, y1, y2, y3, y4, y5, y6⟩ := b
 unfold insV
 simp [eqGuard, go_sem]
end Go.Proofs.YtgcmnkanjcfndaaGreatDoor
namespace Go.Proofs.YtgcmnkanjcfndaaGreatDoor
open Go.RowKit
set_option linter.unusedVariables false
set_option linter.unusedSimpArgs false
def eqC (a b : Cd) : Bool := decide (a.sign = b.sign) && (decide (a.regs = b.regs) && (decide (a.slots = b.slots) && decide (a.list = b.list)))
theorem eqC_self (a : Cd) : eqC a a = true := by simp [eqC]
theorem two_boxes {w v : World} {a0 a1 a2 a3 b0 b1 b2 b3 : Value} {t : TypeId} (k : Below ((w.alloc (.cells #[a0, a1, a2, a3] t)).alloc (.cells #[b0, b1, b2, b3] t)).heap.size ((w.alloc (.cells #[a0, a1, a2, a3] t)).alloc (.cells #[b0, b1, b2, b3] t)) v) :
  (v.cell? ⟨w.heap.size, 0, none⟩ = some a0 ∧ v.cell? ⟨w.heap.size, 1, none⟩ = some a1 ∧ v.cell? ⟨w.heap.size, 2, none⟩ = some a2 ∧ v.cell? ⟨w.heap.size, 3, none⟩ = some a3) ∧ v.cell? ⟨w.heap.size + 1, 0, none⟩ = some b0 ∧ v.cell? ⟨w.heap.size + 1, 1, none⟩ = some b1 ∧ v.cell? ⟨w.heap.size + 1, 2, none⟩ = some b2 ∧ v.cell? ⟨w.heap.size + 1, 3, none⟩ = some b3 :=
 ⟨⟨kc k (by simp [go_sem]), kc k (by simp [go_sem]), kc k (by simp [go_sem]), kc k (by simp [go_sem])⟩, kc k (by simp [go_sem]), kc k (by simp [go_sem]), kc k (by simp [go_sem]), kc k (by simp [go_sem])⟩
set_option maxRecDepth 100000 in
set_option maxHeartbeats 8000000 in
theorem rEqual_any (a0 a1 a2 a3 b0 b1 b2 b3 : Value) (a b : Cd) (ha : CdOk a) (hb : CdOk b) (w : World) (hA : CdV w a0 a1 a2 a3 a) (hB : CdV w b0 b1 b2 b3 b) :
  Calls Tryz.prog 13 #[.agg #[a0, a1, a2, a3], .agg #[b0, b1, b2, b3]] w fun e w' => e = .returned (.bool (eqC a b)) ∧ Below w.heap.size w w' := by
 have hl0 := ha.signL
 have hm0 := hb.signL
 have HV0 : Hid (RowG 3 parCells w a0 a.sign) := hA.sign
 have HU0 : Hid (RowG 3 parCells w b0 b.sign) := hB.sign
 have hl1 := ha.regsL
 have hm1 := hb.regsL
 have HV1 : Hid (RowG 2 tyC w a1 a.regs) := hA.regs
 have HU1 : Hid (RowG 2 tyC w b1 b.regs) := hB.regs
 have hl2 := ha.slotsL
 have hm2 := hb.slotsL
 have HV2 : Hid (RowG 5 slC w a2 a.slots) := hA.slots
 have HU2 : Hid (RowG 5 slC w b2 b.slots) := hB.slots
 have hl3 := ha.listL
 have hm3 := hb.listL
 have HV3 : Hid (RowG 7 inC w a3 a.list) := hA.list
 have HU3 : Hid (RowG 7 inC w b3 b.list) := hB.list
 obtain ⟨p0, c0, rfl, -⟩ := hA.sign
 obtain ⟨q0, d0, rfl, -⟩ := hB.sign
 obtain ⟨p1, c1, rfl, -⟩ := hA.regs
 obtain ⟨q1, d1, rfl, -⟩ := hB.regs
 obtain ⟨p2, c2, rfl, -⟩ := hA.slots
 obtain ⟨q2, d2, rfl, -⟩ := hB.slots
 obtain ⟨p3, c3, rfl, -⟩ := hA.list
 obtain ⟨q3, d3, rfl, -⟩ := hB.list
 clear hA hB ha hb
 unfold eqC
 obtain ⟨l0, hL0⟩ : ∃ l, a.sign = l := ⟨_, rfl⟩
 obtain ⟨m0, hM0⟩ : ∃ l, b.sign = l := ⟨_, rfl⟩
 rw [hL0] at hl0 HV0 ⊢
 rw [hM0] at hm0 HU0 ⊢
 obtain ⟨l1, hL1⟩ : ∃ l, a.regs = l := ⟨_, rfl⟩
 obtain ⟨m1, hM1⟩ : ∃ l, b.regs = l := ⟨_, rfl⟩
 rw [hL1] at hl1 HV1 ⊢
 rw [hM1] at hm1 HU1 ⊢
 obtain ⟨l2, hL2⟩ : ∃ l, a.slots = l := ⟨_, rfl⟩
 obtain ⟨m2, hM2⟩ : ∃ l, b.slots = l := ⟨_, rfl⟩
 rw [hL2] at hl2 HV2 ⊢
 rw [hM2] at hm2 HU2 ⊢
 obtain ⟨l3, hL3⟩ : ∃ l, a.list = l := ⟨_, rfl⟩
 obtain ⟨m3, hM3⟩ : ∃ l, b.list = l := ⟨_, rfl⟩
 rw [hL3] at hl3 HV3 ⊢
 rw [hM3] at hm3 HU3 ⊢
 clear hL0 hL1 hL2 hL3 hM0 hM1 hM2 hM3
 have HLE0 : Hid (l0.length = m0.length → (l0 = m0 ↔ ∀ j (h1 : j < l0.length) (h2 : j < m0.length), l0[j] = m0[j])) := fun hne => ⟨fun e => by subst e; exact fun j h1 h2 => rfl, fun h => List.ext_getElem hne h⟩
 obtain ⟨N0, hN0⟩ : ∃ N, l0.length = N := ⟨_, rfl⟩
 obtain ⟨M0, hM0⟩ : ∃ N, m0.length = N := ⟨_, rfl⟩
 rw [hN0] at hl0 HV0 ⊢
 rw [hM0] at hm0 HU0 ⊢
 have HN0 : Hid (l0.length = N0) := hN0
 have HM0 : Hid (m0.length = M0) := hM0
 have HLE1 : Hid (l1.length = m1.length → (l1 = m1 ↔ ∀ j (h1 : j < l1.length) (h2 : j < m1.length), l1[j] = m1[j])) := fun hne => ⟨fun e => by subst e; exact fun j h1 h2 => rfl, fun h => List.ext_getElem hne h⟩
 obtain ⟨N1, hN1⟩ : ∃ N, l1.length = N := ⟨_, rfl⟩
 obtain ⟨M1, hM1⟩ : ∃ N, m1.length = N := ⟨_, rfl⟩
 rw [hN1] at hl1 HV1 ⊢
 rw [hM1] at hm1 HU1 ⊢
 have HN1 : Hid (l1.length = N1) := hN1
 have HM1 : Hid (m1.length = M1) := hM1
 have HLE2 : Hid (l2.length = m2.length → (l2 = m2 ↔ ∀ j (h1 : j < l2.length) (h2 : j < m2.length), l2[j] = m2[j])) := fun hne => ⟨fun e => by subst e; exact fun j h1 h2 => rfl, fun h => List.ext_getElem hne h⟩
 obtain ⟨N2, hN2⟩ : ∃ N, l2.length = N := ⟨_, rfl⟩
 obtain ⟨M2, hM2⟩ : ∃ N, m2.length = N := ⟨_, rfl⟩
 rw [hN2] at hl2 HV2 ⊢
 rw [hM2] at hm2 HU2 ⊢
 have HN2 : Hid (l2.length = N2) := hN2
 have HM2 : Hid (m2.length = M2) := hM2
 have HLE3 : Hid (l3.length = m3.length → (l3 = m3 ↔ ∀ j (h1 : j < l3.length) (h2 : j < m3.length), l3[j] = m3[j])) := fun hne => ⟨fun e => by subst e; exact fun j h1 h2 => rfl, fun h => List.ext_getElem hne h⟩
 obtain ⟨N3, hN3⟩ : ∃ N, l3.length = N := ⟨_, rfl⟩
 obtain ⟨M3, hM3⟩ : ∃ N, m3.length = N := ⟨_, rfl⟩
 rw [hN3] at hl3 HV3 ⊢
 rw [hM3] at hm3 HU3 ⊢
 have HN3 : Hid (l3.length = N3) := hN3
 have HM3 : Hid (m3.length = M3) := hM3
 obtain ⟨R, hR⟩ : ∃ R, (decide (l0 = m0) && (decide (l1 = m1) && (decide (l2 = m2) && decide (l3 = m3)))) = R := ⟨_, rfl⟩
 rw [hR]
 have HR : Hid ((decide (l0 = m0) && (decide (l1 = m1) && (decide (l2 = m2) && decide (l3 = m3)))) = R) := hR
 have HBX : Hid (∀ v, Below ((w.alloc (.cells #[.slice p0 N0 c0, .slice p1 N1 c1, .slice p2 N2 c2, .slice p3 N3 c3] 27)).alloc (.cells #[.slice q0 M0 d0, .slice q1 M1 d1, .slice q2 M2 d2, .slice q3 M3 d3] 27)).heap.size ((w.alloc (.cells #[.slice p0 N0 c0, .slice p1 N1 c1, .slice p2 N2 c2, .slice p3 N3 c3] 27)).alloc (.cells #[.slice q0 M0 d0, .slice q1 M1 d1, .slice q2 M2 d2, .slice q3 M3 d3] 27)) v → (v.cell? ⟨w.heap.size, 0, none⟩ = some (.slice p0 N0 c0) ∧ v.cell? ⟨w.heap.size, 1, none⟩ = some (.slice p1 N1 c1) ∧ v.cell? ⟨w.heap.size, 2, none⟩ = some (.slice p2 N2 c2) ∧ v.cell? ⟨w.heap.size, 3, none⟩ = some (.slice p3 N3 c3)) ∧ v.cell? ⟨w.heap.size + 1, 0, none⟩ = some (.slice q0 M0 d0) ∧ v.cell? ⟨w.heap.size + 1, 1, none⟩ = some (.slice q1 M1 d1) ∧ v.cell? ⟨w.heap.size + 1, 2, none⟩ = some (.slice q2 M2 d2) ∧ v.cell? ⟨w.heap.size + 1, 3, none⟩ = some (.slice q3 M3 d3)) := fun v k => two_boxes k
 have HB0 : Hid (Below w.heap.size w ((w.alloc (.cells #[.slice p0 N0 c0, .slice p1 N1 c1, .slice p2 N2 c2, .slice p3 N3 c3] 27)).alloc (.cells #[.slice q0 M0 d0, .slice q1 M1 d1, .slice q2 M2 d2, .slice q3 M3 d3] 27))) := bel (bel_alloc _ _) (bel_alloc _ _)
 clear hN0 hN1 hN2 hN3 hM0 hM1 hM2 hM3 hR
 by_cases e0 : N0 = M0
 case neg =>
  have hf : R = false := by
   rw [← HR.out]
   have : decide (l0 = m0) = false := decide_eq_false fun e => e0 (by rw [← HN0.out, ← HM0.out, e])
   rw [this]; simp
  subst hf
  have h1 : ((N0 : Int) == (M0 : Int)) = false := by have : (N0 : Int) ≠ (M0 : Int) := (by omega); simpa using this
  have h2 : ((N0 : Int) != (M0 : Int)) = true := by have : (N0 : Int) ≠ (M0 : Int) := (by omega); simpa using this
  have h3 : (N0 == M0) = false := by simpa using e0
  clear HV0 HV1 HV2 HV3 HU0 HU1 HU2 HU3 HLE0 HLE1 HLE2 HLE3 e0
  go_enter Tryz.func13, Tryz.ntmps13
  go_wp2
  all_goals (go_ret; exact ⟨rfl, HB0.out⟩)
 subst e0
 by_cases e1 : N1 = M1
 case neg =>
  have hf : R = false := by
   rw [← HR.out]
   have : decide (l1 = m1) = false := decide_eq_false fun e => e1 (by rw [← HN1.out, ← HM1.out, e])
   rw [this]; simp
  subst hf
  have h1 : ((N1 : Int) == (M1 : Int)) = false := by have : (N1 : Int) ≠ (M1 : Int) := (by omega); simpa using this
  have h2 : ((N1 : Int) != (M1 : Int)) = true := by have : (N1 : Int) ≠ (M1 : Int) := (by omega); simpa using this
  have h3 : (N1 == M1) = false := by simpa using e1
  clear HV0 HV1 HV2 HV3 HU0 HU1 HU2 HU3 HLE0 HLE1 HLE2 HLE3 e1
  go_enter Tryz.func13, Tryz.ntmps13
  go_wp2
  all_goals (go_ret; exact ⟨rfl, HB0.out⟩)
 subst e1
 by_cases e2 : N2 = M2
 case neg =>
  have hf : R = false := by
   rw [← HR.out]
   have : decide (l2 = m2) = false := decide_eq_false fun e => e2 (by rw [← HN2.out, ← HM2.out, e])
   rw [this]; simp
  subst hf
  have h1 : ((N2 : Int) == (M2 : Int)) = false := by have : (N2 : Int) ≠ (M2 : Int) := (by omega); simpa using this
  have h2 : ((N2 : Int) != (M2 : Int)) = true := by have : (N2 : Int) ≠ (M2 : Int) := (by omega); simpa using this
  have h3 : (N2 == M2) = false := by simpa using e2
  clear HV0 HV1 HV2 HV3 HU0 HU1 HU2 HU3 HLE0 HLE1 HLE2 HLE3 e2
  go_enter Tryz.func13, Tryz.ntmps13
  go_wp2
  all_goals (go_ret; exact ⟨rfl, HB0.out⟩)
 subst e2
 by_cases e3 : N3 = M3
 case neg =>
  have hf : R = false := by
   rw [← HR.out]
   have : decide (l3 = m3) = false := decide_eq_false fun e => e3 (by rw [← HN3.out, ← HM3.out, e])
   rw [this]; simp
  subst hf
  have h1 : ((N3 : Int) == (M3 : Int)) = false := by have : (N3 : Int) ≠ (M3 : Int) := (by omega); simpa using this
  have h2 : ((N3 : Int) != (M3 : Int)) = true := by have : (N3 : Int) ≠ (M3 : Int) := (by omega); simpa using this
  have h3 : (N3 == M3) = false := by simpa using e3
  clear HV0 HV1 HV2 HV3 HU0 HU1 HU2 HU3 HLE0 HLE1 HLE2 HLE3 e3
  go_enter Tryz.func13, Tryz.ntmps13
  go_wp2
  all_goals (go_ret; exact ⟨rfl, HB0.out⟩)
 subst e3
 go_enter Tryz.func13, Tryz.ntmps13
 go_wp2
 obtain ⟨V, hV⟩ : ∃ V, ((w.alloc (.cells #[.slice p0 N0 c0, .slice p1 N1 c1, .slice p2 N2 c2, .slice p3 N3 c3] 27)).alloc (.cells #[.slice q0 N0 d0, .slice q1 N1 d1, .slice q2 N2 d2, .slice q3 N3 d3] 27)) = V := ⟨_, rfl⟩
 rw [hV] at HBX HB0 ⊢
 have HBV : Hid (∀ v, Below V.heap.size V v → (v.cell? ⟨w.heap.size, 0, none⟩ = some (.slice p0 N0 c0) ∧ v.cell? ⟨w.heap.size, 1, none⟩ = some (.slice p1 N1 c1) ∧ v.cell? ⟨w.heap.size, 2, none⟩ = some (.slice p2 N2 c2) ∧ v.cell? ⟨w.heap.size, 3, none⟩ = some (.slice p3 N3 c3)) ∧ v.cell? ⟨w.heap.size + 1, 0, none⟩ = some (.slice q0 N0 d0) ∧ v.cell? ⟨w.heap.size + 1, 1, none⟩ = some (.slice q1 N1 d1) ∧ v.cell? ⟨w.heap.size + 1, 2, none⟩ = some (.slice q2 N2 d2) ∧ v.cell? ⟨w.heap.size + 1, 3, none⟩ = some (.slice q3 N3 d3)) := HBX.out
 obtain ⟨⟨z0, z1, z2, z3⟩, y0, y1, y2, y3⟩ := HBV.out V (bel0 V)
 clear HBX hV
 go_loopw [5] (fun iv wr => Below V.heap.size V wr ∧ ∃ j : Nat, j ≤ N0 ∧ iv = .int .i64 j ∧ Hid (∀ i (h1 : i < l0.length) (h2 : i < m0.length), i < j → l0[i] = m0[i])) (fun iv _ => N0 - (intOf iv).toNat)
 case atStart => exact ⟨bel0 V, 0, Nat.zero_le _, rfl, fun i _ _ hi => absurd hi (Nat.not_lt_zero _)⟩
 case round =>
  obtain ⟨hbv, j, hj, rfl, hp⟩ := hrel
  obtain ⟨⟨g0, g1, g2, g3⟩, g4, g5, g6, g7⟩ := HBV.out wr hbv
  by_cases hlt : j < N0
  ·have h1 : j < l0.length := by rw [HN0.out]; exact hlt
   have h2 : j < m0.length := by rw [HM0.out]; exact hlt
   obtain ⟨b, o, rfl, hx⟩ := HV0.out.at h1
   obtain ⟨b', o', rfl, hy⟩ := HU0.out.at h2
   have hx' := hx.below (bel HB0.out hbv)
   have hy' := hy.below (bel HB0.out hbv)
   have x0 := hx'.at 0 rfl
   have w0 := hy'.at 0 rfl
   have x1 := hx'.at 1 rfl
   have w1 := hy'.at 1 rfl
   have x2 := hx'.at 2 rfl
   have w2 := hy'.at 2 rfl
   rw [Nat.add_zero] at x0 w0
   have NE := neq_Par l0[j] m0[j]
   have NX : Hid (l0[j] = m0[j] → ∀ i (h1 : i < l0.length) (h2 : i < m0.length), i < j + 1 → l0[i] = m0[i]) := fun e i h1 h2 hi => by
    by_cases e' : i = j
    ·subst e'; exact e
    ·exact hp.out i h1 h2 (by omega)
   have NB : Hid (¬ l0[j] = m0[j] → R = false) := fun e => by
    rw [← HR.out]
    have : decide (l0 = m0) = false := decide_eq_false fun e2 => e ((HLE0.out (by rw [HN0.out, HM0.out])).1 e2 j h1 h2)
    rw [this]; simp
   obtain ⟨X, hX⟩ : ∃ X, l0[j] = X := ⟨_, rfl⟩
   obtain ⟨Y, hY⟩ : ∃ Y, m0[j] = Y := ⟨_, rfl⟩
   rw [hX] at x0 x1 x2 NX NB
   rw [hY] at w0 w1 w2 NX NB
   simp only [hX, hY] at NE
   obtain ⟨D, hD⟩ : ∃ D, decide (X = Y) = D := ⟨_, rfl⟩
   simp only [hD] at NE
   unfold pv at NE
   have HNE : Hid (∀ w, (binOp .neq 48 (.agg #[.string X.name, .int .i64 X.kind, .int .i64 X.len]) (.agg #[.string Y.name, .int .i64 Y.kind, .int .i64 Y.len])).run Tryz.prog w = .ok (.bool (!D)) w) := NE
   have i1 : (0 : Int) ≤ (j : Int) := by omega
   have i2 : (j : Int) < (N0 : Int) := by omega
   clear NE hX hY hp hx hy hx' hy'
   cases D
   ·have HB : Hid (¬ X = Y) := (show ¬ X = Y from of_decide_eq_false hD)
    clear hD
    go_wp2
    refine wp_region_held_drew (S := (fun v => v.cell? ⟨w.heap.size, 0, none⟩ = some (.slice (some ⟨b, o, none⟩) N0 c0) ∧ v.cell? ⟨w.heap.size + 1, 0, none⟩ = some (.slice (some ⟨b', o', none⟩) N0 d0) ∧ v.cell? ⟨b, o + j * 3, none⟩ = some (.string X.name) ∧ v.cell? ⟨b, o + j * 3 + 1, none⟩ = some (.int .i64 X.kind) ∧ v.cell? ⟨b, o + j * 3 + 2, none⟩ = some (.int .i64 X.len) ∧ v.cell? ⟨b', o' + j * 3, none⟩ = some (.string Y.name) ∧ v.cell? ⟨b', o' + j * 3 + 1, none⟩ = some (.int .i64 Y.kind) ∧ v.cell? ⟨b', o' + j * 3 + 2, none⟩ = some (.int .i64 Y.len))) (by kernel_rfl) ?_ (fun hHeld => ?_)
    ·((try dsimp only); go_keep)
    refine tkT 0 ?_
    refine tkT 1 ?_
    refine tkT 2 ?_
    refine tkT 3 ?_
    refine tkT 4 ?_
    refine tkT 5 ?_
    refine tkT 6 ?_
    refine tkT 7 ?_
    refine tkT 8 ?_
    refine tkT 9 ?_
    clear hHeld
    refine wpAnyH_ready (rs := [10]) (by kernel_rfl) (by simp) ?_
    refine AllReadyH.cons (i := 10) (by simp only [List.getElem?_toArray, List.getElem?_cons_succ, List.getElem?_cons_zero]; rfl) (fun K hK => ?_) AllReadyH.nil
    refine step_bin (by rfl) _ _ _ _ (by rfl) _ _ _ (by rfl) (by rfl) (grd_Par _ _ X Y _) (HNE.out _) ?_
    refine hK.out _ _ ?_ (fun hHeld => ?_)
    ·((try dsimp only); go_keep)
    clear hK K
    try simp only [Act.put, List.setIfInBounds_toArray, List.set_cons_zero, List.set_cons_succ]
    refine wpAnyH_done (by kernel_rfl) ?_ _
    go_wp2
    go_ret
    exact ⟨ret_bool (NB.out HB.out).symm, (bel HB0.out hbv).drew⟩
   ·have HE : Hid (X = Y) := (show X = Y from of_decide_eq_true hD)
    clear hD
    go_wp2
    refine wp_region_held_drew (S := (fun v => v.cell? ⟨w.heap.size, 0, none⟩ = some (.slice (some ⟨b, o, none⟩) N0 c0) ∧ v.cell? ⟨w.heap.size + 1, 0, none⟩ = some (.slice (some ⟨b', o', none⟩) N0 d0) ∧ v.cell? ⟨b, o + j * 3, none⟩ = some (.string X.name) ∧ v.cell? ⟨b, o + j * 3 + 1, none⟩ = some (.int .i64 X.kind) ∧ v.cell? ⟨b, o + j * 3 + 2, none⟩ = some (.int .i64 X.len) ∧ v.cell? ⟨b', o' + j * 3, none⟩ = some (.string Y.name) ∧ v.cell? ⟨b', o' + j * 3 + 1, none⟩ = some (.int .i64 Y.kind) ∧ v.cell? ⟨b', o' + j * 3 + 2, none⟩ = some (.int .i64 Y.len))) (by kernel_rfl) ?_ (fun hHeld => ?_)
    ·((try dsimp only); go_keep)
    refine tkT 0 ?_
    refine tkT 1 ?_
    refine tkT 2 ?_
    refine tkT 3 ?_
    refine tkT 4 ?_
    refine tkT 5 ?_
    refine tkT 6 ?_
    refine tkT 7 ?_
    refine tkT 8 ?_
    refine tkT 9 ?_
    clear hHeld
    refine wpAnyH_ready (rs := [10]) (by kernel_rfl) (by simp) ?_
    refine AllReadyH.cons (i := 10) (by simp only [List.getElem?_toArray, List.getElem?_cons_succ, List.getElem?_cons_zero]; rfl) (fun K hK => ?_) AllReadyH.nil
    refine step_bin (by rfl) _ _ _ _ (by rfl) _ _ _ (by rfl) (by rfl) (grd_Par _ _ X Y _) (HNE.out _) ?_
    refine hK.out _ _ ?_ (fun hHeld => ?_)
    ·((try dsimp only); go_keep)
    clear hK K
    try simp only [Act.put, List.setIfInBounds_toArray, List.set_cons_zero, List.set_cons_succ]
    refine wpAnyH_done (by kernel_rfl) ?_ _
    go_wp2
    go_roundw
    case rel => exact ⟨hbv.drew, j + 1, by omega, by go_num, NX.out HE.out⟩
    case measure => simp [intOf]; omega
  ·have hjN : j = N0 := by omega
   have HF0 : Hid (l0 = m0) := (HLE0.out (by rw [HN0.out, HM0.out])).2 fun i h1 h2 => hp.out i h1 h2 (by rw [hjN, ← HN0.out]; exact h1)
   have HBW0 : Hid (Below V.heap.size V wr) := hbv
   subst hjN
   clear hp hbv
   go_wp2
   go_loopw [6] (fun iv wr => Below V.heap.size V wr ∧ ∃ j : Nat, j ≤ N1 ∧ iv = .int .i64 j ∧ Hid (∀ i (h1 : i < l1.length) (h2 : i < m1.length), i < j → l1[i] = m1[i])) (fun iv _ => N1 - (intOf iv).toNat)
   case atStart => exact ⟨HBW0.out, 0, Nat.zero_le _, rfl, fun i _ _ hi => absurd hi (Nat.not_lt_zero _)⟩
   case round =>
    obtain ⟨hbv, j, hj, rfl, hp⟩ := hrel
    obtain ⟨⟨g0, g1, g2, g3⟩, g4, g5, g6, g7⟩ := HBV.out wr hbv
    by_cases hlt : j < N1
    ·have h1 : j < l1.length := by rw [HN1.out]; exact hlt
     have h2 : j < m1.length := by rw [HM1.out]; exact hlt
     obtain ⟨b, o, rfl, hx⟩ := HV1.out.at h1
     obtain ⟨b', o', rfl, hy⟩ := HU1.out.at h2
     have hx' := hx.below (bel HB0.out hbv)
     have hy' := hy.below (bel HB0.out hbv)
     have x0 := hx'.at 0 rfl
     have w0 := hy'.at 0 rfl
     have x1 := hx'.at 1 rfl
     have w1 := hy'.at 1 rfl
     rw [Nat.add_zero] at x0 w0
     have NE := neq_Ty l1[j] m1[j]
     have NX : Hid (l1[j] = m1[j] → ∀ i (h1 : i < l1.length) (h2 : i < m1.length), i < j + 1 → l1[i] = m1[i]) := fun e i h1 h2 hi => by
      by_cases e' : i = j
      ·subst e'; exact e
      ·exact hp.out i h1 h2 (by omega)
     have NB : Hid (¬ l1[j] = m1[j] → R = false) := fun e => by
      rw [← HR.out]
      have : decide (l1 = m1) = false := decide_eq_false fun e2 => e ((HLE1.out (by rw [HN1.out, HM1.out])).1 e2 j h1 h2)
      rw [this]; simp
     obtain ⟨X, hX⟩ : ∃ X, l1[j] = X := ⟨_, rfl⟩
     obtain ⟨Y, hY⟩ : ∃ Y, m1[j] = Y := ⟨_, rfl⟩
     rw [hX] at x0 x1 NX NB
     rw [hY] at w0 w1 NX NB
     simp only [hX, hY] at NE
     obtain ⟨D, hD⟩ : ∃ D, decide (X = Y) = D := ⟨_, rfl⟩
     simp only [hD] at NE
     unfold tyV at NE
     have HNE : Hid (∀ w, (binOp .neq 50 (.agg #[.int .i64 X.kind, .int .i64 X.par]) (.agg #[.int .i64 Y.kind, .int .i64 Y.par])).run Tryz.prog w = .ok (.bool (!D)) w) := NE
     have i1 : (0 : Int) ≤ (j : Int) := by omega
     have i2 : (j : Int) < (N1 : Int) := by omega
     clear NE hX hY hp hx hy hx' hy'
     cases D
     ·have HB : Hid (¬ X = Y) := (show ¬ X = Y from of_decide_eq_false hD)
      clear hD
      go_wp2
      refine wp_region_held_drew (S := (fun v => v.cell? ⟨w.heap.size, 1, none⟩ = some (.slice (some ⟨b, o, none⟩) N1 c1) ∧ v.cell? ⟨w.heap.size + 1, 1, none⟩ = some (.slice (some ⟨b', o', none⟩) N1 d1) ∧ v.cell? ⟨b, o + j * 2, none⟩ = some (.int .i64 X.kind) ∧ v.cell? ⟨b, o + j * 2 + 1, none⟩ = some (.int .i64 X.par) ∧ v.cell? ⟨b', o' + j * 2, none⟩ = some (.int .i64 Y.kind) ∧ v.cell? ⟨b', o' + j * 2 + 1, none⟩ = some (.int .i64 Y.par))) (by kernel_rfl) ?_ (fun hHeld => ?_)
      ·((try dsimp only); go_keep)
      refine tkT 0 ?_
      refine tkT 1 ?_
      refine tkT 2 ?_
      refine tkT 3 ?_
      refine tkT 4 ?_
      refine tkT 5 ?_
      refine tkT 6 ?_
      refine tkT 7 ?_
      refine tkT 8 ?_
      refine tkT 9 ?_
      clear hHeld
      refine wpAnyH_ready (rs := [10]) (by kernel_rfl) (by simp) ?_
      refine AllReadyH.cons (i := 10) (by simp only [List.getElem?_toArray, List.getElem?_cons_succ, List.getElem?_cons_zero]; rfl) (fun K hK => ?_) AllReadyH.nil
      refine step_bin (by rfl) _ _ _ _ (by rfl) _ _ _ (by rfl) (by rfl) (grd_Ty _ _ X Y _) (HNE.out _) ?_
      refine hK.out _ _ ?_ (fun hHeld => ?_)
      ·((try dsimp only); go_keep)
      clear hK K
      try simp only [Act.put, List.setIfInBounds_toArray, List.set_cons_zero, List.set_cons_succ]
      refine wpAnyH_done (by kernel_rfl) ?_ _
      go_wp2
      go_ret
      exact ⟨ret_bool (NB.out HB.out).symm, (bel HB0.out hbv).drew⟩
     ·have HE : Hid (X = Y) := (show X = Y from of_decide_eq_true hD)
      clear hD
      go_wp2
      refine wp_region_held_drew (S := (fun v => v.cell? ⟨w.heap.size, 1, none⟩ = some (.slice (some ⟨b, o, none⟩) N1 c1) ∧ v.cell? ⟨w.heap.size + 1, 1, none⟩ = some (.slice (some ⟨b', o', none⟩) N1 d1) ∧ v.cell? ⟨b, o + j * 2, none⟩ = some (.int .i64 X.kind) ∧ v.cell? ⟨b, o + j * 2 + 1, none⟩ = some (.int .i64 X.par) ∧ v.cell? ⟨b', o' + j * 2, none⟩ = some (.int .i64 Y.kind) ∧ v.cell? ⟨b', o' + j * 2 + 1, none⟩ = some (.int .i64 Y.par))) (by kernel_rfl) ?_ (fun hHeld => ?_)
      ·((try dsimp only); go_keep)
      refine tkT 0 ?_
      refine tkT 1 ?_
      refine tkT 2 ?_
      refine tkT 3 ?_
      refine tkT 4 ?_
      refine tkT 5 ?_
      refine tkT 6 ?_
      refine tkT 7 ?_
      refine tkT 8 ?_
      refine tkT 9 ?_
      clear hHeld
      refine wpAnyH_ready (rs := [10]) (by kernel_rfl) (by simp) ?_
      refine AllReadyH.cons (i := 10) (by simp only [List.getElem?_toArray, List.getElem?_cons_succ, List.getElem?_cons_zero]; rfl) (fun K hK => ?_) AllReadyH.nil
      refine step_bin (by rfl) _ _ _ _ (by rfl) _ _ _ (by rfl) (by rfl) (grd_Ty _ _ X Y _) (HNE.out _) ?_
      refine hK.out _ _ ?_ (fun hHeld => ?_)
      ·((try dsimp only); go_keep)
      clear hK K
      try simp only [Act.put, List.setIfInBounds_toArray, List.set_cons_zero, List.set_cons_succ]
      refine wpAnyH_done (by kernel_rfl) ?_ _
      go_wp2
      go_roundw
      case rel => exact ⟨hbv.drew, j + 1, by omega, by go_num, NX.out HE.out⟩
      case measure => simp [intOf]; omega
    ·have hjN : j = N1 := by omega
     have HF1 : Hid (l1 = m1) := (HLE1.out (by rw [HN1.out, HM1.out])).2 fun i h1 h2 => hp.out i h1 h2 (by rw [hjN, ← HN1.out]; exact h1)
     have HBW1 : Hid (Below V.heap.size V wr) := hbv
     subst hjN
     clear hp hbv
     go_wp2
     go_loopw [7] (fun iv wr => Below V.heap.size V wr ∧ ∃ j : Nat, j ≤ N2 ∧ iv = .int .i64 j ∧ Hid (∀ i (h1 : i < l2.length) (h2 : i < m2.length), i < j → l2[i] = m2[i])) (fun iv _ => N2 - (intOf iv).toNat)
     case atStart => exact ⟨HBW1.out, 0, Nat.zero_le _, rfl, fun i _ _ hi => absurd hi (Nat.not_lt_zero _)⟩
     case round =>
      obtain ⟨hbv, j, hj, rfl, hp⟩ := hrel
      obtain ⟨⟨g0, g1, g2, g3⟩, g4, g5, g6, g7⟩ := HBV.out wr hbv
      by_cases hlt : j < N2
      ·have h1 : j < l2.length := by rw [HN2.out]; exact hlt
       have h2 : j < m2.length := by rw [HM2.out]; exact hlt
       obtain ⟨b, o, rfl, hx⟩ := HV2.out.at h1
       obtain ⟨b', o', rfl, hy⟩ := HU2.out.at h2
       have hx' := hx.below (bel HB0.out hbv)
       have hy' := hy.below (bel HB0.out hbv)
       have x0 := hx'.at 0 rfl
       have w0 := hy'.at 0 rfl
       have x1 := hx'.at 1 rfl
       have w1 := hy'.at 1 rfl
       have x2 := hx'.at 2 rfl
       have w2 := hy'.at 2 rfl
       have x3 := hx'.at 3 rfl
       have w3 := hy'.at 3 rfl
       have x4 := hx'.at 4 rfl
       have w4 := hy'.at 4 rfl
       rw [Nat.add_zero] at x0 w0
       have NE := neq_Sl l2[j] m2[j]
       have NX : Hid (l2[j] = m2[j] → ∀ i (h1 : i < l2.length) (h2 : i < m2.length), i < j + 1 → l2[i] = m2[i]) := fun e i h1 h2 hi => by
        by_cases e' : i = j
        ·subst e'; exact e
        ·exact hp.out i h1 h2 (by omega)
       have NB : Hid (¬ l2[j] = m2[j] → R = false) := fun e => by
        rw [← HR.out]
        have : decide (l2 = m2) = false := decide_eq_false fun e2 => e ((HLE2.out (by rw [HN2.out, HM2.out])).1 e2 j h1 h2)
        rw [this]; simp
       obtain ⟨X, hX⟩ : ∃ X, l2[j] = X := ⟨_, rfl⟩
       obtain ⟨Y, hY⟩ : ∃ Y, m2[j] = Y := ⟨_, rfl⟩
       rw [hX] at x0 x1 x2 x3 x4 NX NB
       rw [hY] at w0 w1 w2 w3 w4 NX NB
       simp only [hX, hY] at NE
       obtain ⟨D, hD⟩ : ∃ D, decide (X = Y) = D := ⟨_, rfl⟩
       simp only [hD] at NE
       unfold slV at NE
       have HNE : Hid (∀ w, (binOp .neq 60 (.agg #[.int .i64 X.ty.kind, .int .i64 X.ty.par, .bool X.keep, .int .u32 X.bits, .int .i64 X.int_]) (.agg #[.int .i64 Y.ty.kind, .int .i64 Y.ty.par, .bool Y.keep, .int .u32 Y.bits, .int .i64 Y.int_])).run Tryz.prog w = .ok (.bool (!D)) w) := NE
       have i1 : (0 : Int) ≤ (j : Int) := by omega
       have i2 : (j : Int) < (N2 : Int) := by omega
       clear NE hX hY hp hx hy hx' hy'
       cases D
       ·have HB : Hid (¬ X = Y) := (show ¬ X = Y from of_decide_eq_false hD)
        clear hD
        go_wp2
        refine wp_region_held_drew (S := (fun v => v.cell? ⟨w.heap.size, 2, none⟩ = some (.slice (some ⟨b, o, none⟩) N2 c2) ∧ v.cell? ⟨w.heap.size + 1, 2, none⟩ = some (.slice (some ⟨b', o', none⟩) N2 d2) ∧ v.cell? ⟨b, o + j * 5, none⟩ = some (.int .i64 X.ty.kind) ∧ v.cell? ⟨b, o + j * 5 + 1, none⟩ = some (.int .i64 X.ty.par) ∧ v.cell? ⟨b, o + j * 5 + 2, none⟩ = some (.bool X.keep) ∧ v.cell? ⟨b, o + j * 5 + 3, none⟩ = some (.int .u32 X.bits) ∧ v.cell? ⟨b, o + j * 5 + 4, none⟩ = some (.int .i64 X.int_) ∧ v.cell? ⟨b', o' + j * 5, none⟩ = some (.int .i64 Y.ty.kind) ∧ v.cell? ⟨b', o' + j * 5 + 1, none⟩ = some (.int .i64 Y.ty.par) ∧ v.cell? ⟨b', o' + j * 5 + 2, none⟩ = some (.bool Y.keep) ∧ v.cell? ⟨b', o' + j * 5 + 3, none⟩ = some (.int .u32 Y.bits) ∧ v.cell? ⟨b', o' + j * 5 + 4, none⟩ = some (.int .i64 Y.int_))) (by kernel_rfl) ?_ (fun hHeld => ?_)
        ·((try dsimp only); go_keep)
        refine tkT 0 ?_
        refine tkT 1 ?_
        refine tkT 2 ?_
        refine tkT 3 ?_
        refine tkT 4 ?_
        refine tkT 5 ?_
        refine tkT 6 ?_
        refine tkT 7 ?_
        refine tkT 8 ?_
        refine tkT 9 ?_
        clear hHeld
        refine wpAnyH_ready (rs := [10]) (by kernel_rfl) (by simp) ?_
        refine AllReadyH.cons (i := 10) (by simp only [List.getElem?_toArray, List.getElem?_cons_succ, List.getElem?_cons_zero]; rfl) (fun K hK => ?_) AllReadyH.nil
        refine step_bin (by rfl) _ _ _ _ (by rfl) _ _ _ (by rfl) (by rfl) (grd_Sl _ _ X Y _) (HNE.out _) ?_
        refine hK.out _ _ ?_ (fun hHeld => ?_)
        ·((try dsimp only); go_keep)
        clear hK K
        try simp only [Act.put, List.setIfInBounds_toArray, List.set_cons_zero, List.set_cons_succ]
        refine wpAnyH_done (by kernel_rfl) ?_ _
        go_wp2
        go_ret
        exact ⟨ret_bool (NB.out HB.out).symm, (bel HB0.out hbv).drew⟩
       ·have HE : Hid (X = Y) := (show X = Y from of_decide_eq_true hD)
        clear hD
        go_wp2
        refine wp_region_held_drew (S := (fun v => v.cell? ⟨w.heap.size, 2, none⟩ = some (.slice (some ⟨b, o, none⟩) N2 c2) ∧ v.cell? ⟨w.heap.size + 1, 2, none⟩ = some (.slice (some ⟨b', o', none⟩) N2 d2) ∧ v.cell? ⟨b, o + j * 5, none⟩ = some (.int .i64 X.ty.kind) ∧ v.cell? ⟨b, o + j * 5 + 1, none⟩ = some (.int .i64 X.ty.par) ∧ v.cell? ⟨b, o + j * 5 + 2, none⟩ = some (.bool X.keep) ∧ v.cell? ⟨b, o + j * 5 + 3, none⟩ = some (.int .u32 X.bits) ∧ v.cell? ⟨b, o + j * 5 + 4, none⟩ = some (.int .i64 X.int_) ∧ v.cell? ⟨b', o' + j * 5, none⟩ = some (.int .i64 Y.ty.kind) ∧ v.cell? ⟨b', o' + j * 5 + 1, none⟩ = some (.int .i64 Y.ty.par) ∧ v.cell? ⟨b', o' + j * 5 + 2, none⟩ = some (.bool Y.keep) ∧ v.cell? ⟨b', o' + j * 5 + 3, none⟩ = some (.int .u32 Y.bits) ∧ v.cell? ⟨b', o' + j * 5 + 4, none⟩ = some (.int .i64 Y.int_))) (by kernel_rfl) ?_ (fun hHeld => ?_)
        ·((try dsimp only); go_keep)
        refine tkT 0 ?_
        refine tkT 1 ?_
        refine tkT 2 ?_
        refine tkT 3 ?_
        refine tkT 4 ?_
        refine tkT 5 ?_
        refine tkT 6 ?_
        refine tkT 7 ?_
        refine tkT 8 ?_
        refine tkT 9 ?_
        clear hHeld
        refine wpAnyH_ready (rs := [10]) (by kernel_rfl) (by simp) ?_
        refine AllReadyH.cons (i := 10) (by simp only [List.getElem?_toArray, List.getElem?_cons_succ, List.getElem?_cons_zero]; rfl) (fun K hK => ?_) AllReadyH.nil
        refine step_bin (by rfl) _ _ _ _ (by rfl) _ _ _ (by rfl) (by rfl) (grd_Sl _ _ X Y _) (HNE.out _) ?_
        refine hK.out _ _ ?_ (fun hHeld => ?_)
        ·((try dsimp only); go_keep)
        clear hK K
        try simp only [Act.put, List.setIfInBounds_toArray, List.set_cons_zero, List.set_cons_succ]
        refine wpAnyH_done (by kernel_rfl) ?_ _
        go_wp2
        go_roundw
        case rel => exact ⟨hbv.drew, j + 1, by omega, by go_num, NX.out HE.out⟩
        case measure => simp [intOf]; omega
      ·have hjN : j = N2 := by omega
       have HF2 : Hid (l2 = m2) := (HLE2.out (by rw [HN2.out, HM2.out])).2 fun i h1 h2 => hp.out i h1 h2 (by rw [hjN, ← HN2.out]; exact h1)
       have HBW2 : Hid (Below V.heap.size V wr) := hbv
       subst hjN
       clear hp hbv
       go_wp2
       go_loopw [8] (fun iv wr => Below V.heap.size V wr ∧ ∃ j : Nat, j ≤ N3 ∧ iv = .int .i64 j ∧ Hid (∀ i (h1 : i < l3.length) (h2 : i < m3.length), i < j → l3[i] = m3[i])) (fun iv _ => N3 - (intOf iv).toNat)
       case atStart => exact ⟨HBW2.out, 0, Nat.zero_le _, rfl, fun i _ _ hi => absurd hi (Nat.not_lt_zero _)⟩
       case round =>
        obtain ⟨hbv, j, hj, rfl, hp⟩ := hrel
        obtain ⟨⟨g0, g1, g2, g3⟩, g4, g5, g6, g7⟩ := HBV.out wr hbv
        by_cases hlt : j < N3
        ·have h1 : j < l3.length := by rw [HN3.out]; exact hlt
         have h2 : j < m3.length := by rw [HM3.out]; exact hlt
         obtain ⟨b, o, rfl, hx⟩ := HV3.out.at h1
         obtain ⟨b', o', rfl, hy⟩ := HU3.out.at h2
         have hx' := hx.below (bel HB0.out hbv)
         have hy' := hy.below (bel HB0.out hbv)
         have x0 := hx'.at 0 rfl
         have w0 := hy'.at 0 rfl
         have x1 := hx'.at 1 rfl
         have w1 := hy'.at 1 rfl
         have x2 := hx'.at 2 rfl
         have w2 := hy'.at 2 rfl
         have x3 := hx'.at 3 rfl
         have w3 := hy'.at 3 rfl
         have x4 := hx'.at 4 rfl
         have w4 := hy'.at 4 rfl
         have x5 := hx'.at 5 rfl
         have w5 := hy'.at 5 rfl
         have x6 := hx'.at 6 rfl
         have w6 := hy'.at 6 rfl
         rw [Nat.add_zero] at x0 w0
         have NE := neq_Ins l3[j] m3[j]
         have NX : Hid (l3[j] = m3[j] → ∀ i (h1 : i < l3.length) (h2 : i < m3.length), i < j + 1 → l3[i] = m3[i]) := fun e i h1 h2 hi => by
          by_cases e' : i = j
          ·subst e'; exact e
          ·exact hp.out i h1 h2 (by omega)
         have NB : Hid (¬ l3[j] = m3[j] → R = false) := fun e => by
          rw [← HR.out]
          have : decide (l3 = m3) = false := decide_eq_false fun e2 => e ((HLE3.out (by rw [HN3.out, HM3.out])).1 e2 j h1 h2)
          rw [this]; simp
         obtain ⟨X, hX⟩ : ∃ X, l3[j] = X := ⟨_, rfl⟩
         obtain ⟨Y, hY⟩ : ∃ Y, m3[j] = Y := ⟨_, rfl⟩
         rw [hX] at x0 x1 x2 x3 x4 x5 x6 NX NB
         rw [hY] at w0 w1 w2 w3 w4 w5 w6 NX NB
         simp only [hX, hY] at NE
         obtain ⟨D, hD⟩ : ∃ D, decide (X = Y) = D := ⟨_, rfl⟩
         simp only [hD] at NE
         unfold insV at NE
         have HNE : Hid (∀ w, (binOp .neq 46 (.agg #[.int .i64 X.op, .int .i64 X.d, .int .i64 X.a, .int .i64 X.b, .int .i64 X.c, .int .i64 X.n, .int .u32 X.bits]) (.agg #[.int .i64 Y.op, .int .i64 Y.d, .int .i64 Y.a, .int .i64 Y.b, .int .i64 Y.c, .int .i64 Y.n, .int .u32 Y.bits])).run Tryz.prog w = .ok (.bool (!D)) w) := NE
         have i1 : (0 : Int) ≤ (j : Int) := by omega
         have i2 : (j : Int) < (N3 : Int) := by omega
         clear NE hX hY hp hx hy hx' hy'
         cases D
         ·have HB : Hid (¬ X = Y) := (show ¬ X = Y from of_decide_eq_false hD)
          clear hD
          go_wp2
          refine wp_region_held_drew (S := (fun v => v.cell? ⟨w.heap.size, 3, none⟩ = some (.slice (some ⟨b, o, none⟩) N3 c3) ∧ v.cell? ⟨w.heap.size + 1, 3, none⟩ = some (.slice (some ⟨b', o', none⟩) N3 d3) ∧ v.cell? ⟨b, o + j * 7, none⟩ = some (.int .i64 X.op) ∧ v.cell? ⟨b, o + j * 7 + 1, none⟩ = some (.int .i64 X.d) ∧ v.cell? ⟨b, o + j * 7 + 2, none⟩ = some (.int .i64 X.a) ∧ v.cell? ⟨b, o + j * 7 + 3, none⟩ = some (.int .i64 X.b) ∧ v.cell? ⟨b, o + j * 7 + 4, none⟩ = some (.int .i64 X.c) ∧ v.cell? ⟨b, o + j * 7 + 5, none⟩ = some (.int .i64 X.n) ∧ v.cell? ⟨b, o + j * 7 + 6, none⟩ = some (.int .u32 X.bits) ∧ v.cell? ⟨b', o' + j * 7, none⟩ = some (.int .i64 Y.op) ∧ v.cell? ⟨b', o' + j * 7 + 1, none⟩ = some (.int .i64 Y.d) ∧ v.cell? ⟨b', o' + j * 7 + 2, none⟩ = some (.int .i64 Y.a) ∧ v.cell? ⟨b', o' + j * 7 + 3, none⟩ = some (.int .i64 Y.b) ∧ v.cell? ⟨b', o' + j * 7 + 4, none⟩ = some (.int .i64 Y.c) ∧ v.cell? ⟨b', o' + j * 7 + 5, none⟩ = some (.int .i64 Y.n) ∧ v.cell? ⟨b', o' + j * 7 + 6, none⟩ = some (.int .u32 Y.bits))) (by kernel_rfl) ?_ (fun hHeld => ?_)
          ·((try dsimp only); go_keep)
          refine tkT 0 ?_
          refine tkT 1 ?_
          refine tkT 2 ?_
          refine tkT 3 ?_
          refine tkT 4 ?_
          refine tkT 5 ?_
          refine tkT 6 ?_
          refine tkT 7 ?_
          refine tkT 8 ?_
          refine tkT 9 ?_
          clear hHeld
          refine wpAnyH_ready (rs := [10]) (by kernel_rfl) (by simp) ?_
          refine AllReadyH.cons (i := 10) (by simp only [List.getElem?_toArray, List.getElem?_cons_succ, List.getElem?_cons_zero]; rfl) (fun K hK => ?_) AllReadyH.nil
          refine step_bin (by rfl) _ _ _ _ (by rfl) _ _ _ (by rfl) (by rfl) (grd_Ins _ _ X Y _) (HNE.out _) ?_
          refine hK.out _ _ ?_ (fun hHeld => ?_)
          ·((try dsimp only); go_keep)
          clear hK K
          try simp only [Act.put, List.setIfInBounds_toArray, List.set_cons_zero, List.set_cons_succ]
          refine wpAnyH_done (by kernel_rfl) ?_ _
          go_wp2
          go_ret
          exact ⟨ret_bool (NB.out HB.out).symm, (bel HB0.out hbv).drew⟩
         ·have HE : Hid (X = Y) := (show X = Y from of_decide_eq_true hD)
          clear hD
          go_wp2
          refine wp_region_held_drew (S := (fun v => v.cell? ⟨w.heap.size, 3, none⟩ = some (.slice (some ⟨b, o, none⟩) N3 c3) ∧ v.cell? ⟨w.heap.size + 1, 3, none⟩ = some (.slice (some ⟨b', o', none⟩) N3 d3) ∧ v.cell? ⟨b, o + j * 7, none⟩ = some (.int .i64 X.op) ∧ v.cell? ⟨b, o + j * 7 + 1, none⟩ = some (.int .i64 X.d) ∧ v.cell? ⟨b, o + j * 7 + 2, none⟩ = some (.int .i64 X.a) ∧ v.cell? ⟨b, o + j * 7 + 3, none⟩ = some (.int .i64 X.b) ∧ v.cell? ⟨b, o + j * 7 + 4, none⟩ = some (.int .i64 X.c) ∧ v.cell? ⟨b, o + j * 7 + 5, none⟩ = some (.int .i64 X.n) ∧ v.cell? ⟨b, o + j * 7 + 6, none⟩ = some (.int .u32 X.bits) ∧ v.cell? ⟨b', o' + j * 7, none⟩ = some (.int .i64 Y.op) ∧ v.cell? ⟨b', o' + j * 7 + 1, none⟩ = some (.int .i64 Y.d) ∧ v.cell? ⟨b', o' + j * 7 + 2, none⟩ = some (.int .i64 Y.a) ∧ v.cell? ⟨b', o' + j * 7 + 3, none⟩ = some (.int .i64 Y.b) ∧ v.cell? ⟨b', o' + j * 7 + 4, none⟩ = some (.int .i64 Y.c) ∧ v.cell? ⟨b', o' + j * 7 + 5, none⟩ = some (.int .i64 Y.n) ∧ v.cell? ⟨b', o' + j * 7 + 6, none⟩ = some (.int .u32 Y.bits))) (by kernel_rfl) ?_ (fun hHeld => ?_)
          ·((try dsimp only); go_keep)
          refine tkT 0 ?_
          refine tkT 1 ?_
          refine tkT 2 ?_
          refine tkT 3 ?_
          refine tkT 4 ?_
          refine tkT 5 ?_
          refine tkT 6 ?_
          refine tkT 7 ?_
          refine tkT 8 ?_
          refine tkT 9 ?_
          clear hHeld
          refine wpAnyH_ready (rs := [10]) (by kernel_rfl) (by simp) ?_
          refine AllReadyH.cons (i := 10) (by simp only [List.getElem?_toArray, List.getElem?_cons_succ, List.getElem?_cons_zero]; rfl) (fun K hK => ?_) AllReadyH.nil
          refine step_bin (by rfl) _ _ _ _ (by rfl) _ _ _ (by rfl) (by rfl) (grd_Ins _ _ X Y _) (HNE.out _) ?_
          refine hK.out _ _ ?_ (fun hHeld => ?_)
          ·((try dsimp only); go_keep)
          clear hK K
          try simp only [Act.put, List.setIfInBounds_toArray, List.set_cons_zero, List.set_cons_succ]
          refine wpAnyH_done (by kernel_rfl) ?_ _
          go_wp2
          go_roundw
          case rel => exact ⟨hbv.drew, j + 1, by omega, by go_num, NX.out HE.out⟩
          case measure => simp [intOf]; omega
        ·have hjN : j = N3 := by omega
         have HF3 : Hid (l3 = m3) := (HLE3.out (by rw [HN3.out, HM3.out])).2 fun i h1 h2 => hp.out i h1 h2 (by rw [hjN, ← HN3.out]; exact h1)
         have HBW3 : Hid (Below V.heap.size V wr) := hbv
         subst hjN
         clear hp hbv
         go_wp2
         go_ret
         exact ⟨ret_bool (by rw [← HR.out, HF0.out, HF1.out, HF2.out, HF3.out]; simp), bel HB0.out HBW3.out⟩
end Go.Proofs.YtgcmnkanjcfndaaGreatDoor
namespace Go.Proofs.YtgcmnkanjcfndaaGreatDoor
open Go.RowKit
set_option linter.unusedVariables false
set_option linter.unusedSimpArgs false
theorem parC_one : ∀ x : Par, ∀ u ∈ parCells x, u.oneCell' = true := fun x u hu => by simp [parCells] at hu; rcases hu with rfl | rfl | rfl <;> rfl
theorem tyC_one : ∀ x : Ty, ∀ u ∈ tyC x, u.oneCell' = true := fun x u hu => by simp [tyC] at hu; rcases hu with rfl | rfl <;> rfl
theorem slC_one : ∀ x : Sl, ∀ u ∈ slC x, u.oneCell' = true := fun x u hu => by simp [slC] at hu; rcases hu with rfl | rfl | rfl | rfl | rfl <;> rfl
theorem info_Type : (Tryz.prog.info? 50).map (fun i => (i.zero, i.size, i.bytes)) = some (some (.agg #[.int .i64 0, .int .i64 0]), 2, 16) := by kernel_rfl
theorem info_Slot : (Tryz.prog.info? 60).map (fun i => (i.zero, i.size, i.bytes)) = some (some (.agg #[.int .i64 0, .int .i64 0, .bool false, .int .u32 0, .int .i64 0]), 5, 32) := by kernel_rfl
def f4 (a b c d : Value) (j : Nat) : Value := if j = 0 then a else if j = 1 then b else if j = 2 then c else d
structure Own4 (B : Nat) (w : World) (u0 u1 u2 u3 : Value) (c : Cd) : Prop where
 sign : w.ownsRow B 48 3 u0 c.sign.length (flat parCells c.sign)
 regs : w.ownsRow B 50 2 u1 c.regs.length (flat tyC c.regs)
 slots : w.ownsRow B 60 5 u2 c.slots.length (flat slC c.slots)
 list : w.ownsRow B 46 7 u3 c.list.length (flat inC c.list)
structure CdSz (c : Cd) : Prop where
 s : c.sign.length * 32 ≤ 140737488351232
 r : c.regs.length * 16 ≤ 140737488351232
 l : c.slots.length * 32 ≤ 140737488351232
 i : c.list.length * 56 ≤ 140737488351232
end Go.Proofs.YtgcmnkanjcfndaaGreatDoor
namespace Go.Proofs.YtgcmnkanjcfndaaGreatDoor
open Go.RowKit
set_option linter.unusedVariables false
set_option linter.unusedSimpArgs false
theorem hidC {p : Prop} (h : p) : Hid p := h
theorem q4_new (w : World) (t : TypeId) (v0 v1 v2 v3 : Value) : (w.alloc (.cells #[v0, v1, v2, v3] t)).rowIs w.heap.size t 4 (f4 v0 v1 v2 v3) :=
 World.rowIs_alloc w #[v0, v1, v2, v3] t _ (fun i hi => by rcases (show i = 0 ∨ i = 1 ∨ i = 2 ∨ i = 3 by have : i < 4 := hi; omega) with rfl | rfl | rfl | rfl <;> rfl)
structure PutR (C : Nat) (V V' : World) : Prop where
 oth : ∀ b, b ≠ C → V'.heap[b]? = V.heap[b]?
 bel : ∀ B, B ≤ C → Below B V V'
theorem PutR.one (C o : Nat) (V : World) (v : Value) : PutR C V (V.setCell ⟨C, o, none⟩ v) := ⟨fun b h => Below.heap_setCell _ _ _ _ h, fun B h => (Below.refl _ _).setCell h _⟩
theorem PutR.trans {C : Nat} {V V' V'' : World} (h : PutR C V V') (k : PutR C V' V'') : PutR C V V'' := ⟨fun b hb => (k.oth b hb).trans (h.oth b hb), fun B hB => (h.bel B hB).trans (k.bel B hB)⟩
theorem put4 {V : World} {C : Nat} {t : TypeId} {f : Nat → Value} (rc : V.rowIs C t 4 f) (v0 v1 v2 v3 : Value) : ((((V.setCell ⟨C, 0, none⟩ v0).setCell ⟨C, 1, none⟩ v1).setCell ⟨C, 2, none⟩ v2).setCell ⟨C, 3, none⟩ v3).rowIs C t 4 (f4 v0 v1 v2 v3) ∧ PutR C V ((((V.setCell ⟨C, 0, none⟩ v0).setCell ⟨C, 1, none⟩ v1).setCell ⟨C, 2, none⟩ v2).setCell ⟨C, 3, none⟩ v3) := by
 refine ⟨((((rc.set 0 v0).set 1 v1).set 2 v2).set 3 v3).congr fun j hj => ?_, (((PutR.one C 0 V v0).trans (PutR.one C 1 _ v1)).trans (PutR.one C 2 _ v2)).trans (PutR.one C 3 _ v3)⟩
 rcases (show j = 0 ∨ j = 1 ∨ j = 2 ∨ j = 3 by omega) with rfl | rfl | rfl | rfl <;> rfl
theorem c4 {w : World} {b : Nat} {t : TypeId} {v0 v1 v2 v3 : Value} (h : w.rowIs b t 4 (f4 v0 v1 v2 v3)) : w.cell? ⟨b, 0, none⟩ = some v0 ∧ w.cell? ⟨b, 1, none⟩ = some v1 ∧ w.cell? ⟨b, 2, none⟩ = some v2 ∧ w.cell? ⟨b, 3, none⟩ = some v3 := ⟨h.cell (i := 0) (by decide), h.cell (i := 1) (by decide), h.cell (i := 2) (by decide), h.cell (i := 3) (by decide)⟩
theorem z4 {w : World} {b n : Nat} {t : TypeId} {f : Nat → Value} (h : w.rowIs b t n f) : w.frozen? ⟨b, 0, none⟩ = false ∧ w.frozen? ⟨b, 1, none⟩ = false ∧ w.frozen? ⟨b, 2, none⟩ = false ∧ w.frozen? ⟨b, 3, none⟩ = false := ⟨h.frozen 0, h.frozen 1, h.frozen 2, h.frozen 3⟩
def g2 (a0 a1 : Value) (k : Nat) : Value := if k = 0 then a0 else a1
theorem q2_new (w : World) (t : TypeId) (a0 a1 : Value) : (w.alloc (.cells #[a0, a1] t)).rowIs w.heap.size t 2 (g2 a0 a1) :=
 World.rowIs_alloc w #[a0, a1] t _ (fun i hi => by rcases (show i = 0 ∨ i = 1 by have : i < 2 := hi; omega) with rfl | rfl <;> rfl)
theorem put2r {V : World} {C : Nat} {t : TypeId} {f : Nat → Value} (rc : V.rowIs C t 2 f) (a0 a1 : Value) : ((V.setCell ⟨C, 0, none⟩ a0).setCell ⟨C, 1, none⟩ a1).rowIs C t 2 (g2 a0 a1) ∧ PutR C V ((V.setCell ⟨C, 0, none⟩ a0).setCell ⟨C, 1, none⟩ a1) := by
 refine ⟨((rc.set 0 a0).set 1 a1).congr fun j hj => ?_, (PutR.one C 0 V a0).trans (PutR.one C 1 _ a1)⟩
 rcases (show j = 0 ∨ j = 1 by omega) with rfl | rfl <;> rfl
theorem put2_1 {V : World} {C : Nat} {t : TypeId} {a0 a1 : Value} (rc : V.rowIs C t 2 (g2 a0 a1)) (v : Value) : (V.setCell ⟨C, 1, none⟩ v).rowIs C t 2 (g2 a0 v) ∧ PutR C V (V.setCell ⟨C, 1, none⟩ v) := by
 refine ⟨(rc.set 1 v).congr fun j hj => ?_, PutR.one C 1 V v⟩
 rcases (show j = 0 ∨ j = 1 by omega) with rfl | rfl <;> rfl
theorem c2 {w : World} {b : Nat} {t : TypeId} {a0 a1 : Value} (h : w.rowIs b t 2 (g2 a0 a1)) : w.cell? ⟨b, 0, none⟩ = some a0 ∧ w.cell? ⟨b, 1, none⟩ = some a1 := ⟨h.cell (i := 0) (by decide), h.cell (i := 1) (by decide)⟩
theorem z2 {w : World} {b n : Nat} {t : TypeId} {f : Nat → Value} (h : w.rowIs b t n f) : w.frozen? ⟨b, 0, none⟩ = false ∧ w.frozen? ⟨b, 1, none⟩ = false := ⟨h.frozen 0, h.frozen 1⟩
def g3 (a0 a1 a2 : Value) (k : Nat) : Value := if k = 0 then a0 else if k = 1 then a1 else a2
theorem q3_new (w : World) (t : TypeId) (a0 a1 a2 : Value) : (w.alloc (.cells #[a0, a1, a2] t)).rowIs w.heap.size t 3 (g3 a0 a1 a2) :=
 World.rowIs_alloc w #[a0, a1, a2] t _ (fun i hi => by rcases (show i = 0 ∨ i = 1 ∨ i = 2 by have : i < 3 := hi; omega) with rfl | rfl | rfl <;> rfl)
theorem c3 {w : World} {b : Nat} {t : TypeId} {a0 a1 a2 : Value} (h : w.rowIs b t 3 (g3 a0 a1 a2)) : w.cell? ⟨b, 0, none⟩ = some a0 ∧ w.cell? ⟨b, 1, none⟩ = some a1 ∧ w.cell? ⟨b, 2, none⟩ = some a2 := ⟨h.cell (i := 0) (by decide), h.cell (i := 1) (by decide), h.cell (i := 2) (by decide)⟩
theorem z3 {w : World} {b n : Nat} {t : TypeId} {f : Nat → Value} (h : w.rowIs b t n f) : w.frozen? ⟨b, 0, none⟩ = false ∧ w.frozen? ⟨b, 1, none⟩ = false ∧ w.frozen? ⟨b, 2, none⟩ = false := ⟨h.frozen 0, h.frozen 1, h.frozen 2⟩
def g5 (a0 a1 a2 a3 a4 : Value) (k : Nat) : Value := if k = 0 then a0 else if k = 1 then a1 else if k = 2 then a2 else if k = 3 then a3 else a4
theorem q5_new (w : World) (t : TypeId) (a0 a1 a2 a3 a4 : Value) : (w.alloc (.cells #[a0, a1, a2, a3, a4] t)).rowIs w.heap.size t 5 (g5 a0 a1 a2 a3 a4) :=
 World.rowIs_alloc w #[a0, a1, a2, a3, a4] t _ (fun i hi => by rcases (show i = 0 ∨ i = 1 ∨ i = 2 ∨ i = 3 ∨ i = 4 by have : i < 5 := hi; omega) with rfl | rfl | rfl | rfl | rfl <;> rfl)
theorem put5_3 {V : World} {C : Nat} {t : TypeId} {a0 a1 a2 a3 a4 : Value} (rc : V.rowIs C t 5 (g5 a0 a1 a2 a3 a4)) (v : Value) : (V.setCell ⟨C, 3, none⟩ v).rowIs C t 5 (g5 a0 a1 a2 v a4) ∧ PutR C V (V.setCell ⟨C, 3, none⟩ v) := by
 refine ⟨(rc.set 3 v).congr fun j hj => ?_, PutR.one C 3 V v⟩
 rcases (show j = 0 ∨ j = 1 ∨ j = 2 ∨ j = 3 ∨ j = 4 by omega) with rfl | rfl | rfl | rfl | rfl <;> rfl
theorem put5_4 {V : World} {C : Nat} {t : TypeId} {a0 a1 a2 a3 a4 : Value} (rc : V.rowIs C t 5 (g5 a0 a1 a2 a3 a4)) (v : Value) : (V.setCell ⟨C, 4, none⟩ v).rowIs C t 5 (g5 a0 a1 a2 a3 v) ∧ PutR C V (V.setCell ⟨C, 4, none⟩ v) := by
 refine ⟨(rc.set 4 v).congr fun j hj => ?_, PutR.one C 4 V v⟩
 rcases (show j = 0 ∨ j = 1 ∨ j = 2 ∨ j = 3 ∨ j = 4 by omega) with rfl | rfl | rfl | rfl | rfl <;> rfl
theorem c5 {w : World} {b : Nat} {t : TypeId} {a0 a1 a2 a3 a4 : Value} (h : w.rowIs b t 5 (g5 a0 a1 a2 a3 a4)) : w.cell? ⟨b, 0, none⟩ = some a0 ∧ w.cell? ⟨b, 1, none⟩ = some a1 ∧ w.cell? ⟨b, 2, none⟩ = some a2 ∧ w.cell? ⟨b, 3, none⟩ = some a3 ∧ w.cell? ⟨b, 4, none⟩ = some a4 := ⟨h.cell (i := 0) (by decide), h.cell (i := 1) (by decide), h.cell (i := 2) (by decide), h.cell (i := 3) (by decide), h.cell (i := 4) (by decide)⟩
theorem z5 {w : World} {b n : Nat} {t : TypeId} {f : Nat → Value} (h : w.rowIs b t n f) : w.frozen? ⟨b, 0, none⟩ = false ∧ w.frozen? ⟨b, 1, none⟩ = false ∧ w.frozen? ⟨b, 2, none⟩ = false ∧ w.frozen? ⟨b, 3, none⟩ = false ∧ w.frozen? ⟨b, 4, none⟩ = false := ⟨h.frozen 0, h.frozen 1, h.frozen 2, h.frozen 3, h.frozen 4⟩
def g7 (a0 a1 a2 a3 a4 a5 a6 : Value) (k : Nat) : Value := if k = 0 then a0 else if k = 1 then a1 else if k = 2 then a2 else if k = 3 then a3 else if k = 4 then a4 else if k = 5 then a5 else a6
theorem q7_new (w : World) (t : TypeId) (a0 a1 a2 a3 a4 a5 a6 : Value) : (w.alloc (.cells #[a0, a1, a2, a3, a4, a5, a6] t)).rowIs w.heap.size t 7 (g7 a0 a1 a2 a3 a4 a5 a6) :=
 World.rowIs_alloc w #[a0, a1, a2, a3, a4, a5, a6] t _ (fun i hi => by rcases (show i = 0 ∨ i = 1 ∨ i = 2 ∨ i = 3 ∨ i = 4 ∨ i = 5 ∨ i = 6 by have : i < 7 := hi; omega) with rfl | rfl | rfl | rfl | rfl | rfl | rfl <;> rfl)
theorem c7 {w : World} {b : Nat} {t : TypeId} {a0 a1 a2 a3 a4 a5 a6 : Value} (h : w.rowIs b t 7 (g7 a0 a1 a2 a3 a4 a5 a6)) : w.cell? ⟨b, 0, none⟩ = some a0 ∧ w.cell? ⟨b, 1, none⟩ = some a1 ∧ w.cell? ⟨b, 2, none⟩ = some a2 ∧ w.cell? ⟨b, 3, none⟩ = some a3 ∧ w.cell? ⟨b, 4, none⟩ = some a4 ∧ w.cell? ⟨b, 5, none⟩ = some a5 ∧ w.cell? ⟨b, 6, none⟩ = some a6 := ⟨h.cell (i := 0) (by decide), h.cell (i := 1) (by decide), h.cell (i := 2) (by decide), h.cell (i := 3) (by decide), h.cell (i := 4) (by decide), h.cell (i := 5) (by decide), h.cell (i := 6) (by decide)⟩
theorem z7 {w : World} {b n : Nat} {t : TypeId} {f : Nat → Value} (h : w.rowIs b t n f) : w.frozen? ⟨b, 0, none⟩ = false ∧ w.frozen? ⟨b, 1, none⟩ = false ∧ w.frozen? ⟨b, 2, none⟩ = false ∧ w.frozen? ⟨b, 3, none⟩ = false ∧ w.frozen? ⟨b, 4, none⟩ = false ∧ w.frozen? ⟨b, 5, none⟩ = false ∧ w.frozen? ⟨b, 6, none⟩ = false := ⟨h.frozen 0, h.frozen 1, h.frozen 2, h.frozen 3, h.frozen 4, h.frozen 5, h.frozen 6⟩
end Go.Proofs.YtgcmnkanjcfndaaGreatDoor
