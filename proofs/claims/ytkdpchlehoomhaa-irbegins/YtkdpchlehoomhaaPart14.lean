import Derived.Test.YtkdpchlehoomhaaPart13
import Derived.Test.YtkdpchlehoomhaaPart1
namespace Go.Proofs.Ytkdpchlehoomhaa
open Go.RowKit
set_option linter.unusedVariables false
set_option linter.unusedSimpArgs false
theorem parC_one : ∀ x : Par, ∀ u ∈ parCells x, u.oneCell' = true := fun x u hu => by simp [parCells] at hu; rcases hu with rfl | rfl | rfl <;> rfl
theorem tyC_one : ∀ x : Ty, ∀ u ∈ tyC x, u.oneCell' = true := fun x u hu => by simp [tyC] at hu; rcases hu with rfl | rfl <;> rfl
theorem slC_one : ∀ x : Sl, ∀ u ∈ slC x, u.oneCell' = true := fun x u hu => by simp [slC] at hu; rcases hu with rfl | rfl | rfl | rfl | rfl <;> rfl
theorem info_Type : (Try.prog.info? 65).map (fun i => (i.zero, i.size, i.bytes)) = some (some (.agg #[.int .i64 0, .int .i64 0]), 2, 16) := by kernel_rfl
theorem info_Slot : (Try.prog.info? 68).map (fun i => (i.zero, i.size, i.bytes)) = some (some (.agg #[.int .i64 0, .int .i64 0, .bool false, .int .u32 0, .int .i64 0]), 5, 32) := by kernel_rfl
theorem app_Par {l : List Par} {v : Value} {w : World} (h : RowG 3 parCells w v l) (hl : l.length * 32 ≤ 140737488355328) (ty : TypeId) :
  ∃ v' w', (Builtin.append_ #[31, 31] ty #[.slice none 0 0, v]).run Try.prog w = .ok v' w' ∧ Below w.heap.size w w' ∧ w'.ownsRow w.heap.size 62 3 v' l.length (flat parCells l) := by
 obtain ⟨i0, hi0, hz0, hz1, hz2⟩ := info_parts info_Param
 exact app_rowG (by decide) parC_len parC_one Try.underlying31 hi0 hz0 hz1 hz2 rfl h (by unfold maxLen; omega) hl ty
theorem app_Ty {l : List Ty} {v : Value} {w : World} (h : RowG 2 tyC w v l) (hl : l.length * 16 ≤ 140737488355328) (ty : TypeId) :
  ∃ v' w', (Builtin.append_ #[32, 32] ty #[.slice none 0 0, v]).run Try.prog w = .ok v' w' ∧ Below w.heap.size w w' ∧ w'.ownsRow w.heap.size 65 2 v' l.length (flat tyC l) := by
 obtain ⟨i0, hi0, hz0, hz1, hz2⟩ := info_parts info_Type
 exact app_rowG (by decide) tyC_len tyC_one Try.underlying32 hi0 hz0 hz1 hz2 rfl h (by unfold maxLen; omega) hl ty
theorem app_Sl {l : List Sl} {v : Value} {w : World} (h : RowG 5 slC w v l) (hl : l.length * 32 ≤ 140737488355328) (ty : TypeId) :
  ∃ v' w', (Builtin.append_ #[33, 33] ty #[.slice none 0 0, v]).run Try.prog w = .ok v' w' ∧ Below w.heap.size w w' ∧ w'.ownsRow w.heap.size 68 5 v' l.length (flat slC l) := by
 obtain ⟨i0, hi0, hz0, hz1, hz2⟩ := info_parts info_Slot
 exact app_rowG (by decide) slC_len slC_one Try.underlying33 hi0 hz0 hz1 hz2 rfl h (by unfold maxLen; omega) hl ty
def f4 (a b c d : Value) (j : Nat) : Value := if j = 0 then a else if j = 1 then b else if j = 2 then c else d
structure CW (w : World) (v0 v1 v2 v3 x0 x1 x2 x3 : Value) (v : World) : Prop where
 bel : Below w.heap.size w v
 c : CellsAt v w.heap.size 0 [v0, v1, v2, v3]
 r : v.rowIs (w.heap.size + 1) 36 4 (f4 (.slice none 0 0) (.slice none 0 0) (.slice none 0 0) (.slice none 0 0))
 d : v.rowIs (w.heap.size + 1 + 1) 36 4 (f4 x0 x1 x2 x3)
theorem CW.app {w : World} {v0 v1 v2 v3 x0 x1 x2 x3 : Value} {v v' : World} (h : CW w v0 v1 v2 v3 x0 x1 x2 x3 v) (k : Below v.heap.size v v') : CW w v0 v1 v2 v3 x0 x1 x2 x3 v' :=
 ⟨Go.Proofs.Ytkdpchlehoomhaa.bel h.bel k, h.c.below k, h.r.of_block (k.block _ h.r.lt), h.d.of_block (k.block _ h.d.lt)⟩
theorem CW.put {w : World} {v0 v1 v2 v3 x0 x1 x2 x3 y0 y1 y2 y3 : Value} {v : World} (h : CW w v0 v1 v2 v3 x0 x1 x2 x3 v) (i : Nat) (x : Value) (e : ∀ j, j < 4 → (if j = i then x else f4 x0 x1 x2 x3 j) = f4 y0 y1 y2 y3 j) : CW w v0 v1 v2 v3 y0 y1 y2 y3 (v.setCell ⟨w.heap.size + 1 + 1, i, none⟩ x) := by
 have nb : ∀ b, b ≠ w.heap.size + 1 + 1 → (v.setCell ⟨w.heap.size + 1 + 1, i, none⟩ x).heap[b]? = v.heap[b]? := fun b hb => Below.heap_setCell _ _ _ _ hb
 exact ⟨h.bel.setCell (by show w.heap.size ≤ w.heap.size + 1 + 1; omega) _, h.c.of_block (nb _ (by omega)), h.r.of_block (nb _ (by omega)), (h.d.set i x).congr e⟩
theorem CW.start (w : World) (v0 v1 v2 v3 : Value) : CW w v0 v1 v2 v3 (.slice none 0 0) (.slice none 0 0) (.slice none 0 0) (.slice none 0 0) (((w.alloc (.cells #[v0, v1, v2, v3] 36)).alloc (.cells #[.slice none 0 0, .slice none 0 0, .slice none 0 0, .slice none 0 0] 36)).alloc (.cells #[.slice none 0 0, .slice none 0 0, .slice none 0 0, .slice none 0 0] 36)) := by
 have q : ∀ u : World, (u.alloc (.cells #[.slice none 0 0, .slice none 0 0, .slice none 0 0, .slice none 0 0] 36)).rowIs u.heap.size 36 4 (f4 (.slice none 0 0) (.slice none 0 0) (.slice none 0 0) (.slice none 0 0)) := fun u => World.rowIs_alloc u #[.slice none 0 0, .slice none 0 0, .slice none 0 0, .slice none 0 0] 36 _ (fun i hi => by
  have hi' : i < 4 := hi
  obtain rfl | rfl | rfl | rfl : i = 0 ∨ i = 1 ∨ i = 2 ∨ i = 3 := by omega
  all_goals rfl)
 have h1 := q (w.alloc (.cells #[v0, v1, v2, v3] 36))
 have h2 := q ((w.alloc (.cells #[v0, v1, v2, v3] 36)).alloc (.cells #[.slice none 0 0, .slice none 0 0, .slice none 0 0, .slice none 0 0] 36))
 have s1 : (w.alloc (.cells #[v0, v1, v2, v3] 36)).heap.size = w.heap.size + 1 := by simp
 have s2 : ((w.alloc (.cells #[v0, v1, v2, v3] 36)).alloc (.cells #[.slice none 0 0, .slice none 0 0, .slice none 0 0, .slice none 0 0] 36)).heap.size = w.heap.size + 1 + 1 := by simp
 rw [s1] at h1
 rw [s2] at h2
 refine ⟨Go.Proofs.Ytkdpchlehoomhaa.bel (Go.Proofs.Ytkdpchlehoomhaa.bel (bel_alloc _ _) (bel_alloc _ _)) (bel_alloc _ _), fun j hj => ?_, h1.alloc _, h2⟩
 have hj' : j < 4 := hj
 obtain rfl | rfl | rfl | rfl : j = 0 ∨ j = 1 ∨ j = 2 ∨ j = 3 := by omega
 all_goals simp [go_sem]
def Up (E : Nat) (v v' : World) : Prop := v.heap.size ≤ v'.heap.size ∧ ∀ b, E ≤ b → b < v.heap.size → v'.heap[b]? = v.heap[b]?
theorem Up.of {E : Nat} {v v' : World} (k : Below v.heap.size v v') : Up E v v' := ⟨k.size, fun b _ hb => k.block b hb⟩
theorem Up.set {E : Nat} (v : World) {D : Nat} (hD : D < E) (i : Nat) (x : Value) : Up E v (v.setCell ⟨D, i, none⟩ x) := ⟨by simp, fun b hb _ => Below.heap_setCell _ _ _ _ (by show b ≠ D; omega)⟩
theorem Up.trans {E : Nat} {a b c : World} (h : Up E a b) (k : Up E b c) : Up E a c := ⟨Nat.le_trans h.1 k.1, fun x hx hl => (k.2 x hx (Nat.lt_of_lt_of_le hl h.1)).trans (h.2 x hx hl)⟩
theorem Up.own {E B : Nat} {v v' : World} {t : TypeId} {k n : Nat} {u : Value} {xs : List Value} (h : Up E v v') (ho : v.ownsRow B t k u n xs) (hB : E ≤ B) : v'.ownsRow B t k u n xs := own_keep ho fun g hg => h.2 g (Nat.le_trans hB (ho.lt g hg).1) (ho.lt g hg).2
structure Own4 (B : Nat) (w : World) (u0 u1 u2 u3 : Value) (c : Cd) : Prop where
 sign : w.ownsRow B 62 3 u0 c.sign.length (flat parCells c.sign)
 regs : w.ownsRow B 65 2 u1 c.regs.length (flat tyC c.regs)
 slots : w.ownsRow B 68 5 u2 c.slots.length (flat slC c.slots)
 list : w.ownsRow B 25 7 u3 c.list.length (flat inC c.list)
structure CdSz (c : Cd) : Prop where
 s : c.sign.length * 32 ≤ 140737488351232
 r : c.regs.length * 16 ≤ 140737488351232
 l : c.slots.length * 32 ≤ 140737488351232
 i : c.list.length * 56 ≤ 140737488351232
set_option maxRecDepth 100000 in
set_option maxHeartbeats 4000000 in
theorem copied_any (v0 v1 v2 v3 : Value) (c : Cd) (hz : CdSz c) (w : World) (hv : CdV w v0 v1 v2 v3 c) :
  Calls Try.prog 17 #[.agg #[v0, v1, v2, v3]] w fun e w' => ∃ u0 u1 u2 u3, e = .returned (.agg #[u0, u1, u2, u3]) ∧ CdV w' u0 u1 u2 u3 c ∧ Own4 w.heap.size w' u0 u1 u2 u3 c ∧ Below w.heap.size w w' := by
 have s0 := hz.s
 have s1 := hz.r
 have s2 := hz.l
 have s3 := hz.i
 have C0 := CW.start w v0 v1 v2 v3
 obtain ⟨W0, hW0⟩ : ∃ W, ((w.alloc (.cells #[v0, v1, v2, v3] 36)).alloc (.cells #[.slice none 0 0, .slice none 0 0, .slice none 0 0, .slice none 0 0] 36)).alloc (.cells #[.slice none 0 0, .slice none 0 0, .slice none 0 0, .slice none 0 0] 36) = W := ⟨_, rfl⟩
 have hE : W0.heap.size = w.heap.size + 1 + 1 + 1 := by rw [← hW0]; simp
 rw [hW0] at C0
 have U0 : Up (w.heap.size + 1 + 1 + 1) W0 W0 := ⟨Nat.le_refl _, fun _ _ _ => rfl⟩
 obtain ⟨z0, w1, r0, b0, o0⟩ := app_Par (hv.sign.below C0.bel) (by omega) 31
 obtain ⟨p0, q0, rfl⟩ := own_len o0
 have D0 := C0.app b0
 have c00 := C0.c.at 0 rfl
 have c01 : W0.cell? ⟨w.heap.size + 1 + 1, 0, none⟩ = some (.slice none 0 0) := C0.d.cell (i := 0) (by decide)
 have c02 : w1.cell? ⟨w.heap.size + 1 + 1, 0, none⟩ = some (.slice none 0 0) := D0.d.cell (i := 0) (by decide)
 have c03 := D0.d.frozen 0
 rw [Nat.zero_add] at c00
 have C1 := D0.put (y0 := (.slice p0 c.sign.length q0)) (y1 := (.slice none 0 0)) (y2 := (.slice none 0 0)) (y3 := (.slice none 0 0)) 0 (.slice p0 c.sign.length q0) (by intro j hj; rcases (show j = 0 ∨ j = 1 ∨ j = 2 ∨ j = 3 by omega) with rfl | rfl | rfl | rfl <;> rfl)
 obtain ⟨V1, hV1⟩ : ∃ V, w1.setCell ⟨w.heap.size + 1 + 1, 0, none⟩ (.slice p0 c.sign.length q0) = V := ⟨_, rfl⟩
 have U1 : Up (w.heap.size + 1 + 1 + 1) W0 V1 := by rw [← hV1]; exact (Up.of b0).trans (Up.set _ (by omega) _ _)
 have T1 : Up (w.heap.size + 1 + 1 + 1) w1 V1 := by rw [← hV1]; exact Up.set _ (by omega) _ _
 have HV0 : Hid (w1.setCell ⟨w.heap.size + 1 + 1, 0, none⟩ (.slice p0 c.sign.length q0) = V1) := hV1
 rw [hV1] at C1
 have HR0 : Hid ((Builtin.append_ #[31, 31] 31 #[.slice none 0 0, v0]).run Try.prog W0 = .ok (.slice p0 c.sign.length q0) w1) := r0
 have e0 : w.heap.size + 1 + 1 + 1 ≤ W0.heap.size := by have := U0.1; omega
 obtain ⟨z1, w2, r1, b1, o1⟩ := app_Ty (hv.regs.below C1.bel) (by omega) 32
 obtain ⟨p1, q1, rfl⟩ := own_len o1
 have D1 := C1.app b1
 have c10 := C1.c.at 1 rfl
 have c11 : V1.cell? ⟨w.heap.size + 1 + 1, 1, none⟩ = some (.slice none 0 0) := C1.d.cell (i := 1) (by decide)
 have c12 : w2.cell? ⟨w.heap.size + 1 + 1, 1, none⟩ = some (.slice none 0 0) := D1.d.cell (i := 1) (by decide)
 have c13 := D1.d.frozen 1
 rw [Nat.zero_add] at c10
 have C2 := D1.put (y0 := (.slice p0 c.sign.length q0)) (y1 := (.slice p1 c.regs.length q1)) (y2 := (.slice none 0 0)) (y3 := (.slice none 0 0)) 1 (.slice p1 c.regs.length q1) (by intro j hj; rcases (show j = 0 ∨ j = 1 ∨ j = 2 ∨ j = 3 by omega) with rfl | rfl | rfl | rfl <;> rfl)
 obtain ⟨V2, hV2⟩ : ∃ V, w2.setCell ⟨w.heap.size + 1 + 1, 1, none⟩ (.slice p1 c.regs.length q1) = V := ⟨_, rfl⟩
 have U2 : Up (w.heap.size + 1 + 1 + 1) V1 V2 := by rw [← hV2]; exact (Up.of b1).trans (Up.set _ (by omega) _ _)
 have T2 : Up (w.heap.size + 1 + 1 + 1) w2 V2 := by rw [← hV2]; exact Up.set _ (by omega) _ _
 have HV1 : Hid (w2.setCell ⟨w.heap.size + 1 + 1, 1, none⟩ (.slice p1 c.regs.length q1) = V2) := hV2
 rw [hV2] at C2
 have HR1 : Hid ((Builtin.append_ #[32, 32] 32 #[.slice none 0 0, v1]).run Try.prog V1 = .ok (.slice p1 c.regs.length q1) w2) := r1
 have e1 : w.heap.size + 1 + 1 + 1 ≤ V1.heap.size := by have := U1.1; omega
 obtain ⟨z2, w3, r2, b2, o2⟩ := app_Sl (hv.slots.below C2.bel) (by omega) 33
 obtain ⟨p2, q2, rfl⟩ := own_len o2
 have D2 := C2.app b2
 have c20 := C2.c.at 2 rfl
 have c21 : V2.cell? ⟨w.heap.size + 1 + 1, 2, none⟩ = some (.slice none 0 0) := C2.d.cell (i := 2) (by decide)
 have c22 : w3.cell? ⟨w.heap.size + 1 + 1, 2, none⟩ = some (.slice none 0 0) := D2.d.cell (i := 2) (by decide)
 have c23 := D2.d.frozen 2
 rw [Nat.zero_add] at c20
 have C3 := D2.put (y0 := (.slice p0 c.sign.length q0)) (y1 := (.slice p1 c.regs.length q1)) (y2 := (.slice p2 c.slots.length q2)) (y3 := (.slice none 0 0)) 2 (.slice p2 c.slots.length q2) (by intro j hj; rcases (show j = 0 ∨ j = 1 ∨ j = 2 ∨ j = 3 by omega) with rfl | rfl | rfl | rfl <;> rfl)
 obtain ⟨V3, hV3⟩ : ∃ V, w3.setCell ⟨w.heap.size + 1 + 1, 2, none⟩ (.slice p2 c.slots.length q2) = V := ⟨_, rfl⟩
 have U3 : Up (w.heap.size + 1 + 1 + 1) V2 V3 := by rw [← hV3]; exact (Up.of b2).trans (Up.set _ (by omega) _ _)
 have T3 : Up (w.heap.size + 1 + 1 + 1) w3 V3 := by rw [← hV3]; exact Up.set _ (by omega) _ _
 have HV2 : Hid (w3.setCell ⟨w.heap.size + 1 + 1, 2, none⟩ (.slice p2 c.slots.length q2) = V3) := hV3
 rw [hV3] at C3
 have HR2 : Hid ((Builtin.append_ #[33, 33] 33 #[.slice none 0 0, v2]).run Try.prog V2 = .ok (.slice p2 c.slots.length q2) w3) := r2
 have e2 : w.heap.size + 1 + 1 + 1 ≤ V2.heap.size := by have := U2.1; omega
 obtain ⟨z3, w4, r3, b3, o3⟩ := app_ins (hv.list.below C3.bel) (by omega) 34
 obtain ⟨p3, q3, rfl⟩ := own_len o3
 have D3 := C3.app b3
 have c30 := C3.c.at 3 rfl
 have c31 : V3.cell? ⟨w.heap.size + 1 + 1, 3, none⟩ = some (.slice none 0 0) := C3.d.cell (i := 3) (by decide)
 have c32 : w4.cell? ⟨w.heap.size + 1 + 1, 3, none⟩ = some (.slice none 0 0) := D3.d.cell (i := 3) (by decide)
 have c33 := D3.d.frozen 3
 rw [Nat.zero_add] at c30
 have C4 := D3.put (y0 := (.slice p0 c.sign.length q0)) (y1 := (.slice p1 c.regs.length q1)) (y2 := (.slice p2 c.slots.length q2)) (y3 := (.slice p3 c.list.length q3)) 3 (.slice p3 c.list.length q3) (by intro j hj; rcases (show j = 0 ∨ j = 1 ∨ j = 2 ∨ j = 3 by omega) with rfl | rfl | rfl | rfl <;> rfl)
 obtain ⟨V4, hV4⟩ : ∃ V, w4.setCell ⟨w.heap.size + 1 + 1, 3, none⟩ (.slice p3 c.list.length q3) = V := ⟨_, rfl⟩
 have U4 : Up (w.heap.size + 1 + 1 + 1) V3 V4 := by rw [← hV4]; exact (Up.of b3).trans (Up.set _ (by omega) _ _)
 have T4 : Up (w.heap.size + 1 + 1 + 1) w4 V4 := by rw [← hV4]; exact Up.set _ (by omega) _ _
 have HV3 : Hid (w4.setCell ⟨w.heap.size + 1 + 1, 3, none⟩ (.slice p3 c.list.length q3) = V4) := hV4
 rw [hV4] at C4
 have HR3 : Hid ((Builtin.append_ #[34, 34] 34 #[.slice none 0 0, v3]).run Try.prog V3 = .ok (.slice p3 c.list.length q3) w4) := r3
 have e3 : w.heap.size + 1 + 1 + 1 ≤ V3.heap.size := by have := U3.1; omega
 have U5 : Up (w.heap.size + 1 + 1 + 1) V4 ((((V4.setCell ⟨w.heap.size + 1, 0, none⟩ (.slice p0 c.sign.length q0)).setCell ⟨w.heap.size + 1, 1, none⟩ (.slice p1 c.regs.length q1)).setCell ⟨w.heap.size + 1, 2, none⟩ (.slice p2 c.slots.length q2)).setCell ⟨w.heap.size + 1, 3, none⟩ (.slice p3 c.list.length q3)) := (((Up.set _ (by omega) _ _).trans (Up.set _ (by omega) _ _)).trans (Up.set _ (by omega) _ _)).trans (Up.set _ (by omega) _ _)
 have HF : Hid (CdV ((((V4.setCell ⟨w.heap.size + 1, 0, none⟩ (.slice p0 c.sign.length q0)).setCell ⟨w.heap.size + 1, 1, none⟩ (.slice p1 c.regs.length q1)).setCell ⟨w.heap.size + 1, 2, none⟩ (.slice p2 c.slots.length q2)).setCell ⟨w.heap.size + 1, 3, none⟩ (.slice p3 c.list.length q3)) (.slice p0 c.sign.length q0) (.slice p1 c.regs.length q1) (.slice p2 c.slots.length q2) (.slice p3 c.list.length q3) c ∧ Own4 w.heap.size (((((V4.setCell ⟨w.heap.size + 1, 0, none⟩ (.slice p0 c.sign.length q0)).setCell ⟨w.heap.size + 1, 1, none⟩ (.slice p1 c.regs.length q1)).setCell ⟨w.heap.size + 1, 2, none⟩ (.slice p2 c.slots.length q2)).setCell ⟨w.heap.size + 1, 3, none⟩ (.slice p3 c.list.length q3))) (.slice p0 c.sign.length q0) (.slice p1 c.regs.length q1) (.slice p2 c.slots.length q2) (.slice p3 c.list.length q3) c ∧ Below w.heap.size w ((((V4.setCell ⟨w.heap.size + 1, 0, none⟩ (.slice p0 c.sign.length q0)).setCell ⟨w.heap.size + 1, 1, none⟩ (.slice p1 c.regs.length q1)).setCell ⟨w.heap.size + 1, 2, none⟩ (.slice p2 c.slots.length q2)).setCell ⟨w.heap.size + 1, 3, none⟩ (.slice p3 c.list.length q3))) := by
  have g0 := ((((T1.trans U2).trans U3).trans U4).trans U5).own o0 e0
  have g1 := (((T2.trans U3).trans U4).trans U5).own o1 e1
  have g2 := ((T3.trans U4).trans U5).own o2 e2
  have g3 := (T4.trans U5).own o3 e3
  refine ⟨⟨own_row parC_len g0, own_row tyC_len g1, own_row slC_len g2, own_row inC_len g3⟩, ⟨own_mono g0 (by omega), own_mono g1 (by omega), own_mono g2 (by omega), own_mono g3 (by omega)⟩, ?_⟩
  exact (((C4.bel.setCell (by show w.heap.size ≤ w.heap.size + 1; omega) _).setCell (by show w.heap.size ≤ w.heap.size + 1; omega) _).setCell (by show w.heap.size ≤ w.heap.size + 1; omega) _).setCell (by show w.heap.size ≤ w.heap.size + 1; omega) _
 have m0 : V4.cell? ⟨w.heap.size + 1 + 1, 0, none⟩ = some (.slice p0 c.sign.length q0) := C4.d.cell (i := 0) (by decide)
 have m1 : V4.cell? ⟨w.heap.size + 1 + 1, 1, none⟩ = some (.slice p1 c.regs.length q1) := C4.d.cell (i := 1) (by decide)
 have m2 : V4.cell? ⟨w.heap.size + 1 + 1, 2, none⟩ = some (.slice p2 c.slots.length q2) := C4.d.cell (i := 2) (by decide)
 have m3 : V4.cell? ⟨w.heap.size + 1 + 1, 3, none⟩ = some (.slice p3 c.list.length q3) := C4.d.cell (i := 3) (by decide)
 have k0 : V4.cell? ⟨w.heap.size + 1, 0, none⟩ = some (.slice none 0 0) := C4.r.cell (i := 0) (by decide)
 have k1 : V4.cell? ⟨w.heap.size + 1, 1, none⟩ = some (.slice none 0 0) := C4.r.cell (i := 1) (by decide)
 have k2 : V4.cell? ⟨w.heap.size + 1, 2, none⟩ = some (.slice none 0 0) := C4.r.cell (i := 2) (by decide)
 have k3 : V4.cell? ⟨w.heap.size + 1, 3, none⟩ = some (.slice none 0 0) := C4.r.cell (i := 3) (by decide)
 have y0 := C4.r.frozen 0
 have y1 := C4.r.frozen 1
 have y2 := C4.r.frozen 2
 have y3 := C4.r.frozen 3
 have HW : Hid (((w.alloc (.cells #[v0, v1, v2, v3] 36)).alloc (.cells #[.slice none 0 0, .slice none 0 0, .slice none 0 0, .slice none 0 0] 36)).alloc (.cells #[.slice none 0 0, .slice none 0 0, .slice none 0 0, .slice none 0 0] 36) = W0) := hW0
 clear C0 C1 C2 C3 C4 D0 D1 D2 D3 U0 U1 U2 U3 U4 U5 T1 T2 T3 T4 o0 o1 o2 o3 b0 b1 b2 b3 r0 r1 r2 r3 hv hz hV1 hV2 hV3 hV4 hW0 e0 e1 e2 e3 hE
 go_enter Try.func17, Try.ntmps17
 go_upto_region 2 with fail
 rw [HW.out]
 go_upto_region 3 with (at_builtin; refine wpList_app (by rfl) _ _ _ (by rfl) _ _ _ (by rfl) (by rfl) HR0.out ?_)
 rw [HV0.out]
 go_upto_region 4 with (at_builtin; refine wpList_app (by rfl) _ _ _ (by rfl) _ _ _ (by rfl) (by rfl) HR1.out ?_)
 rw [HV1.out]
 go_upto_region 5 with (at_builtin; refine wpList_app (by rfl) _ _ _ (by rfl) _ _ _ (by rfl) (by rfl) HR2.out ?_)
 rw [HV2.out]
 go_upto_region 6 with (at_builtin; refine wpList_app (by rfl) _ _ _ (by rfl) _ _ _ (by rfl) (by rfl) HR3.out ?_)
 rw [HV3.out]
 go_wp2
 refine bodyPost_ret (by simp [results, Try.results17, go_sem, *]; try rfl) rfl ?_
 exact ⟨_, _, _, _, rfl, HF.out.1, HF.out.2.1, HF.out.2.2⟩
end Go.Proofs.Ytkdpchlehoomhaa
namespace Go.Proofs.Ytkdpchlehoomhaa
set_option linter.unusedVariables false
set_option linter.unusedSimpArgs false
def runP : Wk → List Ins → Wk
 | s, [] => s
 | s, i :: r => runP (stepP s i) r
def takenP (c : Cd) : Wk → List Ins → Bool
 | _, [] => true
 | s, i :: r => takesP c s i && takenP c (stepP s i) r
theorem runP_append : ∀ (l m : List Ins) (s : Wk), runP s (l ++ m) = runP (runP s l) m
 | [], m, s => rfl
 | i :: l, m, s => by simp only [List.cons_append, runP]; exact runP_append l m _
theorem takenP_append (c : Cd) : ∀ (l m : List Ins) (s : Wk), takenP c s (l ++ m) = (takenP c s l && takenP c (runP s l) m)
 | [], m, s => by simp [takenP, runP]
 | i :: l, m, s => by simp only [List.cons_append, takenP, runP, takenP_append c l m, Bool.and_assoc]
theorem goP_taken {c : Cd} : ∀ {l : List Ins} {s : Wk} {k : Nat}, takenP c s l = true → goP c s k l = if (runP s l).opens.isEmpty then (0, 0) else (160, ((k + l.length : Nat) : Int))
 | [], s, k, _ => by simp [goP, runP]
 | i :: l, s, k, h => by
  simp only [takenP, Bool.and_eq_true] at h
  simp only [goP, runP, h.1, if_true]
  rw [goP_taken (k := k + 1) h.2, List.length_cons, show k + 1 + l.length = k + (l.length + 1) by omega]
  rfl
theorem goP_ok {c : Cd} : ∀ {l : List Ins} {s : Wk} {k : Nat}, (goP c s k l).1 = 0 ↔ takenP c s l = true ∧ (runP s l).opens.isEmpty = true
 | [], s, k => by
  simp only [goP, takenP, runP, true_and]
  by_cases h : s.opens.isEmpty = true
  ·simp [h]
  ·simp [h]
 | i :: l, s, k => by
  simp only [goP, takenP, runP, Bool.and_eq_true]
  by_cases h : takesP c s i = true
  ·rw [if_pos h, goP_ok (k := k + 1)]
   simp [h]
  ·rw [if_neg h]
   simp [h]
theorem takenP_list (c : Cd) (x : List Ins) : ∀ (l : List Ins) (s : Wk), takenP ⟨c.sign, c.regs, c.slots, x⟩ s l = takenP c s l
 | [], s => rfl
 | i :: l, s => by simp only [takenP, takenP_list c x l]; rfl
theorem aheadP_list {c : Cd} {x : List Ins} (h : aheadP c = 0) (hl : x.length ≤ c.list.length) : aheadP ⟨c.sign, c.regs, c.slots, x⟩ = 0 := by
 unfold aheadP at h ⊢
 have h1 : checkP c.sign = 0 := by
  by_cases e : checkP c.sign = 0
  ·exact e
  ·rw [if_pos e] at h; exact absurd h e
 have hm : typesMay ⟨c.sign, c.regs, c.slots, x⟩ = typesMay c := rfl
 have hs : slotsMay ⟨c.sign, c.regs, c.slots, x⟩ = slotsMay c := rfl
 rw [if_neg (by simp [h1])] at h ⊢
 by_cases e1 : 16384 < c.regs.length ∨ 32768 < c.list.length
 ·rw [if_pos e1] at h; exact absurd h (by decide)
 ·rw [if_neg e1] at h
  rw [if_neg (by show ¬ (16384 < c.regs.length ∨ 32768 < x.length); omega)]
  by_cases e2 : 4096 < c.slots.length
  ·rw [if_pos e2] at h; exact absurd h (by decide)
  ·rw [if_neg e2] at h
   rw [if_neg (by exact e2), hm, hs]
   exact h
theorem checkC_ok {c : Cd} : (checkC c).1 = 0 ↔ aheadP c = 0 ∧ takenP c ⟨[], []⟩ c.list = true ∧ (runP ⟨[], []⟩ c.list).opens.isEmpty = true := by
 unfold checkC
 by_cases h : aheadP c = 0
 ·rw [if_neg (by simp [h]), goP_ok]; simp [h]
 ·rw [if_pos h]; simp [h]
def openD (i : Ins) : Int := if i.op = 34 ∨ i.op = 36 then 1 else if i.op = 35 ∨ i.op = 37 then -1 else 0
def openN : List Ins → Int
 | [] => 0
 | i :: l => openD i + openN l
theorem openN_snoc : ∀ (l : List Ins) (i : Ins), openN (l ++ [i]) = openN l + openD i
 | [], i => by simp [openN]
 | a :: l, i => by simp only [List.cons_append, openN, openN_snoc l i]; omega
theorem openN_bound : ∀ l : List Ins, -(l.length : Int) ≤ openN l ∧ openN l ≤ (l.length : Int)
 | [] => by simp [openN]
 | a :: l => by
  have := openN_bound l
  have h : -1 ≤ openD a ∧ openD a ≤ 1 := by unfold openD; split <;> (try split) <;> omega
  simp only [openN, List.length_cons]; omega
theorem addP_opens (s : Wk) (i : Ins) (r : Rw) : (addP s i r).opens = s.opens := by unfold addP; split <;> rfl
theorem step_open {c : Cd} {s : Wk} {i : Ins} (h : takesP c s i = true) : ((stepP s i).opens.length : Int) = s.opens.length + openD i := by
 obtain ⟨_, _, hs, _⟩ := takes_open h
 unfold stepP passP
 rw [addP_opens]
 unfold turnP openD
 by_cases h1 : i.op = 34 ∨ i.op = 36
 ·rw [if_pos h1, if_pos h1]; simp
 ·rw [if_neg h1, if_neg h1]
  by_cases h2 : i.op = 35 ∨ i.op = 37
  ·rw [if_pos h2, if_pos h2]
   have hne : s.opens ≠ [] := by
    unfold mayStandP at hs
    rw [if_neg h1] at hs
    intro hO
    rcases h2 with e | e
    ·rw [if_pos e, hO] at hs; simp at hs
    ·rw [if_neg (by omega), if_pos e] at hs
     unfold inLoop at hs
     rw [hO] at hs
     cases hs
   unfold leaveP
   cases hO : s.opens with
   | nil => exact absurd hO hne
   | cons b r => simp; omega
  ·rw [if_neg h2, if_neg h2]; simp
theorem run_open {c : Cd} : ∀ {l : List Ins} {s : Wk}, takenP c s l = true → ((runP s l).opens.length : Int) = s.opens.length + openN l
 | [], s, _ => by simp [runP, openN]
 | i :: l, s, h => by
  simp only [takenP, Bool.and_eq_true] at h
  simp only [runP, openN]
  rw [run_open h.2, step_open h.1]; omega
theorem run_ok {c : Cd} (l : List Ins) : ∀ (s : Wk), OkS c.regs.length s → takenP c s l = true → OkS c.regs.length (runP s l) := by
 induction l with
 | nil => intro s h _; exact h
 | cons i l ih =>
  intro s h t
  simp only [takenP, Bool.and_eq_true] at t
  exact ih _ (OkS.step h t.1) t.2
theorem begins_law {c : Cd} (h : (checkC c).1 = 0) {at_ : Nat} (ha : at_ ≤ c.list.length) : checkC ⟨c.sign, c.regs, c.slots, c.list.take at_⟩ = if openN (c.list.take at_) = 0 then (0, 0) else (160, (at_ : Int)) := by
 obtain ⟨h1, h2, _⟩ := checkC_ok.1 h
 have e : c.list = c.list.take at_ ++ c.list.drop at_ := (List.take_append_drop _ _).symm
 rw [e, takenP_append, Bool.and_eq_true] at h2
 have hl : (c.list.take at_).length = at_ := by rw [List.length_take]; omega
 unfold checkC
 rw [if_neg (by rw [aheadP_list h1 (by rw [List.length_take]; omega)]; simp)]
 have ht : takenP ⟨c.sign, c.regs, c.slots, c.list.take at_⟩ ⟨[], []⟩ (c.list.take at_) = true := by rw [takenP_list]; exact h2.1
 show goP ⟨c.sign, c.regs, c.slots, c.list.take at_⟩ ⟨[], []⟩ 0 (c.list.take at_) = _
 rw [goP_taken ht, hl, Nat.zero_add]
 have ho := run_open h2.1
 simp only [List.length_nil] at ho
 by_cases hz : openN (c.list.take at_) = 0
 ·have : (runP ⟨[], []⟩ (c.list.take at_)).opens = [] := List.eq_nil_of_length_eq_zero (by omega)
  rw [if_pos hz, this]; rfl
 ·have : (runP ⟨[], []⟩ (c.list.take at_)).opens.isEmpty = false := by
   cases hO : (runP ⟨[], []⟩ (c.list.take at_)).opens with
   | nil => rw [hO] at ho; simp at ho; omega
   | cons b r => rfl
  rw [if_neg hz, this]; rfl
inductive SimO (D : Nat) (S S' : List Nat) : List Bk → List Bk → Prop
 | nil : SimO D S S' [] []
 | cons {b b' : Bk} {r r' : List Bk} (hl : b.loop = b'.loop) (hp : b.par = b'.par) (hs : ∀ x, x ≠ D → (x ∈ S.take b.ahead ↔ x ∈ S'.take b'.ahead)) (t : SimO D S S' r r') : SimO D S S' (b :: r) (b' :: r')
structure Sim (D : Nat) (s s' : Wk) : Prop where
 set : ∀ x, x ≠ D → (x ∈ s.set ↔ x ∈ s'.set)
 opens : SimO D s.set s'.set s.opens s'.opens
theorem SimO.len {D : Nat} {S S' : List Nat} {O O' : List Bk} (h : SimO D S S' O O') : O.length = O'.length := by
 induction h with
 | nil => rfl
 | cons _ _ _ _ ih => simp [ih]
theorem SimO.snoc {D : Nat} {S S' : List Nat} {X X' : List Nat} : ∀ {O O' : List Bk}, SimO D S S' O O' → okO S.length O → okO S'.length O' → SimO D (S ++ X) (S' ++ X') O O'
 | [], [], _, _, _ => .nil
 | b :: r, b' :: r', .cons hl hp hs t, ⟨k1, k2⟩, ⟨k1', k2'⟩ => by
  refine .cons hl hp ?_ (SimO.snoc t (k2.mono k1) (k2'.mono k1'))
  rw [List.take_append_of_le_length k1, List.take_append_of_le_length k1']
  exact hs
theorem SimO.cut {D : Nat} {S S' : List Nat} {n n' : Nat} : ∀ {O O' : List Bk}, SimO D S S' O O' → okO n O → okO n' O' → SimO D (S.take n) (S'.take n') O O'
 | [], [], _, _, _ => .nil
 | b :: r, b' :: r', .cons hl hp hs t, ⟨k1, k2⟩, ⟨k1', k2'⟩ => by
  refine .cons hl hp ?_ (SimO.cut t (k2.mono k1) (k2'.mono k1'))
  rw [List.take_take, List.take_take, Nat.min_eq_left k1, Nat.min_eq_left k1']
  exact hs
theorem Sim.inLoop {D : Nat} {s s' : Wk} (h : Sim D s s') : inLoop s = inLoop s' ∧ innerP s = innerP s' ∧ s.opens.length = s'.opens.length ∧ s.opens.isEmpty = s'.opens.isEmpty := by
 obtain ⟨S, O⟩ := s
 obtain ⟨S', O'⟩ := s'
 have := h.opens
 simp only at this
 cases this with
 | nil => exact ⟨rfl, rfl, rfl, rfl⟩
 | cons hl hp hs t => exact ⟨hl, hp, by simp [t.len], rfl⟩
theorem Sim.turn {D n : Nat} {s s' : Wk} {i : Ins} (h : Sim D s s') (k : OkS n s) (k' : OkS n s') : Sim D (turnP s i) (turnP s' i) := by
 unfold turnP
 split
 ·refine ⟨h.set, .cons rfl rfl ?_ h.opens⟩
  intro x hx
  rw [List.take_length, List.take_length]
  exact h.set x hx
 ·split
  ·obtain ⟨S, O⟩ := s
   obtain ⟨S', O'⟩ := s'
   obtain ⟨h1, h2⟩ := h
   have ko := k.opens
   have ko' := k'.opens
   simp only at h1 h2 ko ko'
   cases h2 with
   | nil => exact ⟨h1, .nil⟩
   | @cons b b' r r' hl hp hs t =>
    simp only [leaveP]
    rw [← hl]
    by_cases hb : b.loop = true
    ·rw [if_pos hb, if_pos hb]; exact ⟨h1, t⟩
    ·rw [if_neg hb, if_neg hb]; exact ⟨hs, t.cut ko.2 ko'.2⟩
  ·exact h
theorem Sim.add {D n : Nat} {s s' : Wk} {i : Ins} {r : Rw} (h : Sim D s s') (k : OkS n s) (k' : OkS n s') : Sim D (addP s i r) (addP s' i r) := by
 unfold addP
 by_cases hd : r.d = 0
 ·rw [if_neg (fun e => e.1 hd), if_neg (fun e => e.1 hd)]; exact h
 by_cases hD : i.d.toNat = D
 ·have key : ∀ (X X' : List Nat), (∀ x ∈ X, x = D) → (∀ x ∈ X', x = D) → Sim D ⟨s.set ++ X, s.opens⟩ ⟨s'.set ++ X', s'.opens⟩ := fun X X' e e' => by
   refine ⟨fun x hx => ?_, h.opens.snoc k.opens k'.opens⟩
   simp only [List.mem_append]
   rw [h.set x hx]
   constructor
   ·rintro (a | a)
    ·exact .inl a
    ·exact absurd (e x a) hx
   ·rintro (a | a)
    ·exact .inl a
    ·exact absurd (e' x a) hx
  have n0 : Sim D s s' := h
  by_cases a : i.d.toNat ∈ s.set
  ·rw [if_neg (fun e => e.2 a)]
   by_cases a' : i.d.toNat ∈ s'.set
   ·rw [if_neg (fun e => e.2 a')]; exact h
   ·rw [if_pos ⟨hd, a'⟩]
    have := key [] [i.d.toNat] (by simp) (by simp [hD])
    simpa using this
  ·rw [if_pos ⟨hd, a⟩]
   by_cases a' : i.d.toNat ∈ s'.set
   ·rw [if_neg (fun e => e.2 a')]
    have := key [i.d.toNat] [] (by simp [hD]) (by simp)
    simpa using this
   ·rw [if_pos ⟨hd, a'⟩]
    exact key [i.d.toNat] [i.d.toNat] (by simp [hD]) (by simp [hD])
 ·by_cases a : i.d.toNat ∈ s.set
  ·have a' := (h.set _ hD).1 a
   rw [if_neg (fun e => e.2 a), if_neg (fun e => e.2 a')]; exact h
  ·have a' : i.d.toNat ∉ s'.set := fun e => a ((h.set _ hD).2 e)
   rw [if_pos ⟨hd, a⟩, if_pos ⟨hd, a'⟩]
   refine ⟨fun x hx => ?_, h.opens.snoc k.opens k'.opens⟩
   simp only [List.mem_append]
   rw [h.set x hx]
theorem Sim.takes {c : Cd} {D : Nat} {s s' : Wk} {i : Ins} (h : Sim D s s') (hr : ∀ n ∈ readsP i (rowP i.op), n.toNat ≠ D) : takesP c s i = takesP c s' i := by
 obtain ⟨e1, e2, e3, e4⟩ := h.inLoop
 have hst : mayStandP c s i (rowP i.op) = mayStandP c s' i (rowP i.op) := by unfold mayStandP; rw [e1, e2, e3, e4]
 have hrd : readOK s i (rowP i.op) = readOK s' i (rowP i.op) := by
  unfold readOK
  rw [Bool.eq_iff_iff, List.all_eq_true, List.all_eq_true]
  constructor
  ·intro q n hn
   have := q n hn
   simp only [decide_eq_true_eq] at this ⊢
   exact (h.set _ (hr n hn)).1 this
  ·intro q n hn
   have := q n hn
   simp only [decide_eq_true_eq] at this ⊢
   exact (h.set _ (hr n hn)).2 this
 unfold takesP
 rw [hst, hrd]
theorem Sim.run {c : Cd} {D : Nat} : ∀ {l : List Ins} {s s' : Wk}, Sim D s s' → OkS c.regs.length s → OkS c.regs.length s' → (∀ i ∈ l, ∀ n ∈ readsP i (rowP i.op), n.toNat ≠ D) → takenP c s l = true → takenP c s' l = true ∧ (runP s' l).opens.length = (runP s l).opens.length
 | [], s, s', h, _, _, _, _ => ⟨rfl, h.inLoop.2.2.1.symm⟩
 | i :: l, s, s', h, k, k', hr, t => by
  simp only [takenP, Bool.and_eq_true] at t
  have ht : takesP c s' i = true := by rw [← h.takes (hr i (by simp))]; exact t.1
  have hk := k.step t.1
  have hk' := k'.step ht
  obtain ⟨_, hf, hm, _⟩ := takes_open t.1
  have ho : OkS c.regs.length (turnP s i) := k.turn (stand_open hm)
  obtain ⟨_, _, hm', _⟩ := takes_open ht
  have ho' : OkS c.regs.length (turnP s' i) := k'.turn (stand_open hm')
  have hs : Sim D (stepP s i) (stepP s' i) := (h.turn k k').add ho ho'
  obtain ⟨q1, q2⟩ := Sim.run hs hk hk' (fun j hj => hr j (by simp [hj])) t.2
  simp only [takenP, runP, Bool.and_eq_true]
  exact ⟨⟨ht, q1⟩, q2⟩
theorem SimO.refl (D : Nat) (S : List Nat) : ∀ O : List Bk, SimO D S S O O
 | [] => .nil
 | b :: r => .cons rfl rfl (fun x _ => Iff.rfl) (SimO.refl D S r)
theorem left_law {c : Cd} (h : (checkC c).1 = 0) {at_ : Nat} (ha : at_ < c.list.length) (hset : (rowP c.list[at_].op).d ≠ 0) (hr : ∀ i ∈ c.list.drop (at_ + 1), ∀ n ∈ readsP i (rowP i.op), n ≠ c.list[at_].d) :
  (checkC ⟨c.sign, c.regs, c.slots, c.list.take at_ ++ c.list.drop (at_ + 1)⟩).1 = 0 := by
 obtain ⟨h1, h2, h3⟩ := checkC_ok.1 h
 have e : c.list = c.list.take at_ ++ (c.list[at_] :: c.list.drop (at_ + 1)) := by rw [← List.drop_eq_getElem_cons ha, List.take_append_drop]
 obtain ⟨x, hx⟩ : ∃ x, c.list[at_] = x := ⟨_, rfl⟩
 obtain ⟨A, hA⟩ : ∃ A, c.list.take at_ = A := ⟨_, rfl⟩
 obtain ⟨B, hB⟩ : ∃ B, c.list.drop (at_ + 1) = B := ⟨_, rfl⟩
 rw [hx] at hset hr
 rw [hx, hA, hB] at e
 rw [hB] at hr
 rw [hA, hB]
 have hlen : (A ++ B).length ≤ c.list.length := by rw [e]; simp
 rw [e, takenP_append, Bool.and_eq_true] at h2
 rw [e, runP_append] at h3
 obtain ⟨t1, t2⟩ := h2
 simp only [takenP, Bool.and_eq_true] at t2
 simp only [runP] at h3
 obtain ⟨t2, t3⟩ := t2
 refine checkC_ok.2 ⟨aheadP_list h1 hlen, ?_⟩
 show takenP ⟨c.sign, c.regs, c.slots, A ++ B⟩ ⟨[], []⟩ (A ++ B) = true ∧ (runP ⟨[], []⟩ (A ++ B)).opens.isEmpty = true
 rw [takenP_list, takenP_append, runP_append]
 have k1 : OkS c.regs.length (runP ⟨[], []⟩ A) := run_ok _ _ (OkS.start _) t1
 have k2 := k1.step t2
 obtain ⟨_, hf, _, _⟩ := takes_open t2
 have hd := fitsReg_lt (fitsC_d hf) hset
 have hop : ¬ (x.op = 34 ∨ x.op = 36) ∧ ¬ (x.op = 35 ∨ x.op = 37) := by
  refine ⟨fun q => hset ?_, fun q => hset ?_⟩
  ·rcases q with q | q <;> rw [q] <;> rfl
  ·rcases q with q | q <;> rw [q] <;> rfl
 have hs : Sim x.d.toNat (stepP (runP ⟨[], []⟩ A) x) (runP ⟨[], []⟩ A) := by
  unfold stepP passP turnP
  rw [if_neg hop.1, if_neg hop.2]
  unfold addP
  split
  ·refine ⟨fun y hy => by simp [hy], ?_⟩
   have := SimO.snoc (X := [x.d.toNat]) (X' := []) (SimO.refl x.d.toNat (runP ⟨[], []⟩ A).set (runP ⟨[], []⟩ A).opens) k1.opens k1.opens
   simpa using this
  ·exact ⟨fun y _ => Iff.rfl, SimO.refl _ _ _⟩
 have hrr : ∀ i ∈ B, ∀ n ∈ readsP i (rowP i.op), 0 ≤ n → n.toNat ≠ x.d.toNat := fun i hi n hn h0 e => hr i hi n hn (by omega)
 have hfit : ∀ {l : List Ins} {s : Wk}, takenP c s l = true → ∀ i ∈ l, fitsC c i (rowP i.op) = true := by
  intro l
  induction l with
  | nil => intro s _ i hi; cases hi
  | cons a l ih =>
   intro s t i hi
   simp only [takenP, Bool.and_eq_true] at t
   rcases List.mem_cons.1 hi with rfl | hi
   ·exact (takes_open t.1).2.1
   ·exact ih t.2 i hi
 have hge : ∀ i ∈ B, ∀ n ∈ readsP i (rowP i.op), 0 ≤ n := fun i hi n hn => by
  have hf := hfit t3 i hi
  unfold readsP at hn
  rcases List.mem_append.1 hn with hn | hn
  ·by_cases q : (rowP i.op).a = 0
   ·rw [if_pos q] at hn; cases hn
   ·rw [if_neg q] at hn; simp at hn; subst hn; exact (fitsReg_lt (fitsC_a hf) q).1
  rcases List.mem_append.1 hn with hn | hn
  ·by_cases q : (rowP i.op).b = 0
   ·rw [if_pos q] at hn; cases hn
   ·rw [if_neg q] at hn; simp at hn; subst hn; exact (fitsReg_lt (fitsC_b hf) q).1
  ·by_cases q : (rowP i.op).c = 0
   ·rw [if_pos q] at hn; cases hn
   ·rw [if_neg q] at hn; simp at hn; subst hn; exact (fitsReg_lt (fitsC_c hf) q).1
 obtain ⟨q1, q2⟩ := Sim.run hs k2 k1 (fun i hi n hn => hrr i hi n hn (hge i hi n hn)) t3
 refine ⟨by rw [t1, q1]; rfl, ?_⟩
 rw [List.isEmpty_iff] at h3
 rw [h3, List.length_nil] at q2
 rw [List.isEmpty_iff]
 exact List.eq_nil_of_length_eq_zero q2
end Go.Proofs.Ytkdpchlehoomhaa
namespace Go.Proofs.Ytkdpchlehoomhaa
open Go.RowKit
set_option linter.unusedVariables false
set_option linter.unusedSimpArgs false
theorem und_L7 : Try.prog.underlying 34 = some (.slice (Try.prog.elem 34)) := by kernel_rfl
theorem elem_L7 : Try.prog.elem 34 = 25 := by kernel_rfl
theorem size_L7 (w : World) : (sizeOf (Try.prog.elem 34)).run Try.prog w = .ok 7 w := by rw [elem_L7]; exact Try.sizeOf25 w
set_option maxRecDepth 100000 in
theorem app_none (p : Option Addr) (n c : Nat) (x : Option Addr) (d : Nat) (hn : n ≤ c) (hm : n ≤ 140737488351232) (ty : TypeId) (w : World) : (Builtin.append_ #[34, 34] ty #[.slice p n c, .slice x 0 d]).run Try.prog w = .ok (.slice p n c) w := by
 obtain ⟨i0, hi0, hz0, hz1, hz2⟩ := info_parts info_Inst
 have h1 : ¬ c < n := by omega
 cases x with
 | none => cases p <;> simp [Builtin.append_, run_underlying Try.underlying34, sizeOf, typeInfo, hi0, Builtin.lenOf, Builtin.firstCells, storeCells, loadCells, loadCellsFrom, hn, h1]
 | some a => cases p <;> simp [Builtin.append_, run_underlying Try.underlying34, sizeOf, typeInfo, hi0, Builtin.lenOf, Builtin.firstCells, storeCells, loadCells, loadCellsFrom, hn, h1]
theorem app_tail {B : Nat} {V : World} {p : Option Addr} {q : Nat} {l m : List Ins} {x : Option Addr} {d : Nat} (ho : V.ownsRow B 25 7 (.slice p l.length q) l.length (flat inC l)) (hr : RowG 7 inC V (.slice x m.length d) m) (hB : B ≤ V.heap.size) (hl : (l.length + m.length) * 56 ≤ 140737488351232) :
  ∃ p' c' w', (Builtin.append_ #[34, 34] 34 #[.slice p l.length q, .slice x m.length d]).run Try.prog V.drew = .ok (.slice p' (l.length + m.length) c') w' ∧ Below B V w' ∧ w'.ownsRow B 25 7 (.slice p' (l.length + m.length) c') (l ++ m).length (flat inC (l ++ m)) ∧ ∀ b, b < V.heap.size → (Value.slice p l.length q).ownBlock ≠ some b → w'.heap[b]? = V.heap[b]? := by
 by_cases h0 : m = []
 ·subst h0
  refine ⟨p, q, V.drew, ?_, (Below.refl B V).drew, ?_, fun b _ _ => rfl⟩
  ·simp only [List.length_nil, Nat.add_zero]
   exact app_none p l.length q x d (own_cap ho) (by omega) _ _
  ·simp only [List.length_nil, Nat.add_zero, List.append_nil]
   exact own_keep ho fun g _ => rfl
 ·obtain ⟨i0, hi0, hz0, hz1, hz2⟩ := info_parts info_Inst
  obtain ⟨p', c', hv, h⟩ := hr
  simp only [Value.slice.injEq] at hv
  obtain ⟨rfl, -, rfl⟩ := hv
  obtain ⟨b, o, rfl, h2⟩ := h.resolve_left h0
  have hpos : 0 < m.length := List.length_pos_iff.2 h0
  obtain ⟨g, cap, w', hr, hown, hg, hat, hlt⟩ := run_append_lies (P := Try.prog) V.drew 34 34 B 25 i0 _ 7 56 Try.underlying34 hi0 hz0 hz1 hz2 rfl (by decide) (.slice p l.length q) l.length (flat inC l) (own_keep ho fun _ _ => rfl) ⟨b, o, none⟩ m.length d (flat inC m) (flat_len inC_len m) (fun j u hu => row_cells (w := V) (by decide) inC_len h2 j u hu) (by intro u hu; obtain ⟨y, _, hy⟩ := List.mem_flatMap.1 hu; exact inC_one y u hy) hpos (by unfold maxLen; omega) (by omega) hB V.drew.heap.size rfl
  refine ⟨some ⟨g, 0, none⟩, cap, w', hr, ?_, ?_, fun k hk hne => ?_⟩
  ·exact ((Below.refl B V).drew).grown hg hB (fun k e => (ho.lt k e).1)
  ·rw [List.length_append, flat_append]; exact hown
  ·exact hg.block k hk (Ne.symm hne)
theorem row_from {w : World} {p : Option Addr} {c : Nat} {l : List Ins} (h : RowG 7 inC w (.slice p l.length c) l) (hc : l.length ≤ c) {k : Nat} (hk : k ≤ l.length) : RowG 7 inC w (.slice (sfromG p c k 7) (l.length - k) (c - k)) (l.drop k) := by
 refine ⟨_, _, by rw [List.length_drop], ?_⟩
 by_cases h0 : l.drop k = []
 ·exact .inl h0
 ·have hlt : k < l.length := by
   rcases Nat.lt_or_ge k l.length with q | q
   ·exact q
   ·exact absurd (List.drop_of_length_le q) h0
  obtain ⟨b, o, rfl, _⟩ := h.at hlt
  refine .inr ⟨b, o + k * 7, ?_, fun i hi => ?_⟩
  ·unfold sfromG
   rw [if_neg (by omega)]
   simp only [Option.map_some]
   rw [add_none]
  ·have hi' : k + i < l.length := by rw [List.length_drop] at hi; omega
   obtain ⟨b', o', e, hx⟩ := h.at hi'
   simp only [Option.some.injEq, Addr.mk.injEq, and_true] at e
   obtain ⟨rfl, rfl⟩ := e
   rw [List.getElem_drop, Nat.add_assoc, ← Nat.add_mul]
   exact hx
end Go.Proofs.Ytkdpchlehoomhaa
namespace Go.Proofs.Ytkdpchlehoomhaa
open Go.RowKit
set_option linter.unusedVariables false
set_option linter.unusedSimpArgs false
theorem own4_take {B : Nat} {w : World} {u0 u1 u2 : Value} {p : Option Addr} {q : Nat} {c : Cd} (h : Own4 B w u0 u1 u2 (.slice p c.list.length q) c) {A : Nat} (hA : A ≤ c.list.length) : CdV w u0 u1 u2 (.slice p A q) ⟨c.sign, c.regs, c.slots, c.list.take A⟩ := by
 have ho := own_take h.list hA
 rw [flat_take inC_len c.list A hA] at ho
 have hl : (c.list.take A).length = A := by rw [List.length_take]; omega
 exact ⟨own_row parC_len h.sign, own_row tyC_len h.regs, own_row slC_len h.slots, own_row inC_len (by rw [hl]; exact ho)⟩
theorem own_other {w : World} {B B' : Nat} {t t' : TypeId} {k k' n n' : Nat} {v v' : Value} {xs xs' : List Value} (h : w.ownsRow B t k v n xs) (h' : w.ownsRow B' t' k' v' n' xs') (ht : t ≠ t') : ∀ b, v.ownBlock = some b → v'.ownBlock ≠ some b := by
 intro b hb hb'
 rcases h.2 with ⟨rfl, _⟩ | ⟨g, cap, cur, rfl, _, hg, _⟩
 ·exact absurd (show (none : Option Nat) = some b from hb) (by simp)
 rcases h'.2 with ⟨rfl, _⟩ | ⟨g', cap', cur', rfl, _, hg', _⟩
 ·exact absurd (show (none : Option Nat) = some b from hb') (by simp)
 have e1 : g = b := Option.some.inj hb
 have e2 : g' = b := Option.some.inj hb'
 rw [e1] at hg
 rw [e2, hg] at hg'
 simp only [Option.some.injEq, Obj.cells.injEq] at hg'
 exact ht hg'.2.1
def anyR (d : Int) (l : List Ins) : Bool := l.any fun i => (readsP i (rowP i.op)).any fun n => n == d
structure BW (W : World) (a0 a1 a2 a3 : Value) (D : Nat) (u0 u1 u2 u3 : Value) (v : World) : Prop where
 bel : Below W.heap.size W v
 c : CellsAt v W.heap.size 0 [a0, a1, a2, a3]
 d : v.rowIs D 36 4 (f4 u0 u1 u2 u3)
 hD : W.heap.size < D
theorem BW.next {W : World} {a0 a1 a2 a3 : Value} {D : Nat} {u0 u1 u2 u3 : Value} {v v' : World} (h : BW W a0 a1 a2 a3 D u0 u1 u2 u3 v) (k : Below v.heap.size v v') : BW W a0 a1 a2 a3 D u0 u1 u2 u3 v' :=
 ⟨Go.Proofs.Ytkdpchlehoomhaa.bel h.bel k, h.c.below k, h.d.of_block (k.block _ h.d.lt), h.hD⟩
theorem BW.c3 {W : World} {a0 a1 a2 a3 : Value} {D : Nat} {u0 u1 u2 u3 : Value} {v : World} (h : BW W a0 a1 a2 a3 D u0 u1 u2 u3 v) : v.cell? ⟨W.heap.size, 3, none⟩ = some a3 := by have := h.c.at 3 rfl; rwa [Nat.zero_add] at this
theorem BW.d4 {W : World} {a0 a1 a2 a3 : Value} {D : Nat} {u0 u1 u2 u3 : Value} {v : World} (h : BW W a0 a1 a2 a3 D u0 u1 u2 u3 v) : v.cell? ⟨D, 0, none⟩ = some u0 ∧ v.cell? ⟨D, 1, none⟩ = some u1 ∧ v.cell? ⟨D, 2, none⟩ = some u2 ∧ v.cell? ⟨D, 3, none⟩ = some u3 ∧ v.frozen? ⟨D, 0, none⟩ = false ∧ v.frozen? ⟨D, 1, none⟩ = false ∧ v.frozen? ⟨D, 2, none⟩ = false ∧ v.frozen? ⟨D, 3, none⟩ = false :=
 ⟨h.d.cell (i := 0) (by omega), h.d.cell (i := 1) (by omega), h.d.cell (i := 2) (by omega), h.d.cell (i := 3) (by omega), h.d.frozen 0, h.d.frozen 1, h.d.frozen 2, h.d.frozen 3⟩
structure BX (W : World) (a0 a1 a2 a3 : Value) (D : Nat) (u0 u1 u2 u3 : Value) (C : Nat) (x : Ins) (v : World) : Prop extends BW W a0 a1 a2 a3 D u0 u1 u2 u3 v where
 x : CellsAt v C 0 (inC x)
theorem BX.next {W : World} {a0 a1 a2 a3 : Value} {D : Nat} {u0 u1 u2 u3 : Value} {C : Nat} {x : Ins} {v v' : World} (h : BX W a0 a1 a2 a3 D u0 u1 u2 u3 C x v) (k : Below v.heap.size v v') : BX W a0 a1 a2 a3 D u0 u1 u2 u3 C x v' :=
 ⟨h.toBW.next k, h.x.below k⟩
theorem BX.make {W : World} {a0 a1 a2 a3 : Value} {D : Nat} {u0 u1 u2 u3 : Value} {x : Ins} {v v' : World} (h : BW W a0 a1 a2 a3 D u0 u1 u2 u3 v) (k : Below (v.alloc (.cells #[.int .i64 x.op, .int .i64 x.d, .int .i64 x.a, .int .i64 x.b, .int .i64 x.c, .int .i64 x.n, .int .u32 x.bits] 25)).heap.size (v.alloc (.cells #[.int .i64 x.op, .int .i64 x.d, .int .i64 x.a, .int .i64 x.b, .int .i64 x.c, .int .i64 x.n, .int .u32 x.bits] 25)) v') : BX W a0 a1 a2 a3 D u0 u1 u2 u3 v.heap.size x v' := by
 refine ⟨h.next (Go.Proofs.Ytkdpchlehoomhaa.bel (bel_alloc _ _) k), CellsAt.below ?_ k⟩
 intro j hj
 have hj' : j < 7 := hj
 obtain rfl | rfl | rfl | rfl | rfl | rfl | rfl : j = 0 ∨ j = 1 ∨ j = 2 ∨ j = 3 ∨ j = 4 ∨ j = 5 ∨ j = 6 := by omega
 all_goals simp [go_sem, inC]
theorem BX.x1 {W : World} {a0 a1 a2 a3 : Value} {D : Nat} {u0 u1 u2 u3 : Value} {C : Nat} {x : Ins} {v : World} (h : BX W a0 a1 a2 a3 D u0 u1 u2 u3 C x v) : v.cell? ⟨C, 1, none⟩ = some (.int .i64 x.d) := by have := h.x.at 1 rfl; rwa [Nat.zero_add] at this
theorem reads_le (i : Ins) (r : Rw) : (readsP i r).length ≤ 3 := by unfold readsP; split <;> split <;> split <;> simp
theorem anyR_next {d : Int} {l : List Ins} {i a : Nat} (hi : i < l.length) (ha : a ≤ i) : anyR d ((l.drop a).take (i + 1 - a)) = (anyR d ((l.drop a).take (i - a)) || (readsP l[i] (rowP l[i].op)).any fun n => n == d) := by
 have e : i + 1 - a = (i - a) + 1 := by omega
 have hd : i - a < (l.drop a).length := by rw [List.length_drop]; omega
 rw [e, List.take_succ_eq_append_getElem hd]
 have hg : (l.drop a)[i - a] = l[i] := by rw [List.getElem_drop]; congr 1; omega
 rw [hg]
 unfold anyR
 rw [List.any_append]
 simp
theorem left_made {W w7 : World} {a0 a1 a2 u0 u1 u2 u3 v0 v1 v2 : Value} {b o q3 N D B : Nat} {pp : Option Addr} {qq : Nat} {c : Cd} (hbw : BW W a0 a1 a2 (.slice (some ⟨b, o, none⟩) N q3) D u0 u1 u2 u3 w7) (hown : Own4 B w7 v0 v1 v2 (.slice pp N qq) c) (hDB : D < B) (hB : B ≤ w7.heap.size) (hrow : RowG 7 inC W (.slice (some ⟨b, o, none⟩) N q3) c.list) (hlen : c.list.length = N) (hq : N ≤ q3) {j : Nat} (hj : j < N) (hN : N * 56 ≤ 140737488351232) :
  ∃ V p' c' w', (((w7.setCell ⟨D, 0, none⟩ v0).setCell ⟨D, 1, none⟩ v1).setCell ⟨D, 2, none⟩ v2).setCell ⟨D, 3, none⟩ (.slice pp N qq) = V ∧ V.cell? ⟨D, 3, none⟩ = some (.slice pp N qq) ∧ V.cell? ⟨W.heap.size, 3, none⟩ = some (.slice (some ⟨b, o, none⟩) N q3) ∧
   (Builtin.append_ #[34, 34] 34 #[.slice pp j qq, .slice (sfromG (some ⟨b, o, none⟩) q3 (j + 1) 7) (N - (j + 1)) (q3 - (j + 1))]).run Try.prog V.drew = .ok (.slice p' (j + (N - (j + 1))) c') w' ∧
   w'.cell? ⟨D, 3, none⟩ = some (.slice pp N qq) ∧ w'.frozen? ⟨D, 3, none⟩ = false ∧ w'.cell? ⟨W.heap.size, 3, none⟩ = some (.slice (some ⟨b, o, none⟩) N q3) ∧
   (w'.cell? ⟨D, 0, none⟩ = some v0 ∧ w'.cell? ⟨D, 1, none⟩ = some v1 ∧ w'.cell? ⟨D, 2, none⟩ = some v2) ∧
   CdV (w'.setCell ⟨D, 3, none⟩ (.slice p' (j + (N - (j + 1))) c')) v0 v1 v2 (.slice p' (j + (N - (j + 1))) c') ⟨c.sign, c.regs, c.slots, c.list.take j ++ c.list.drop (j + 1)⟩ ∧ Below W.heap.size W (w'.setCell ⟨D, 3, none⟩ (.slice p' (j + (N - (j + 1))) c')) := by
 subst hlen
 have hWD := hbw.hD
 obtain ⟨V, hV⟩ : ∃ V, (((w7.setCell ⟨D, 0, none⟩ v0).setCell ⟨D, 1, none⟩ v1).setCell ⟨D, 2, none⟩ v2).setCell ⟨D, 3, none⟩ (.slice pp c.list.length qq) = V := ⟨_, rfl⟩
 have hVr : V.rowIs D 36 4 (f4 v0 v1 v2 (.slice pp c.list.length qq)) := by
  rw [← hV]
  exact ((((hbw.d.set 0 v0).set 1 v1).set 2 v2).set 3 _).congr (fun k hk => by
   obtain rfl | rfl | rfl | rfl : k = 0 ∨ k = 1 ∨ k = 2 ∨ k = 3 := by omega
   all_goals rfl)
 have hVo : ∀ g, g ≠ D → V.heap[g]? = w7.heap[g]? := by
  intro g hg
  rw [← hV, Below.heap_setCell _ _ _ _ hg, Below.heap_setCell _ _ _ _ hg, Below.heap_setCell _ _ _ _ hg, Below.heap_setCell _ _ _ _ hg]
 have hVs : V.heap.size = w7.heap.size := by rw [← hV]; simp [World.setCell]
 have hle : W.heap.size ≤ D := by omega
 have hVb : Below W.heap.size W V := by rw [← hV]; exact (((hbw.bel.setCell hle _).setCell hle _).setCell hle _).setCell hle _
 have kO : ∀ {t : TypeId} {k : Nat} {v : Value} {n : Nat} {xs : List Value}, w7.ownsRow B t k v n xs → V.ownsRow B t k v n xs := fun h => own_keep h fun g hg => hVo g (by have := (h.lt g hg).1; omega)
 have hlt : (c.list.take j).length = j := by rw [List.length_take]; omega
 have htake := own_take (kO hown.list) (m := j) (by omega)
 rw [flat_take inC_len c.list j (by omega)] at htake
 have ht' : V.ownsRow B 25 7 (.slice pp (c.list.take j).length qq) (c.list.take j).length (flat inC (c.list.take j)) := by rw [hlt]; exact htake
 have hr' : RowG 7 inC V (.slice (sfromG (some ⟨b, o, none⟩) q3 (j + 1) 7) (c.list.drop (j + 1)).length (q3 - (j + 1))) (c.list.drop (j + 1)) := by rw [List.length_drop]; exact row_from (hrow.below hVb) hq (by omega)
 obtain ⟨p', c', w', hap, hb', ho', hoth⟩ := app_tail ht' hr' (by omega) (by rw [hlt, List.length_drop]; omega)
 rw [hlt, List.length_drop] at hap ho'
 rw [hlt] at hoth
 have hD' : w'.heap[D]? = V.heap[D]? := hoth D hVr.lt (fun e => by have := (htake.lt D e).1; omega)
 have hr2 := hVr.of_block hD'
 have hX : ∀ g, g ≠ D → (w'.setCell ⟨D, 3, none⟩ (.slice p' (j + (c.list.length - (j + 1))) c')).heap[g]? = w'.heap[g]? := fun g hg => Below.heap_setCell _ _ _ _ hg
 have kX : ∀ {t : TypeId} {k : Nat} {v : Value} {n : Nat} {xs : List Value}, t ≠ 25 → w7.ownsRow B t k v n xs → (w'.setCell ⟨D, 3, none⟩ (.slice p' (j + (c.list.length - (j + 1))) c')).ownsRow B t k v n xs := fun ht h => own_keep (kO h) fun g hg => by
  have hlg := (kO h).lt g hg
  rw [hX g (by omega)]
  exact hoth g hlg.2 (fun e => own_other (kO h) htake ht g hg e)
 have hc3V : V.cell? ⟨W.heap.size, 3, none⟩ = some (.slice (some ⟨b, o, none⟩) c.list.length q3) := (World.cell?_of_block (w := w7) (hVo W.heap.size (by omega))).trans hbw.c3
 refine ⟨V, p', c', w', hV, hVr.cell (i := 3) (by omega), hc3V, hap, hr2.cell (i := 3) (by omega), hr2.frozen 3, ?_, ⟨hr2.cell (i := 0) (by omega), hr2.cell (i := 1) (by omega), hr2.cell (i := 2) (by omega)⟩, ?_, ?_⟩
 ·exact (World.cell?_of_block (w := V) (hb'.block W.heap.size (by omega))).trans hc3V
 ·exact ⟨own_row parC_len (kX (by decide) hown.sign), own_row tyC_len (kX (by decide) hown.regs), own_row slC_len (kX (by decide) hown.slots), own_row inC_len (own_keep ho' fun g hg => hX g (by have := (ho'.lt g hg).1; omega))⟩
 ·exact (hVb.trans (hb'.mono (by omega))).setCell hle _
end Go.Proofs.Ytkdpchlehoomhaa
