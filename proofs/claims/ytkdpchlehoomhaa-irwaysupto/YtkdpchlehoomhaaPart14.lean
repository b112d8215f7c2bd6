import Derived.Test.YtkdpchlehoomhaaPart13
import Derived.Test.YtkdpchlehoomhaaPart1
namespace Go.Proofs.Ytkdpchlehoomhaa
open Go.RowKit
set_option linter.unusedVariables false
set_option linter.unusedSimpArgs false
theorem parC_one : ∀ x : Par, ∀ u ∈ parCells x, u.oneCell' = true := fun x u hu => by simp [parCells] at hu; rcases hu with rfl | rfl | rfl <;> rfl
theorem tyC_one : ∀ x : Ty, ∀ u ∈ tyC x, u.oneCell' = true := fun x u hu => by simp [tyC] at hu; rcases hu with rfl | rfl <;> rfl
theorem slC_one : ∀ x : Sl, ∀ u ∈ slC x, u.oneCell' = true := fun x u hu => by simp [slC] at hu; rcases hu with rfl | rfl | rfl | rfl | rfl <;> rfl
theorem info_Type : (Try.prog.info? 65).map (fun i => (i.zero, i.size, i.bytes)) = some (some (.agg #[.int .i64 0, .int .i64 0]), 2, 16) := by kernel_rfl
theorem info_Slot : (Try.prog.info? 68).map (fun i => (i.zero, i.size, i.bytes)) = some (some (.agg #[.int .i64 0, .int .i64 0, .bool false, .int .u32 0, .int .i64 0]), 5, 32) := by kernel_rfl
theorem app_Par {l : List Par} {v : Value} {w : World} (h : RowG 3 parCells w v l) (hl : l.length * 32 ≤ 140737488355328) (ty : TypeId) :
  ∃ v' w', (Builtin.append_ #[31, 31] ty #[.slice none 0 0, v]).run Try.prog w = .ok v' w' ∧ Below w.heap.size w w' ∧ w'.ownsRow w.heap.size 62 3 v' l.length (flat parCells l) := by
 obtain ⟨i0, hi0, hz0, hz1, hz2⟩ := info_parts info_Param
 exact app_rowG (by decide) parC_len parC_one Try.underlying31 hi0 hz0 hz1 hz2 rfl h (by unfold maxLen; omega) hl ty
theorem app_Ty {l : List Ty} {v : Value} {w : World} (h : RowG 2 tyC w v l) (hl : l.length * 16 ≤ 140737488355328) (ty : TypeId) :
  ∃ v' w', (Builtin.append_ #[32, 32] ty #[.slice none 0 0, v]).run Try.prog w = .ok v' w' ∧ Below w.heap.size w w' ∧ w'.ownsRow w.heap.size 65 2 v' l.length (flat tyC l) := by
 obtain ⟨i0, hi0, hz0, hz1, hz2⟩ := info_parts info_Type
 exact app_rowG (by decide) tyC_len tyC_one Try.underlying32 hi0 hz0 hz1 hz2 rfl h (by unfold maxLen; omega) hl ty
theorem app_Sl {l : List Sl} {v : Value} {w : World} (h : RowG 5 slC w v l) (hl : l.length * 32 ≤ 140737488355328) (ty : TypeId) :
  ∃ v' w', (Builtin.append_ #[33, 33] ty #[.slice none 0 0, v]).run Try.prog w = .ok v' w' ∧ Below w.heap.size w w' ∧ w'.ownsRow w.heap.size 68 5 v' l.length (flat slC l) := by
 obtain ⟨i0, hi0, hz0, hz1, hz2⟩ := info_parts info_Slot
 exact app_rowG (by decide) slC_len slC_one Try.underlying33 hi0 hz0 hz1 hz2 rfl h (by unfold maxLen; omega) hl ty
def f4 (a b c d : Value) (j : Nat) : Value := if j = 0 then a else if j = 1 then b else if j = 2 then c else d
structure CW (w : World) (v0 v1 v2 v3 x0 x1 x2 x3 : Value) (v : World) : Prop where
 bel : Below w.heap.size w v
 c : CellsAt v w.heap.size 0 [v0, v1, v2, v3]
 r : v.rowIs (w.heap.size + 1) 36 4 (f4 (.slice none 0 0) (.slice none 0 0) (.slice none 0 0) (.slice none 0 0))
 d : v.rowIs (w.heap.size + 1 + 1) 36 4 (f4 x0 x1 x2 x3)
theorem CW.app {w : World} {v0 v1 v2 v3 x0 x1 x2 x3 : Value} {v v' : World} (h : CW w v0 v1 v2 v3 x0 x1 x2 x3 v) (k : Below v.heap.size v v') : CW w v0 v1 v2 v3 x0 x1 x2 x3 v' :=
 ⟨Go.Proofs.Ytkdpchlehoomhaa.bel h.bel k, h.c.below k, h.r.of_block (k.block _ h.r.lt), h.d.of_block (k.block _ h.d.lt)⟩
theorem CW.put {w : World} {v0 v1 v2 v3 x0 x1 x2 x3 y0 y1 y2 y3 : Value} {v : World} (h : CW w v0 v1 v2 v3 x0 x1 x2 x3 v) (i : Nat) (x : Value) (e : ∀ j, j < 4 → (if j = i then x else f4 x0 x1 x2 x3 j) = f4 y0 y1 y2 y3 j) : CW w v0 v1 v2 v3 y0 y1 y2 y3 (v.setCell ⟨w.heap.size + 1 + 1, i, none⟩ x) := by
 have nb : ∀ b, b ≠ w.heap.size + 1 + 1 → (v.setCell ⟨w.heap.size + 1 + 1, i, none⟩ x).heap[b]? = v.heap[b]? := fun b hb => Below.heap_setCell _ _ _ _ hb
 exact ⟨h.bel.setCell (by show w.heap.size ≤ w.heap.size + 1 + 1; omega) _, h.c.of_block (nb _ (by omega)), h.r.of_block (nb _ (by omega)), (h.d.set i x).congr e⟩
theorem CW.start (w : World) (v0 v1 v2 v3 : Value) : CW w v0 v1 v2 v3 (.slice none 0 0) (.slice none 0 0) (.slice none 0 0) (.slice none 0 0) (((w.alloc (.cells #[v0, v1, v2, v3] 36)).alloc (.cells #[.slice none 0 0, .slice none 0 0, .slice none 0 0, .slice none 0 0] 36)).alloc (.cells #[.slice none 0 0, .slice none 0 0, .slice none 0 0, .slice none 0 0] 36)) := by
 have q : ∀ u : World, (u.alloc (.cells #[.slice none 0 0, .slice none 0 0, .slice none 0 0, .slice none 0 0] 36)).rowIs u.heap.size 36 4 (f4 (.slice none 0 0) (.slice none 0 0) (.slice none 0 0) (.slice none 0 0)) := fun u => World.rowIs_alloc u #[.slice none 0 0, .slice none 0 0, .slice none 0 0, .slice none 0 0] 36 _ (fun i hi => by
  have hi' : i < 4 := hi
  obtain rfl | rfl | rfl | rfl : i = 0 ∨ i = 1 ∨ i = 2 ∨ i = 3 := by omega
  all_goals rfl)
 have h1 := q (w.alloc (.cells #[v0, v1, v2, v3] 36))
 have h2 := q ((w.alloc (.cells #[v0, v1, v2, v3] 36)).alloc (.cells #[.slice none 0 0, .slice none 0 0, .slice none 0 0, .slice none 0 0] 36))
 have s1 : (w.alloc (.cells #[v0, v1, v2, v3] 36)).heap.size = w.heap.size + 1 := by simp
 have s2 : ((w.alloc (.cells #[v0, v1, v2, v3] 36)).alloc (.cells #[.slice none 0 0, .slice none 0 0, .slice none 0 0, .slice none 0 0] 36)).heap.size = w.heap.size + 1 + 1 := by simp
 rw [s1] at h1
 rw [s2] at h2
 refine ⟨Go.Proofs.Ytkdpchlehoomhaa.bel (Go.Proofs.Ytkdpchlehoomhaa.bel (bel_alloc _ _) (bel_alloc _ _)) (bel_alloc _ _), fun j hj => ?_, h1.alloc _, h2⟩
 have hj' : j < 4 := hj
 obtain rfl | rfl | rfl | rfl : j = 0 ∨ j = 1 ∨ j = 2 ∨ j = 3 := by omega
 all_goals simp [go_sem]
def Up (E : Nat) (v v' : World) : Prop := v.heap.size ≤ v'.heap.size ∧ ∀ b, E ≤ b → b < v.heap.size → v'.heap[b]? = v.heap[b]?
theorem Up.of {E : Nat} {v v' : World} (k : Below v.heap.size v v') : Up E v v' := ⟨k.size, fun b _ hb => k.block b hb⟩
theorem Up.set {E : Nat} (v : World) {D : Nat} (hD : D < E) (i : Nat) (x : Value) : Up E v (v.setCell ⟨D, i, none⟩ x) := ⟨by simp, fun b hb _ => Below.heap_setCell _ _ _ _ (by show b ≠ D; omega)⟩
theorem Up.trans {E : Nat} {a b c : World} (h : Up E a b) (k : Up E b c) : Up E a c := ⟨Nat.le_trans h.1 k.1, fun x hx hl => (k.2 x hx (Nat.lt_of_lt_of_le hl h.1)).trans (h.2 x hx hl)⟩
theorem Up.own {E B : Nat} {v v' : World} {t : TypeId} {k n : Nat} {u : Value} {xs : List Value} (h : Up E v v') (ho : v.ownsRow B t k u n xs) (hB : E ≤ B) : v'.ownsRow B t k u n xs := own_keep ho fun g hg => h.2 g (Nat.le_trans hB (ho.lt g hg).1) (ho.lt g hg).2
structure Own4 (B : Nat) (w : World) (u0 u1 u2 u3 : Value) (c : Cd) : Prop where
 sign : w.ownsRow B 62 3 u0 c.sign.length (flat parCells c.sign)
 regs : w.ownsRow B 65 2 u1 c.regs.length (flat tyC c.regs)
 slots : w.ownsRow B 68 5 u2 c.slots.length (flat slC c.slots)
 list : w.ownsRow B 25 7 u3 c.list.length (flat inC c.list)
structure CdSz (c : Cd) : Prop where
 s : c.sign.length * 32 ≤ 140737488351232
 r : c.regs.length * 16 ≤ 140737488351232
 l : c.slots.length * 32 ≤ 140737488351232
 i : c.list.length * 56 ≤ 140737488351232
set_option maxRecDepth 100000 in
set_option maxHeartbeats 4000000 in
theorem copied_any (v0 v1 v2 v3 : Value) (c : Cd) (hz : CdSz c) (w : World) (hv : CdV w v0 v1 v2 v3 c) :
  Calls Try.prog 17 #[.agg #[v0, v1, v2, v3]] w fun e w' => ∃ u0 u1 u2 u3, e = .returned (.agg #[u0, u1, u2, u3]) ∧ CdV w' u0 u1 u2 u3 c ∧ Own4 w.heap.size w' u0 u1 u2 u3 c ∧ Below w.heap.size w w' := by
 have s0 := hz.s
 have s1 := hz.r
 have s2 := hz.l
 have s3 := hz.i
 have C0 := CW.start w v0 v1 v2 v3
 obtain ⟨W0, hW0⟩ : ∃ W, ((w.alloc (.cells #[v0, v1, v2, v3] 36)).alloc (.cells #[.slice none 0 0, .slice none 0 0, .slice none 0 0, .slice none 0 0] 36)).alloc (.cells #[.slice none 0 0, .slice none 0 0, .slice none 0 0, .slice none 0 0] 36) = W := ⟨_, rfl⟩
 have hE : W0.heap.size = w.heap.size + 1 + 1 + 1 := by rw [← hW0]; simp
 rw [hW0] at C0
 have U0 : Up (w.heap.size + 1 + 1 + 1) W0 W0 := ⟨Nat.le_refl _, fun _ _ _ => rfl⟩
 obtain ⟨z0, w1, r0, b0, o0⟩ := app_Par (hv.sign.below C0.bel) (by omega) 31
 obtain ⟨p0, q0, rfl⟩ := own_len o0
 have D0 := C0.app b0
 have c00 := C0.c.at 0 rfl
 have c01 : W0.cell? ⟨w.heap.size + 1 + 1, 0, none⟩ = some (.slice none 0 0) := C0.d.cell (i := 0) (by decide)
 have c02 : w1.cell? ⟨w.heap.size + 1 + 1, 0, none⟩ = some (.slice none 0 0) := D0.d.cell (i := 0) (by decide)
 have c03 := D0.d.frozen 0
 rw [Nat.zero_add] at c00
 have C1 := D0.put (y0 := (.slice p0 c.sign.length q0)) (y1 := (.slice none 0 0)) (y2 := (.slice none 0 0)) (y3 := (.slice none 0 0)) 0 (.slice p0 c.sign.length q0) (by intro j hj; rcases (show j = 0 ∨ j = 1 ∨ j = 2 ∨ j = 3 by omega) with rfl | rfl | rfl | rfl <;> rfl)
 obtain ⟨V1, hV1⟩ : ∃ V, w1.setCell ⟨w.heap.size + 1 + 1, 0, none⟩ (.slice p0 c.sign.length q0) = V := ⟨_, rfl⟩
 have U1 : Up (w.heap.size + 1 + 1 + 1) W0 V1 := by rw [← hV1]; exact (Up.of b0).trans (Up.set _ (by omega) _ _)
 have T1 : Up (w.heap.size + 1 + 1 + 1) w1 V1 := by rw [← hV1]; exact Up.set _ (by omega) _ _
 have HV0 : Hid (w1.setCell ⟨w.heap.size + 1 + 1, 0, none⟩ (.slice p0 c.sign.length q0) = V1) := hV1
 rw [hV1] at C1
 have HR0 : Hid ((Builtin.append_ #[31, 31] 31 #[.slice none 0 0, v0]).run Try.prog W0 = .ok (.slice p0 c.sign.length q0) w1) := r0
 have e0 : w.heap.size + 1 + 1 + 1 ≤ W0.heap.size := by have := U0.1; omega
 obtain ⟨z1, w2, r1, b1, o1⟩ := app_Ty (hv.regs.below C1.bel) (by omega) 32
 obtain ⟨p1, q1, rfl⟩ := own_len o1
 have D1 := C1.app b1
 have c10 := C1.c.at 1 rfl
 have c11 : V1.cell? ⟨w.heap.size + 1 + 1, 1, none⟩ = some (.slice none 0 0) := C1.d.cell (i := 1) (by decide)
 have c12 : w2.cell? ⟨w.heap.size + 1 + 1, 1, none⟩ = some (.slice none 0 0) := D1.d.cell (i := 1) (by decide)
 have c13 := D1.d.frozen 1
 rw [Nat.zero_add] at c10
 have C2 := D1.put (y0 := (.slice p0 c.sign.length q0)) (y1 := (.slice p1 c.regs.length q1)) (y2 := (.slice none 0 0)) (y3 := (.slice none 0 0)) 1 (.slice p1 c.regs.length q1) (by intro j hj; rcases (show j = 0 ∨ j = 1 ∨ j = 2 ∨ j = 3 by omega) with rfl | rfl | rfl | rfl <;> rfl)
 obtain ⟨V2, hV2⟩ : ∃ V, w2.setCell ⟨w.heap.size + 1 + 1, 1, none⟩ (.slice p1 c.regs.length q1) = V := ⟨_, rfl⟩
 have U2 : Up (w.heap.size + 1 + 1 + 1) V1 V2 := by rw [← hV2]; exact (Up.of b1).trans (Up.set _ (by omega) _ _)
 have T2 : Up (w.heap.size + 1 + 1 + 1) w2 V2 := by rw [← hV2]; exact Up.set _ (by omega) _ _
 have HV1 : Hid (w2.setCell ⟨w.heap.size + 1 + 1, 1, none⟩ (.slice p1 c.regs.length q1) = V2) := hV2
 rw [hV2] at C2
 have HR1 : Hid ((Builtin.append_ #[32, 32] 32 #[.slice none 0 0, v1]).run Try.prog V1 = .ok (.slice p1 c.regs.length q1) w2) := r1
 have e1 : w.heap.size + 1 + 1 + 1 ≤ V1.heap.size := by have := U1.1; omega
 obtain ⟨z2, w3, r2, b2, o2⟩ := app_Sl (hv.slots.below C2.bel) (by omega) 33
 obtain ⟨p2, q2, rfl⟩ := own_len o2
 have D2 := C2.app b2
 have c20 := C2.c.at 2 rfl
 have c21 : V2.cell? ⟨w.heap.size + 1 + 1, 2, none⟩ = some (.slice none 0 0) := C2.d.cell (i := 2) (by decide)
 have c22 : w3.cell? ⟨w.heap.size + 1 + 1, 2, none⟩ = some (.slice none 0 0) := D2.d.cell (i := 2) (by decide)
 have c23 := D2.d.frozen 2
 rw [Nat.zero_add] at c20
 have C3 := D2.put (y0 := (.slice p0 c.sign.length q0)) (y1 := (.slice p1 c.regs.length q1)) (y2 := (.slice p2 c.slots.length q2)) (y3 := (.slice none 0 0)) 2 (.slice p2 c.slots.length q2) (by intro j hj; rcases (show j = 0 ∨ j = 1 ∨ j = 2 ∨ j = 3 by omega) with rfl | rfl | rfl | rfl <;> rfl)
 obtain ⟨V3, hV3⟩ : ∃ V, w3.setCell ⟨w.heap.size + 1 + 1, 2, none⟩ (.slice p2 c.slots.length q2) = V := ⟨_, rfl⟩
 have U3 : Up (w.heap.size + 1 + 1 + 1) V2 V3 := by rw [← hV3]; exact (Up.of b2).trans (Up.set _ (by omega) _ _)
 have T3 : Up (w.heap.size + 1 + 1 + 1) w3 V3 := by rw [← hV3]; exact Up.set _ (by omega) _ _
 have HV2 : Hid (w3.setCell ⟨w.heap.size + 1 + 1, 2, none⟩ (.slice p2 c.slots.length q2) = V3) := hV3
 rw [hV3] at C3
 have HR2 : Hid ((Builtin.append_ #[33, 33] 33 #[.slice none 0 0, v2]).run Try.prog V2 = .ok (.slice p2 c.slots.length q2) w3) := r2
 have e2 : w.heap.size + 1 + 1 + 1 ≤ V2.heap.size := by have := U2.1; omega
 obtain ⟨z3, w4, r3, b3, o3⟩ := app_ins (hv.list.below C3.bel) (by omega) 34
 obtain ⟨p3, q3, rfl⟩ := own_len o3
 have D3 := C3.app b3
 have c30 := C3.c.at 3 rfl
 have c31 : V3.cell? ⟨w.heap.size + 1 + 1, 3, none⟩ = some (.slice none 0 0) := C3.d.cell (i := 3) (by decide)
 have c32 : w4.cell? ⟨w.heap.size + 1 + 1, 3, none⟩ = some (.slice none 0 0) := D3.d.cell (i := 3) (by decide)
 have c33 := D3.d.frozen 3
 rw [Nat.zero_add] at c30
 have C4 := D3.put (y0 := (.slice p0 c.sign.length q0)) (y1 := (.slice p1 c.regs.length q1)) (y2 := (.slice p2 c.slots.length q2)) (y3 := (.slice p3 c.list.length q3)) 3 (.slice p3 c.list.length q3) (by intro j hj; rcases (show j = 0 ∨ j = 1 ∨ j = 2 ∨ j = 3 by omega) with rfl | rfl | rfl | rfl <;> rfl)
 obtain ⟨V4, hV4⟩ : ∃ V, w4.setCell ⟨w.heap.size + 1 + 1, 3, none⟩ (.slice p3 c.list.length q3) = V := ⟨_, rfl⟩
 have U4 : Up (w.heap.size + 1 + 1 + 1) V3 V4 := by rw [← hV4]; exact (Up.of b3).trans (Up.set _ (by omega) _ _)
 have T4 : Up (w.heap.size + 1 + 1 + 1) w4 V4 := by rw [← hV4]; exact Up.set _ (by omega) _ _
 have HV3 : Hid (w4.setCell ⟨w.heap.size + 1 + 1, 3, none⟩ (.slice p3 c.list.length q3) = V4) := hV4
 rw [hV4] at C4
 have HR3 : Hid ((Builtin.append_ #[34, 34] 34 #[.slice none 0 0, v3]).run Try.prog V3 = .ok (.slice p3 c.list.length q3) w4) := r3
 have e3 : w.heap.size + 1 + 1 + 1 ≤ V3.heap.size := by have := U3.1; omega
 have U5 : Up (w.heap.size + 1 + 1 + 1) V4 ((((V4.setCell ⟨w.heap.size + 1, 0, none⟩ (.slice p0 c.sign.length q0)).setCell ⟨w.heap.size + 1, 1, none⟩ (.slice p1 c.regs.length q1)).setCell ⟨w.heap.size + 1, 2, none⟩ (.slice p2 c.slots.length q2)).setCell ⟨w.heap.size + 1, 3, none⟩ (.slice p3 c.list.length q3)) := (((Up.set _ (by omega) _ _).trans (Up.set _ (by omega) _ _)).trans (Up.set _ (by omega) _ _)).trans (Up.set _ (by omega) _ _)
 have HF : Hid (CdV ((((V4.setCell ⟨w.heap.size + 1, 0, none⟩ (.slice p0 c.sign.length q0)).setCell ⟨w.heap.size + 1, 1, none⟩ (.slice p1 c.regs.length q1)).setCell ⟨w.heap.size + 1, 2, none⟩ (.slice p2 c.slots.length q2)).setCell ⟨w.heap.size + 1, 3, none⟩ (.slice p3 c.list.length q3)) (.slice p0 c.sign.length q0) (.slice p1 c.regs.length q1) (.slice p2 c.slots.length q2) (.slice p3 c.list.length q3) c ∧ Own4 w.heap.size (((((V4.setCell ⟨w.heap.size + 1, 0, none⟩ (.slice p0 c.sign.length q0)).setCell ⟨w.heap.size + 1, 1, none⟩ (.slice p1 c.regs.length q1)).setCell ⟨w.heap.size + 1, 2, none⟩ (.slice p2 c.slots.length q2)).setCell ⟨w.heap.size + 1, 3, none⟩ (.slice p3 c.list.length q3))) (.slice p0 c.sign.length q0) (.slice p1 c.regs.length q1) (.slice p2 c.slots.length q2) (.slice p3 c.list.length q3) c ∧ Below w.heap.size w ((((V4.setCell ⟨w.heap.size + 1, 0, none⟩ (.slice p0 c.sign.length q0)).setCell ⟨w.heap.size + 1, 1, none⟩ (.slice p1 c.regs.length q1)).setCell ⟨w.heap.size + 1, 2, none⟩ (.slice p2 c.slots.length q2)).setCell ⟨w.heap.size + 1, 3, none⟩ (.slice p3 c.list.length q3))) := by
  have g0 := ((((T1.trans U2).trans U3).trans U4).trans U5).own o0 e0
  have g1 := (((T2.trans U3).trans U4).trans U5).own o1 e1
  have g2 := ((T3.trans U4).trans U5).own o2 e2
  have g3 := (T4.trans U5).own o3 e3
  refine ⟨⟨own_row parC_len g0, own_row tyC_len g1, own_row slC_len g2, own_row inC_len g3⟩, ⟨own_mono g0 (by omega), own_mono g1 (by omega), own_mono g2 (by omega), own_mono g3 (by omega)⟩, ?_⟩
  exact (((C4.bel.setCell (by show w.heap.size ≤ w.heap.size + 1; omega) _).setCell (by show w.heap.size ≤ w.heap.size + 1; omega) _).setCell (by show w.heap.size ≤ w.heap.size + 1; omega) _).setCell (by show w.heap.size ≤ w.heap.size + 1; omega) _
 have m0 : V4.cell? ⟨w.heap.size + 1 + 1, 0, none⟩ = some (.slice p0 c.sign.length q0) := C4.d.cell (i := 0) (by decide)
 have m1 : V4.cell? ⟨w.heap.size + 1 + 1, 1, none⟩ = some (.slice p1 c.regs.length q1) := C4.d.cell (i := 1) (by decide)
 have m2 : V4.cell? ⟨w.heap.size + 1 + 1, 2, none⟩ = some (.slice p2 c.slots.length q2) := C4.d.cell (i := 2) (by decide)
 have m3 : V4.cell? ⟨w.heap.size + 1 + 1, 3, none⟩ = some (.slice p3 c.list.length q3) := C4.d.cell (i := 3) (by decide)
 have k0 : V4.cell? ⟨w.heap.size + 1, 0, none⟩ = some (.slice none 0 0) := C4.r.cell (i := 0) (by decide)
 have k1 : V4.cell? ⟨w.heap.size + 1, 1, none⟩ = some (.slice none 0 0) := C4.r.cell (i := 1) (by decide)
 have k2 : V4.cell? ⟨w.heap.size + 1, 2, none⟩ = some (.slice none 0 0) := C4.r.cell (i := 2) (by decide)
 have k3 : V4.cell? ⟨w.heap.size + 1, 3, none⟩ = some (.slice none 0 0) := C4.r.cell (i := 3) (by decide)
 have y0 := C4.r.frozen 0
 have y1 := C4.r.frozen 1
 have y2 := C4.r.frozen 2
 have y3 := C4.r.frozen 3
 have HW : Hid (((w.alloc (.cells #[v0, v1, v2, v3] 36)).alloc (.cells #[.slice none 0 0, .slice none 0 0, .slice none 0 0, .slice none 0 0] 36)).alloc (.cells #[.slice none 0 0, .slice none 0 0, .slice none 0 0, .slice none 0 0] 36) = W0) := hW0
 clear C0 C1 C2 C3 C4 D0 D1 D2 D3 U0 U1 U2 U3 U4 U5 T1 T2 T3 T4 o0 o1 o2 o3 b0 b1 b2 b3 r0 r1 r2 r3 hv hz hV1 hV2 hV3 hV4 hW0 e0 e1 e2 e3 hE
 go_enter Try.func17, Try.ntmps17
 go_upto_region 2 with fail
 rw [HW.out]
 go_upto_region 3 with (at_builtin; refine wpList_app (by rfl) _ _ _ (by rfl) _ _ _ (by rfl) (by rfl) HR0.out ?_)
 rw [HV0.out]
 go_upto_region 4 with (at_builtin; refine wpList_app (by rfl) _ _ _ (by rfl) _ _ _ (by rfl) (by rfl) HR1.out ?_)
 rw [HV1.out]
 go_upto_region 5 with (at_builtin; refine wpList_app (by rfl) _ _ _ (by rfl) _ _ _ (by rfl) (by rfl) HR2.out ?_)
 rw [HV2.out]
 go_upto_region 6 with (at_builtin; refine wpList_app (by rfl) _ _ _ (by rfl) _ _ _ (by rfl) (by rfl) HR3.out ?_)
 rw [HV3.out]
 go_wp2
 refine bodyPost_ret (by simp [results, Try.results17, go_sem, *]; try rfl) rfl ?_
 exact ⟨_, _, _, _, rfl, HF.out.1, HF.out.2.1, HF.out.2.2⟩
end Go.Proofs.Ytkdpchlehoomhaa
namespace Go.Proofs.Ytkdpchlehoomhaa
set_option linter.unusedVariables false
set_option linter.unusedSimpArgs false
def runP : Wk → List Ins → Wk
 | s, [] => s
 | s, i :: r => runP (stepP s i) r
def takenP (c : Cd) : Wk → List Ins → Bool
 | _, [] => true
 | s, i :: r => takesP c s i && takenP c (stepP s i) r
theorem runP_append : ∀ (l m : List Ins) (s : Wk), runP s (l ++ m) = runP (runP s l) m
 | [], m, s => rfl
 | i :: l, m, s => by simp only [List.cons_append, runP]; exact runP_append l m _
theorem takenP_append (c : Cd) : ∀ (l m : List Ins) (s : Wk), takenP c s (l ++ m) = (takenP c s l && takenP c (runP s l) m)
 | [], m, s => by simp [takenP, runP]
 | i :: l, m, s => by simp only [List.cons_append, takenP, runP, takenP_append c l m, Bool.and_assoc]
theorem goP_ok {c : Cd} : ∀ {l : List Ins} {s : Wk} {k : Nat}, (goP c s k l).1 = 0 ↔ takenP c s l = true ∧ (runP s l).opens.isEmpty = true
 | [], s, k => by
  simp only [goP, takenP, runP, true_and]
  by_cases h : s.opens.isEmpty = true
  ·simp [h]
  ·simp [h]
 | i :: l, s, k => by
  simp only [goP, takenP, runP, Bool.and_eq_true]
  by_cases h : takesP c s i = true
  ·rw [if_pos h, goP_ok (k := k + 1)]
   simp [h]
  ·rw [if_neg h]
   simp [h]
theorem takenP_list (c : Cd) (x : List Ins) : ∀ (l : List Ins) (s : Wk), takenP ⟨c.sign, c.regs, c.slots, x⟩ s l = takenP c s l
 | [], s => rfl
 | i :: l, s => by simp only [takenP, takenP_list c x l]; rfl
theorem aheadP_list {c : Cd} {x : List Ins} (h : aheadP c = 0) (hl : x.length ≤ c.list.length) : aheadP ⟨c.sign, c.regs, c.slots, x⟩ = 0 := by
 unfold aheadP at h ⊢
 have h1 : checkP c.sign = 0 := by
  by_cases e : checkP c.sign = 0
  ·exact e
  ·rw [if_pos e] at h; exact absurd h e
 have hm : typesMay ⟨c.sign, c.regs, c.slots, x⟩ = typesMay c := rfl
 have hs : slotsMay ⟨c.sign, c.regs, c.slots, x⟩ = slotsMay c := rfl
 rw [if_neg (by simp [h1])] at h ⊢
 by_cases e1 : 16384 < c.regs.length ∨ 32768 < c.list.length
 ·rw [if_pos e1] at h; exact absurd h (by decide)
 ·rw [if_neg e1] at h
  rw [if_neg (by show ¬ (16384 < c.regs.length ∨ 32768 < x.length); omega)]
  by_cases e2 : 4096 < c.slots.length
  ·rw [if_pos e2] at h; exact absurd h (by decide)
  ·rw [if_neg e2] at h
   rw [if_neg (by exact e2), hm, hs]
   exact h
theorem checkC_ok {c : Cd} : (checkC c).1 = 0 ↔ aheadP c = 0 ∧ takenP c ⟨[], []⟩ c.list = true ∧ (runP ⟨[], []⟩ c.list).opens.isEmpty = true := by
 unfold checkC
 by_cases h : aheadP c = 0
 ·rw [if_neg (by simp [h]), goP_ok]; simp [h]
 ·rw [if_pos h]; simp [h]
theorem addP_opens (s : Wk) (i : Ins) (r : Rw) : (addP s i r).opens = s.opens := by unfold addP; split <;> rfl
end Go.Proofs.Ytkdpchlehoomhaa
namespace Go.Proofs.Ytkdpchlehoomhaa
open Go.RowKit
set_option linter.unusedVariables false
set_option linter.unusedSimpArgs false
set_option maxRecDepth 100000 in
theorem app_none (p : Option Addr) (n c : Nat) (x : Option Addr) (d : Nat) (hn : n ≤ c) (hm : n ≤ 140737488351232) (ty : TypeId) (w : World) : (Builtin.append_ #[34, 34] ty #[.slice p n c, .slice x 0 d]).run Try.prog w = .ok (.slice p n c) w := by
 obtain ⟨i0, hi0, hz0, hz1, hz2⟩ := info_parts info_Inst
 have h1 : ¬ c < n := by omega
 cases x with
 | none => cases p <;> simp [Builtin.append_, run_underlying Try.underlying34, sizeOf, typeInfo, hi0, Builtin.lenOf, Builtin.firstCells, storeCells, loadCells, loadCellsFrom, hn, h1]
 | some a => cases p <;> simp [Builtin.append_, run_underlying Try.underlying34, sizeOf, typeInfo, hi0, Builtin.lenOf, Builtin.firstCells, storeCells, loadCells, loadCellsFrom, hn, h1]
end Go.Proofs.Ytkdpchlehoomhaa
namespace Go.Proofs.Ytkdpchlehoomhaa
open Go.RowKit
set_option linter.unusedVariables false
set_option linter.unusedSimpArgs false
theorem own_other {w : World} {B B' : Nat} {t t' : TypeId} {k k' n n' : Nat} {v v' : Value} {xs xs' : List Value} (h : w.ownsRow B t k v n xs) (h' : w.ownsRow B' t' k' v' n' xs') (ht : t ≠ t') : ∀ b, v.ownBlock = some b → v'.ownBlock ≠ some b := by
 intro b hb hb'
 rcases h.2 with ⟨rfl, _⟩ | ⟨g, cap, cur, rfl, _, hg, _⟩
 ·exact absurd (show (none : Option Nat) = some b from hb) (by simp)
 rcases h'.2 with ⟨rfl, _⟩ | ⟨g', cap', cur', rfl, _, hg', _⟩
 ·exact absurd (show (none : Option Nat) = some b from hb') (by simp)
 have e1 : g = b := Option.some.inj hb
 have e2 : g' = b := Option.some.inj hb'
 rw [e1] at hg
 rw [e2, hg] at hg'
 simp only [Option.some.injEq, Obj.cells.injEq] at hg'
 exact ht hg'.2.1
theorem reads_le (i : Ins) (r : Rw) : (readsP i r).length ≤ 3 := by unfold readsP; split <;> split <;> split <;> simp
end Go.Proofs.Ytkdpchlehoomhaa
namespace Go.Proofs.Ytkdpchlehoomhaa
set_option linter.unusedVariables false
set_option linter.unusedSimpArgs false
def standS (c : Cd) (s : Wk) (i : Ins) : Bool := knownP i.op && (fitsC c i (rowP i.op) && mayStandP c s i (rowP i.op))
def standsP (c : Cd) : Wk → List Ins → Bool
 | _, [] => true
 | s, i :: r => standS c s i && standsP c (stepP s i) r
def rdOK (S : List Nat) (i : Ins) : Bool := (readsP i (rowP i.op)).all fun n => decide (n.toNat ∈ S)
theorem takes_stand (c : Cd) (s : Wk) (i : Ins) : takesP c s i = (standS c s i && rdOK s.set i) := by
 unfold takesP standS rdOK readOK
 simp only [Bool.and_assoc]
theorem taken_stands {c : Cd} : ∀ {l : List Ins} {s : Wk}, takenP c s l = true → standsP c s l = true
 | [], s, _ => rfl
 | i :: l, s, h => by
  simp only [takenP, takes_stand, Bool.and_eq_true] at h
  simp only [standsP, Bool.and_eq_true]
  exact ⟨h.1.1, taken_stands h.2⟩
theorem stand_open' {c : Cd} {s : Wk} {i : Ins} (h : standS c s i = true) : fitsC c i (rowP i.op) = true ∧ mayStandP c s i (rowP i.op) = true := by
 unfold standS at h; simp only [Bool.and_eq_true] at h; exact ⟨h.2.1, h.2.2⟩
theorem OkS.stand {c : Cd} {s : Wk} {i : Ins} (h : OkS c.regs.length s) (t : standS c s i = true) : OkS c.regs.length (stepP s i) := by
 obtain ⟨h2, h3⟩ := stand_open' t
 refine (h.turn (stand_open h3)).add fun hd => ?_
 have := fitsReg_lt (fitsC_d h2) hd
 omega
def shp (s : Wk) : List (Bool × Int) := s.opens.map fun b => (b.loop, b.par)
theorem shp_len (s : Wk) : (shp s).length = s.opens.length := by simp [shp]
theorem shp_in {s s' : Wk} (h : shp s = shp s') : inLoop s = inLoop s' ∧ innerP s = innerP s' ∧ s.opens.length = s'.opens.length ∧ s.opens.isEmpty = s'.opens.isEmpty := by
 have hl : s.opens.length = s'.opens.length := by rw [← shp_len, h, shp_len]
 obtain ⟨S, O⟩ := s
 obtain ⟨S', O'⟩ := s'
 cases O with
 | nil => cases O' with
  | nil => exact ⟨rfl, rfl, rfl, rfl⟩
  | cons b r => simp at hl
 | cons b r => cases O' with
  | nil => simp at hl
  | cons b' r' =>
   simp only [shp, List.map_cons, List.cons.injEq, Prod.mk.injEq] at h
   exact ⟨h.1.1, h.1.2, hl, rfl⟩
theorem shp_stand {s s' : Wk} (c : Cd) (i : Ins) (h : shp s = shp s') : standS c s i = standS c s' i := by
 obtain ⟨h1, h2, h3, h4⟩ := shp_in h
 unfold standS mayStandP
 rw [h1, h2, h3, h4]
theorem shp_step {s s' : Wk} (i : Ins) (h : shp s = shp s') : shp (stepP s i) = shp (stepP s' i) := by
 unfold stepP passP shp
 rw [addP_opens, addP_opens]
 unfold turnP
 by_cases h1 : i.op = 34 ∨ i.op = 36
 ·rw [if_pos h1, if_pos h1]
  simp only [List.map_cons, List.cons.injEq, true_and]
  exact h
 ·rw [if_neg h1, if_neg h1]
  by_cases h2 : i.op = 35 ∨ i.op = 37
  ·rw [if_pos h2, if_pos h2]
   obtain ⟨S, O⟩ := s
   obtain ⟨S', O'⟩ := s'
   cases O with
   | nil => cases O' with
    | nil => rfl
    | cons b r => simp [shp] at h
   | cons b r => cases O' with
    | nil => simp [shp] at h
    | cons b' r' =>
     simp only [shp, List.map_cons, List.cons.injEq] at h
     exact h.2
  ·rw [if_neg h2, if_neg h2]
   exact h
theorem shp_stands (c : Cd) : ∀ (l : List Ins) {s s' : Wk}, shp s = shp s' → standsP c s l = standsP c s' l
 | [], s, s', _ => rfl
 | i :: l, s, s', h => by simp only [standsP]; rw [shp_stand c i h, shp_stands c l (shp_step i h)]
theorem shp_run : ∀ (l : List Ins) {s s' : Wk}, shp s = shp s' → shp (runP s l) = shp (runP s' l)
 | [], s, s', h => h
 | i :: l, s, s', h => by simp only [runP]; exact shp_run l (shp_step i h)
def insP (S : List Nat) (i : Ins) : List Nat := if (rowP i.op).d ≠ 0 ∧ i.d.toNat ∉ S then S ++ [i.d.toNat] else S
def wrest (s : Wk) : List (List Nat) := (s.opens.filter fun b => !b.loop).map fun b => s.set.take b.ahead
def absP : List Nat → List (List Nat) → List Ins → Bool
 | _, _, [] => true
 | S, R, i :: r => rdOK S i && (if i.op = 34 then absP S (S :: R) r else if i.op = 35 then absP (R.headD S) R.tail r else absP (insP S i) R r)
theorem okO_le : ∀ {r : List Bk} {n : Nat}, okO n r → ∀ b ∈ r, b.ahead ≤ n
 | [], _, _, b, hb => absurd hb (by simp)
 | a :: r, n, h, b, hb => by
  rcases List.mem_cons.1 hb with rfl | hb
  ·exact h.1
  ·exact Nat.le_trans (okO_le h.2 b hb) h.1
theorem row34 : (rowP 34).d = 0 := by decide
theorem row35 : (rowP 35).d = 0 := by decide
theorem row36 : (rowP 36).d = 0 := by decide
theorem row37 : (rowP 37).d = 0 := by decide
theorem addP_none {s : Wk} {i : Ins} (h : (rowP i.op).d = 0) : addP s i (rowP i.op) = s := by unfold addP; rw [if_neg (fun e => e.1 h)]
theorem step_abs {c : Cd} {s : Wk} {i : Ins} (ho : OkS c.regs.length s) (hs : standS c s i = true) :
  (stepP s i).set = (if i.op = 34 then s.set else if i.op = 35 then (wrest s).headD s.set else insP s.set i) ∧ wrest (stepP s i) = (if i.op = 34 then s.set :: wrest s else if i.op = 35 then (wrest s).tail else wrest s) := by
 obtain ⟨_, hm⟩ := stand_open' hs
 unfold mayStandP at hm
 obtain ⟨S, O⟩ := s
 by_cases h34 : i.op = 34
 ·have e : stepP ⟨S, O⟩ i = ⟨S, ⟨false, i.n, S.length⟩ :: O⟩ := by
   unfold stepP passP
   rw [addP_none (by rw [h34]; exact row34)]
   unfold turnP
   rw [if_pos (.inl h34), h34]
   rfl
  rw [e, if_pos h34, if_pos h34]
  exact ⟨rfl, by simp [wrest]⟩
 ·rw [if_neg h34, if_neg h34]
  by_cases h35 : i.op = 35
  ·rw [if_neg (by omega), if_pos h35] at hm
   rw [if_pos h35, if_pos h35]
   cases O with
   | nil => simp at hm
   | cons b r =>
    have hb : b.loop = false := by simpa [inLoop] using hm
    have e : stepP ⟨S, b :: r⟩ i = ⟨S.take b.ahead, r⟩ := by
     unfold stepP passP
     rw [addP_none (by rw [h35]; exact row35)]
     unfold turnP
     rw [if_neg (by omega), if_pos (.inl h35)]
     simp [leaveP, hb]
    rw [e]
    have ho2 : okO b.ahead r := ho.opens.2
    refine ⟨by simp [wrest, hb], ?_⟩
    simp only [wrest, List.filter_cons, hb, Bool.not_false, if_true, List.map_cons, List.tail_cons]
    apply List.map_congr_left
    intro a ha
    rw [List.take_take, Nat.min_eq_left (okO_le ho2 a (List.mem_filter.1 ha).1)]
  ·rw [if_neg h35, if_neg h35]
   by_cases h36 : i.op = 36
   ·have e : stepP ⟨S, O⟩ i = ⟨S, ⟨true, i.n, S.length⟩ :: O⟩ := by
     unfold stepP passP
     rw [addP_none (by rw [h36]; exact row36)]
     unfold turnP
     rw [if_pos (.inr h36), h36]
     rfl
    rw [e]
    exact ⟨by unfold insP; rw [if_neg (fun q => q.1 (by rw [h36]; exact row36))], by simp [wrest]⟩
   ·by_cases h37 : i.op = 37
    ·rw [if_neg (by omega), if_neg h35, if_pos h37] at hm
     cases O with
     | nil => simp [inLoop] at hm
     | cons b r =>
      have hb : b.loop = true := hm
      have e : stepP ⟨S, b :: r⟩ i = ⟨S, r⟩ := by
       unfold stepP passP
       rw [addP_none (by rw [h37]; exact row37)]
       unfold turnP
       rw [if_neg (by omega), if_pos (.inr h37)]
       simp [leaveP, hb]
      rw [e]
      exact ⟨by unfold insP; rw [if_neg (fun q => q.1 (by rw [h37]; exact row37))], by simp [wrest, hb]⟩
    ·have e : stepP ⟨S, O⟩ i = addP ⟨S, O⟩ i (rowP i.op) := by
      unfold stepP passP turnP
      rw [if_neg (by omega), if_neg (by omega)]
     rw [e]
     unfold addP insP
     by_cases hd : (rowP i.op).d ≠ 0 ∧ i.d.toNat ∉ S
     ·rw [if_pos hd, if_pos hd]
      refine ⟨rfl, ?_⟩
      unfold wrest
      apply List.map_congr_left
      intro a ha
      have := okO_le ho.opens a (List.mem_filter.1 ha).1
      exact List.take_append_of_le_length this
     ·rw [if_neg hd, if_neg hd]
      exact ⟨rfl, rfl⟩
theorem taken_abs {c : Cd} : ∀ {l : List Ins} {s : Wk}, OkS c.regs.length s → standsP c s l = true → takenP c s l = absP s.set (wrest s) l
 | [], s, _, _ => rfl
 | i :: l, s, ho, h => by
  simp only [standsP, Bool.and_eq_true] at h
  simp only [takenP, absP]
  rw [takes_stand, h.1, Bool.true_and, taken_abs (ho.stand h.1) h.2]
  obtain ⟨e1, e2⟩ := step_abs ho h.1
  rw [e1, e2]
  by_cases h34 : i.op = 34
  ·simp only [h34, if_true]
  ·by_cases h35 : i.op = 35
   ·simp only [h35, if_true]; rfl
   ·simp only [h34, h35, if_false]
def wayP (f : Nat → Bool) : List Nat → Nat → Nat → List Ins → Bool
 | _, _, _, [] => true
 | X, k, n, i :: r =>
  if 0 < k then
   if i.op = 34 then wayP f X (k + 1) (n + 1) r else if i.op = 35 then wayP f X (k - 1) n r else wayP f X k n r
  else rdOK X i && wayP f (insP X i) (if i.op = 34 ∧ f n = false then 1 else 0) (if i.op = 34 then n + 1 else n) r
theorem way_congr {f g : Nat → Bool} : ∀ (l : List Ins) {X : List Nat} {k n : Nat}, (∀ m, n ≤ m → f m = g m) → wayP f X k n l = wayP g X k n l
 | [], X, k, n, _ => rfl
 | i :: l, X, k, n, h => by
  have h' : ∀ m, n + 1 ≤ m → f m = g m := fun m hm => h m (by omega)
  simp only [wayP, h n (Nat.le_refl _)]
  rw [way_congr l h', way_congr l h, way_congr l h]
  by_cases h34 : i.op = 34
  ·simp only [h34, if_true]; rw [way_congr l h']
  ·simp only [h34, if_false]; rw [way_congr l h]
theorem rdOK_mono {S X : List Nat} {i : Ins} (h : ∀ x ∈ S, x ∈ X) (hr : rdOK S i = true) : rdOK X i = true := by
 unfold rdOK at hr ⊢
 rw [List.all_eq_true] at hr ⊢
 intro n hn
 exact decide_eq_true (h _ (of_decide_eq_true (hr n hn)))
theorem ins_mem {S : List Nat} {i : Ins} {x : Nat} : x ∈ insP S i ↔ x ∈ S ∨ ((rowP i.op).d ≠ 0 ∧ x = i.d.toNat) := by
 unfold insP
 by_cases h : (rowP i.op).d ≠ 0 ∧ i.d.toNat ∉ S
 ·rw [if_pos h, List.mem_append]; simp only [List.mem_singleton]; exact ⟨fun q => q.imp id fun e => ⟨h.1, e⟩, fun q => q.imp id fun e => e.2⟩
 ·rw [if_neg h]
  constructor
  ·exact .inl
  ·rintro (q | ⟨q1, q2⟩)
   ·exact q
   ·rw [q2]; exact Decidable.byContradiction fun e => h ⟨q1, e⟩
theorem ins_34 {S : List Nat} {i : Ins} (h : i.op = 34 ∨ i.op = 35) : insP S i = S := by
 unfold insP
 rcases h with h | h
 ·rw [if_neg (fun q => q.1 (by rw [h]; exact row34))]
 ·rw [if_neg (fun q => q.1 (by rw [h]; exact row35))]
theorem ways_to {f : Nat → Bool} : ∀ (l : List Ins) {S : List Nat} {R : List (List Nat)} {X : List Nat} {k n : Nat}, absP S R l = true → (k = 0 → (∀ x ∈ S, x ∈ X) ∧ ∀ T ∈ R, ∀ x ∈ T, x ∈ X) → (0 < k → k ≤ R.length ∧ ∀ T ∈ R.drop (k - 1), ∀ x ∈ T, x ∈ X) → wayP f X k n l = true
 | [], S, R, X, k, n, _, _, _ => rfl
 | i :: l, S, R, X, k, n, h, h0, h1 => by
  simp only [absP, Bool.and_eq_true] at h
  obtain ⟨hr, h⟩ := h
  simp only [wayP]
  by_cases hk : 0 < k
  ·obtain ⟨hk1, hk2⟩ := h1 hk
   rw [if_pos hk]
   by_cases h34 : i.op = 34
   ·rw [if_pos h34] at h ⊢
    refine ways_to l h (fun e => absurd e (by omega)) fun _ => ⟨by simp; omega, ?_⟩
    rw [show k + 1 - 1 = (k - 1) + 1 by omega, List.drop_succ_cons]
    exact hk2
   ·rw [if_neg h34] at h ⊢
    by_cases h35 : i.op = 35
    ·rw [if_pos h35] at h ⊢
     cases R with
     | nil => simp at hk1; omega
     | cons T R =>
      simp only [List.headD_cons, List.tail_cons] at h
      refine ways_to l h (fun e => ?_) fun hk' => ⟨by simp at hk1; omega, ?_⟩
      ·have : k = 1 := by omega
       subst this
       exact ⟨hk2 T (by simp), fun T' hT' => hk2 T' (by simp [hT'])⟩
      ·rw [show k - 1 = (k - 1 - 1) + 1 by omega, List.drop_succ_cons] at hk2
       exact hk2
    ·rw [if_neg h35] at h ⊢
     exact ways_to l h (fun e => absurd e (by omega)) fun _ => ⟨hk1, hk2⟩
  ·obtain ⟨hs, hR⟩ := h0 (by omega)
   rw [if_neg hk, rdOK_mono hs hr, Bool.true_and]
   by_cases h34 : i.op = 34
   ·rw [if_pos h34] at h ⊢
    rw [ins_34 (.inl h34)]
    have hall : ∀ T ∈ S :: R, ∀ x ∈ T, x ∈ X := by
     intro T hT
     rcases List.mem_cons.1 hT with rfl | hT
     ·exact hs
     ·exact hR T hT
    by_cases hf : f n = false
    ·rw [if_pos ⟨h34, hf⟩]
     exact ways_to l h (fun e => absurd e (by omega)) fun _ => ⟨by simp, by simpa using hall⟩
    ·rw [if_neg (fun e => hf e.2)]
     exact ways_to l h (fun _ => ⟨hs, hall⟩) fun e => absurd e (by omega)
   ·rw [if_neg h34] at h ⊢
    rw [if_neg (fun e => h34 e.1)]
    by_cases h35 : i.op = 35
    ·rw [if_pos h35] at h
     rw [ins_34 (.inr h35)]
     cases R with
     | nil => exact ways_to l h (fun _ => ⟨hs, hR⟩) fun e => absurd e (by omega)
     | cons T R =>
      simp only [List.headD_cons, List.tail_cons] at h
      exact ways_to l h (fun _ => ⟨hR T (by simp), fun T' hT' => hR T' (by simp [hT'])⟩) fun e => absurd e (by omega)
    ·rw [if_neg h35] at h
     refine ways_to l h (fun _ => ⟨fun x hx => ?_, fun T hT x hx => ins_mem.2 (.inl (hR T hT x hx))⟩) fun e => absurd e (by omega)
     rcases ins_mem.1 hx with q | q
     ·exact ins_mem.2 (.inl (hs x q))
     ·exact ins_mem.2 (.inr q)
def upd (f : Nat → Bool) (n : Nat) (b : Bool) (m : Nat) : Bool := if m = n then b else f m
theorem rdOK_same {S X : List Nat} (i : Ins) (h : ∀ x, x ∈ X ↔ x ∈ S) : rdOK X i = rdOK S i := by
 cases e : rdOK S i with
 | true => exact rdOK_mono (fun x hx => (h x).2 hx) e
 | false =>
  cases e' : rdOK X i with
  | false => rfl
  | true => rw [rdOK_mono (fun x hx => (h x).1 hx) e'] at e; cases e
theorem ways_from : ∀ (l : List Ins) {S : List Nat} {R : List (List Nat)} (n : Nat), absP S R l = false →
  (∃ f, ∀ X, (∀ x, x ∈ X ↔ x ∈ S) → wayP f X 0 n l = false) ∨ (∃ k f T, R[k]? = some T ∧ ∀ X, (∀ x, x ∈ X ↔ x ∈ T) → wayP f X (k + 1) n l = false)
 | [], S, R, n, h => by simp [absP] at h
 | i :: l, S, R, n, h => by
  simp only [absP] at h
  cases hr : rdOK S i with
  | false =>
   refine .inl ⟨fun _ => true, fun X hX => ?_⟩
   simp only [wayP]
   rw [if_neg (by omega), rdOK_same i hX, hr]
   rfl
  | true =>
   rw [hr, Bool.true_and] at h
   by_cases h34 : i.op = 34
   ·rw [if_pos h34] at h
    rcases ways_from l (n + 1) h with ⟨f, hf⟩ | ⟨k, f, T, hT, hf⟩
    ·refine .inl ⟨upd f n true, fun X hX => ?_⟩
     simp only [wayP]
     rw [if_neg (by omega), rdOK_same i hX, hr, Bool.true_and, ins_34 (.inl h34), if_neg (by simp [upd]), if_pos h34, way_congr (g := f) l (fun m hm => by unfold upd; rw [if_neg (by omega)])]
     exact hf X hX
    ·cases k with
     | zero =>
      simp only [List.getElem?_cons_zero, Option.some.injEq] at hT
      subst hT
      refine .inl ⟨upd f n false, fun X hX => ?_⟩
      simp only [wayP]
      rw [if_neg (by omega), rdOK_same i hX, hr, Bool.true_and, ins_34 (.inl h34), if_pos ⟨h34, by simp [upd]⟩, if_pos h34, way_congr (g := f) l (fun m hm => by unfold upd; rw [if_neg (by omega)])]
      exact hf X hX
     | succ k =>
      simp only [List.getElem?_cons_succ] at hT
      refine .inr ⟨k, f, T, hT, fun X hX => ?_⟩
      simp only [wayP]
      rw [if_pos (by omega), if_pos h34]
      exact hf X hX
   ·rw [if_neg h34] at h
    by_cases h35 : i.op = 35
    ·rw [if_pos h35] at h
     cases R with
     | nil =>
      rcases ways_from l n h with ⟨f, hf⟩ | ⟨k, f, T, hT, hf⟩
      ·refine .inl ⟨f, fun X hX => ?_⟩
       simp only [wayP]
       rw [if_neg (by omega), rdOK_same i hX, hr, Bool.true_and, ins_34 (.inr h35), if_neg (fun e => h34 e.1), if_neg h34]
       exact hf X hX
      ·simp at hT
     | cons T R =>
      simp only [List.headD_cons, List.tail_cons] at h
      rcases ways_from l n h with ⟨f, hf⟩ | ⟨k, f, T', hT, hf⟩
      ·refine .inr ⟨0, f, T, rfl, fun X hX => ?_⟩
       simp only [wayP]
       rw [if_pos (by omega), if_neg h34, if_pos h35]
       exact hf X hX
      ·refine .inr ⟨k + 1, f, T', by simpa using hT, fun X hX => ?_⟩
       simp only [wayP]
       rw [if_pos (by omega), if_neg h34, if_pos h35]
       exact hf X hX
    ·rw [if_neg h35] at h
     rcases ways_from l n h with ⟨f, hf⟩ | ⟨k, f, T, hT, hf⟩
     ·refine .inl ⟨f, fun X hX => ?_⟩
      simp only [wayP]
      rw [if_neg (by omega), rdOK_same i hX, hr, Bool.true_and, if_neg (fun e => h34 e.1), if_neg h34]
      refine hf _ fun x => ?_
      rw [ins_mem, ins_mem, hX x]
     ·refine .inr ⟨k, f, T, hT, fun X hX => ?_⟩
      simp only [wayP]
      rw [if_pos (by omega), if_neg h34, if_neg h35]
      exact hf X hX
def whensP (l : List Ins) : Nat := (l.filter fun i => i.op == 34).length
theorem whens_cons (i : Ins) (l : List Ins) : whensP (i :: l) = (if i.op = 34 then 1 else 0) + whensP l := by
 unfold whensP
 rw [List.filter_cons]
 by_cases h : i.op = 34
 ·simp [h]; omega
 ·simp [h]
theorem way_upto {f g : Nat → Bool} : ∀ (l : List Ins) {X : List Nat} {k n : Nat}, (∀ m, n ≤ m → m < n + whensP l → f m = g m) → wayP f X k n l = wayP g X k n l
 | [], X, k, n, _ => rfl
 | i :: l, X, k, n, h => by
  rw [whens_cons] at h
  simp only [wayP]
  by_cases h34 : i.op = 34
  ·rw [if_pos h34] at h
   have h' : ∀ m, n + 1 ≤ m → m < n + 1 + whensP l → f m = g m := fun m a b => h m (by omega) (by omega)
   simp only [h34, if_true, h n (Nat.le_refl _) (by omega)]
   rw [way_upto l h', way_upto l h']
  ·rw [if_neg h34, Nat.zero_add] at h
   simp only [h34, if_false, false_and]
   rw [way_upto l h, way_upto l h, way_upto l h]
theorem number_of (f : Nat → Bool) : ∀ w : Nat, ∃ c, c < 2 ^ w ∧ ∀ m, m < w → c.testBit m = f m
 | 0 => ⟨0, by simp, fun m hm => absurd hm (by omega)⟩
 | w + 1 => by
  obtain ⟨c, hc, h⟩ := number_of f w
  cases e : f w with
  | false =>
   refine ⟨c, by rw [Nat.pow_succ]; omega, fun m hm => ?_⟩
   by_cases q : m = w
   ·subst q; rw [e]; exact Nat.testBit_lt_two_pow hc
   ·exact h m (by omega)
  | true =>
   refine ⟨2 ^ w + c, by rw [Nat.pow_succ]; omega, fun m hm => ?_⟩
   by_cases q : m = w
   ·subst q; rw [e, Nat.testBit_two_pow_add_eq, Nat.testBit_lt_two_pow hc]; rfl
   ·rw [Nat.testBit_two_pow_add_gt (by omega)]; exact h m (by omega)
theorem ways_law (l : List Ins) : absP [] [] l = true ↔ ∀ c, c < 2 ^ whensP l → wayP (fun m => c.testBit m) [] 0 0 l = true := by
 constructor
 ·intro h c _
  exact ways_to l h (fun _ => ⟨fun x hx => hx, fun T hT => absurd hT (by simp)⟩) fun e => absurd e (by omega)
 ·intro h
  cases e : absP [] [] l with
  | true => rfl
  | false =>
   rcases ways_from l 0 e with ⟨f, hf⟩ | ⟨k, f, T, hT, _⟩
   ·obtain ⟨c, hc, hb⟩ := number_of f (whensP l)
    have h1 := h c hc
    rw [way_upto (g := f) l (fun m _ hm => hb m (by omega)), hf [] (fun x => Iff.rfl)] at h1
    cases h1
   ·simp at hT
def preI (t : Ty) (k : Nat) : Ins := ⟨if t.kind = 2 then 2 else if t.kind = 3 then 29 else 1, (k : Int), 0, 0, 0, 0, 0⟩
def preL : Nat → List Ty → List Ins
 | _, [] => []
 | k, t :: r => preI t k :: preL (k + 1) r
def preC (c : Cd) : Cd := ⟨c.sign, c.regs, c.slots, preL 0 c.regs ++ c.list⟩
theorem pre_op (t : Ty) (k : Nat) : ¬ (preI t k).op = 34 ∧ ¬ (preI t k).op = 35 ∧ ¬ (preI t k).op = 36 ∧ ¬ (preI t k).op = 37 := by
 have h : (preI t k).op = if t.kind = 2 then 2 else if t.kind = 3 then 29 else 1 := rfl
 rw [h]
 split
 ·omega
 ·split <;> omega
theorem pre_run : ∀ (r : List Ty) (k : Nat) (s : Wk), shp (runP s (preL k r)) = shp s
 | [], k, s => rfl
 | t :: r, k, s => by
  simp only [preL, runP]
  rw [pre_run r (k + 1)]
  obtain ⟨h1, h2, h3, h4⟩ := pre_op t k
  unfold shp stepP passP
  rw [addP_opens]
  unfold turnP
  rw [if_neg (by omega), if_neg (by omega)]
theorem ways_main {c : Cd} (h : (checkC (preC c)).1 = 0) : ((checkC c).1 = 0 ↔ ∀ n, n < 2 ^ whensP c.list → wayP (fun m => n.testBit m) [] 0 0 c.list = true) ∧ standsP c ⟨[], []⟩ c.list = true := by
 obtain ⟨h1, h2, h3⟩ := checkC_ok.1 h
 have ha : aheadP c = 0 := by
  have := aheadP_list (c := preC c) (x := c.list) h1 (by simp [preC])
  exact this
 have h2' : takenP c ⟨[], []⟩ (preL 0 c.regs ++ c.list) = true := by rw [← h2]; exact (takenP_list c (preL 0 c.regs ++ c.list) _ _).symm
 rw [takenP_append, Bool.and_eq_true] at h2'
 have hsh := pre_run c.regs 0 ⟨[], []⟩
 have hst : standsP c ⟨[], []⟩ c.list = true := by rw [← shp_stands c c.list hsh]; exact taken_stands h2'.2
 have ho : (runP ⟨[], []⟩ c.list).opens.isEmpty = true := by
  have e := (shp_in (shp_run c.list hsh)).2.2.2
  have h3' : (runP ⟨[], []⟩ (preL 0 c.regs ++ c.list)).opens.isEmpty = true := h3
  rw [runP_append] at h3'
  rw [← e]; exact h3'
 refine ⟨?_, hst⟩
 rw [checkC_ok, ← ways_law, taken_abs (OkS.start _) hst]
 exact ⟨fun q => q.2.1, fun q => ⟨ha, q, ho⟩⟩
end Go.Proofs.Ytkdpchlehoomhaa
namespace Go.Proofs.Ytkdpchlehoomhaa
open Go.RowKit
set_option linter.unusedVariables false
set_option linter.unusedSimpArgs false
theorem app_on {B : Nat} {V : World} {p : Option Addr} {q : Nat} {l m : List Ins} {x : Option Addr} {d : Nat} (ho : V.ownsRow B 25 7 (.slice p l.length q) l.length (flat inC l)) (hr : RowG 7 inC V (.slice x m.length d) m) (hB : B ≤ V.heap.size) (hl : (l.length + m.length) * 56 ≤ 140737488351232) :
  ∃ p' c' w', (Builtin.append_ #[34, 34] 34 #[.slice p l.length q, .slice x m.length d]).run Try.prog V = .ok (.slice p' (l.length + m.length) c') w' ∧ Below B V w' ∧ w'.ownsRow B 25 7 (.slice p' (l.length + m.length) c') (l ++ m).length (flat inC (l ++ m)) ∧ ∀ b, b < V.heap.size → (Value.slice p l.length q).ownBlock ≠ some b → w'.heap[b]? = V.heap[b]? := by
 by_cases h0 : m = []
 ·subst h0
  refine ⟨p, q, V, ?_, Below.refl B V, ?_, fun b _ _ => rfl⟩
  ·simp only [List.length_nil, Nat.add_zero]
   exact app_none p l.length q x d (own_cap ho) (by omega) _ _
  ·simp only [List.length_nil, Nat.add_zero, List.append_nil]
   exact ho
 ·obtain ⟨i0, hi0, hz0, hz1, hz2⟩ := info_parts info_Inst
  obtain ⟨p', c', hv, h⟩ := hr
  simp only [Value.slice.injEq] at hv
  obtain ⟨rfl, -, rfl⟩ := hv
  obtain ⟨b, o, rfl, h2⟩ := h.resolve_left h0
  have hpos : 0 < m.length := List.length_pos_iff.2 h0
  obtain ⟨g, cap, w', hr, hown, hg, hat, hlt⟩ := run_append_lies (P := Try.prog) V 34 34 B 25 i0 _ 7 56 Try.underlying34 hi0 hz0 hz1 hz2 rfl (by decide) (.slice p l.length q) l.length (flat inC l) ho ⟨b, o, none⟩ m.length d (flat inC m) (flat_len inC_len m) (fun j u hu => row_cells (w := V) (by decide) inC_len h2 j u hu) (by intro u hu; obtain ⟨y, _, hy⟩ := List.mem_flatMap.1 hu; exact inC_one y u hy) hpos (by unfold maxLen; omega) (by omega) hB V.heap.size rfl
  refine ⟨some ⟨g, 0, none⟩, cap, w', hr, ?_, ?_, fun k hk hne => ?_⟩
  ·exact (Below.refl B V).grown hg hB (fun k e => (ho.lt k e).1)
  ·rw [List.length_append, flat_append]; exact hown
  ·exact hg.block k hk (Ne.symm hne)
structure PW (w : World) (v0 v1 v2 v3 : Value) (D : Nat) (u0 u1 u2 : Value) (c : Cd) (B : Nat) (p : Option Addr) (q : Nat) (l : List Ins) (v : World) : Prop where
 bel : Below w.heap.size w v
 cc : CellsAt v w.heap.size 0 [v0, v1, v2, v3]
 r : v.rowIs (w.heap.size + 1) 36 4 (f4 (.slice none 0 0) (.slice none 0 0) (.slice none 0 0) (.slice none 0 0))
 d : v.rowIs D 36 4 (f4 u0 u1 u2 (.slice p l.length q))
 sign : v.ownsRow (w.heap.size + 1 + 1) 62 3 u0 c.sign.length (flat parCells c.sign)
 regs : v.ownsRow (w.heap.size + 1 + 1) 65 2 u1 c.regs.length (flat tyC c.regs)
 slots : v.ownsRow (w.heap.size + 1 + 1) 68 5 u2 c.slots.length (flat slC c.slots)
 own : v.ownsRow B 25 7 (.slice p l.length q) l.length (flat inC l)
 n0 : ∀ b, u0.ownBlock = some b → b ≠ D
 n1 : ∀ b, u1.ownBlock = some b → b ≠ D
 n2 : ∀ b, u2.ownBlock = some b → b ≠ D
 hD : w.heap.size + 1 < D
 hB : D < B
 hs : B ≤ v.heap.size
theorem PW.next {w : World} {v0 v1 v2 v3 : Value} {D : Nat} {u0 u1 u2 : Value} {c : Cd} {B : Nat} {p : Option Addr} {q : Nat} {l : List Ins} {v v' : World} (h : PW w v0 v1 v2 v3 D u0 u1 u2 c B p q l v) (k : Below v.heap.size v v') : PW w v0 v1 v2 v3 D u0 u1 u2 c B p q l v' :=
 ⟨Go.Proofs.Ytkdpchlehoomhaa.bel h.bel k, h.cc.below k, h.r.of_block (k.block _ h.r.lt), h.d.of_block (k.block _ h.d.lt), own_below h.sign k, own_below h.regs k, own_below h.slots k, own_below h.own k, h.n0, h.n1, h.n2, h.hD, h.hB, Nat.le_trans h.hs k.size⟩
theorem PW.push {w : World} {v0 v1 v2 v3 : Value} {D : Nat} {u0 u1 u2 : Value} {c : Cd} {B : Nat} {p : Option Addr} {q : Nat} {l : List Ins} {V : World} (h : PW w v0 v1 v2 v3 D u0 u1 u2 c B p q l V) {m : List Ins} {x : Option Addr} {d : Nat} (hr : RowG 7 inC V (.slice x m.length d) m) (hl : (l.length + m.length) * 56 ≤ 140737488351232) :
  ∃ p' c' w', (Builtin.append_ #[34, 34] 34 #[.slice p l.length q, .slice x m.length d]).run Try.prog V = .ok (.slice p' (l.length + m.length) c') w' ∧ w'.cell? ⟨D, 3, none⟩ = some (.slice p l.length q) ∧ w'.frozen? ⟨D, 3, none⟩ = false ∧ PW w v0 v1 v2 v3 D u0 u1 u2 c B p' c' (l ++ m) (w'.setCell ⟨D, 3, none⟩ (.slice p' (l.length + m.length) c')) := by
 obtain ⟨p', c', w', hap, hb, ho, hoth⟩ := app_on h.own hr h.hs hl
 have hD := h.hD
 have hB := h.hB
 have hd' : w'.rowIs D 36 4 (f4 u0 u1 u2 (.slice p l.length q)) := h.d.of_block (hb.block D hB)
 have nb : ∀ b, b ≠ D → (w'.setCell ⟨D, 3, none⟩ (.slice p' (l.length + m.length) c')).heap[b]? = w'.heap[b]? := fun b hb => Below.heap_setCell _ _ _ _ hb
 have kO : ∀ {t : TypeId} {k : Nat} {u : Value} {n : Nat} {xs : List Value}, t ≠ 25 → (∀ b, u.ownBlock = some b → b ≠ D) → V.ownsRow (w.heap.size + 1 + 1) t k u n xs → (w'.setCell ⟨D, 3, none⟩ (.slice p' (l.length + m.length) c')).ownsRow (w.heap.size + 1 + 1) t k u n xs := fun ht hn ho' => own_keep ho' fun g hg => by
  rw [nb g (hn g hg)]
  exact hoth g (ho'.lt g hg).2 (fun e => own_other ho' h.own ht g hg e)
 refine ⟨p', c', w', hap, hd'.cell (i := 3) (by omega), hd'.frozen 3, ?_⟩
 have hlen : (l ++ m).length = l.length + m.length := by simp
 refine ⟨(h.bel.trans (hb.mono (by omega))).setCell (by show w.heap.size ≤ D; omega) _, (h.cc.of_block (hb.block _ (by omega))).of_block (nb _ (by omega)), (h.r.of_block (hb.block _ (by omega))).of_block (nb _ (by omega)), ?_, kO (by decide) h.n0 h.sign, kO (by decide) h.n1 h.regs, kO (by decide) h.n2 h.slots, ?_, h.n0, h.n1, h.n2, hD, hB, ?_⟩
 ·rw [hlen]
  exact (hd'.set 3 _).congr (fun k hk => by
   obtain rfl | rfl | rfl | rfl : k = 0 ∨ k = 1 ∨ k = 2 ∨ k = 3 := by omega
   all_goals rfl)
 ·have : w'.ownsRow B 25 7 (.slice p' (l ++ m).length c') (l ++ m).length (flat inC (l ++ m)) := by rw [hlen] at ho ⊢; exact ho
  exact own_keep this fun g hg => nb g (by have := (this.lt g hg).1; omega)
 ·have := hb.size
  have := h.hs
  simp [World.setCell]; omega
theorem PW.done {w : World} {v0 v1 v2 v3 : Value} {D : Nat} {u0 u1 u2 : Value} {c : Cd} {B : Nat} {p : Option Addr} {q : Nat} {l : List Ins} {v : World} (h : PW w v0 v1 v2 v3 D u0 u1 u2 c B p q l v) :
  CdV ((((v.setCell ⟨w.heap.size + 1, 0, none⟩ u0).setCell ⟨w.heap.size + 1, 1, none⟩ u1).setCell ⟨w.heap.size + 1, 2, none⟩ u2).setCell ⟨w.heap.size + 1, 3, none⟩ (.slice p l.length q)) u0 u1 u2 (.slice p l.length q) ⟨c.sign, c.regs, c.slots, l⟩ ∧ Below w.heap.size w ((((v.setCell ⟨w.heap.size + 1, 0, none⟩ u0).setCell ⟨w.heap.size + 1, 1, none⟩ u1).setCell ⟨w.heap.size + 1, 2, none⟩ u2).setCell ⟨w.heap.size + 1, 3, none⟩ (.slice p l.length q)) := by
 have hD := h.hD
 have hB := h.hB
 have nb : ∀ g, g ≠ w.heap.size + 1 → ((((v.setCell ⟨w.heap.size + 1, 0, none⟩ u0).setCell ⟨w.heap.size + 1, 1, none⟩ u1).setCell ⟨w.heap.size + 1, 2, none⟩ u2).setCell ⟨w.heap.size + 1, 3, none⟩ (.slice p l.length q)).heap[g]? = v.heap[g]? := fun g hg => by
  rw [Below.heap_setCell _ _ _ _ hg, Below.heap_setCell _ _ _ _ hg, Below.heap_setCell _ _ _ _ hg, Below.heap_setCell _ _ _ _ hg]
 have hle : w.heap.size ≤ w.heap.size + 1 := by omega
 refine ⟨⟨own_row parC_len (own_keep h.sign fun g hg => nb g (by have := (h.sign.lt g hg).1; omega)), own_row tyC_len (own_keep h.regs fun g hg => nb g (by have := (h.regs.lt g hg).1; omega)), own_row slC_len (own_keep h.slots fun g hg => nb g (by have := (h.slots.lt g hg).1; omega)), own_row inC_len (own_keep h.own fun g hg => nb g (by have := (h.own.lt g hg).1; omega))⟩, ?_⟩
 exact (((h.bel.setCell hle _).setCell hle _).setCell hle _).setCell hle _
theorem row_one (V : World) (i : Ins) : RowG 7 inC (V.alloc (.cells #[.int .i64 i.op, .int .i64 i.d, .int .i64 i.a, .int .i64 i.b, .int .i64 i.c, .int .i64 i.n, .int .u32 i.bits] 25)) (.slice (some ⟨V.heap.size, 0, none⟩) 1 1) [i] := by
 refine ⟨_, _, rfl, .inr ⟨V.heap.size, 0, rfl, fun k hk => ?_⟩⟩
 have : k = 0 := by simp at hk; omega
 subst this
 intro j hj
 have hj' : j < 7 := hj
 obtain rfl | rfl | rfl | rfl | rfl | rfl | rfl : j = 0 ∨ j = 1 ∨ j = 2 ∨ j = 3 ∨ j = 4 ∨ j = 5 ∨ j = 6 := by omega
 all_goals simp [go_sem, inC]
end Go.Proofs.Ytkdpchlehoomhaa
