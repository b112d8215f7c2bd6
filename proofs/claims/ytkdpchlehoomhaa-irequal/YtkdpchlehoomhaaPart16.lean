import Derived.Test.YtkdpchlehoomhaaPart15
import Derived.Test.YtkdpchlehoomhaaPart13
import Derived.Test.YtkdpchlehoomhaaRows
import Derived.WalkKit
import Derived.ProofKit
import Derived.OpenShut
import Derived.JoinedCond
import Derived.Deep.Slices
import Derived.Deep.Strs
import Derived.SizedLaws
namespace Go.Proofs.Ytkdpchlehoomhaa
open Go.RowKit
set_option linter.unusedVariables false
set_option linter.unusedSimpArgs false
theorem parC_one : ∀ x : Par, ∀ u ∈ parCells x, u.oneCell' = true := fun x u hu => by simp [parCells] at hu; rcases hu with rfl | rfl | rfl <;> rfl
theorem tyC_one : ∀ x : Ty, ∀ u ∈ tyC x, u.oneCell' = true := fun x u hu => by simp [tyC] at hu; rcases hu with rfl | rfl <;> rfl
theorem slC_one : ∀ x : Sl, ∀ u ∈ slC x, u.oneCell' = true := fun x u hu => by simp [slC] at hu; rcases hu with rfl | rfl | rfl | rfl | rfl <;> rfl
theorem info_Type : (Try.prog.info? 65).map (fun i => (i.zero, i.size, i.bytes)) = some (some (.agg #[.int .i64 0, .int .i64 0]), 2, 16) := by kernel_rfl
theorem info_Slot : (Try.prog.info? 68).map (fun i => (i.zero, i.size, i.bytes)) = some (some (.agg #[.int .i64 0, .int .i64 0, .bool false, .int .u32 0, .int .i64 0]), 5, 32) := by kernel_rfl
theorem app_Par {l : List Par} {v : Value} {w : World} (h : RowG 3 parCells w v l) (hl : l.length * 32 ≤ 140737488355328) (ty : TypeId) :
  ∃ v' w', (Builtin.append_ #[31, 31] ty #[.slice none 0 0, v]).run Try.prog w = .ok v' w' ∧ Below w.heap.size w w' ∧ w'.ownsRow w.heap.size 62 3 v' l.length (flat parCells l) := by
 obtain ⟨i0, hi0, hz0, hz1, hz2⟩ := info_parts info_Param
 exact app_rowG (by decide) parC_len parC_one Try.underlying31 hi0 hz0 hz1 hz2 rfl h (by unfold maxLen; omega) hl ty
theorem app_Ty {l : List Ty} {v : Value} {w : World} (h : RowG 2 tyC w v l) (hl : l.length * 16 ≤ 140737488355328) (ty : TypeId) :
  ∃ v' w', (Builtin.append_ #[32, 32] ty #[.slice none 0 0, v]).run Try.prog w = .ok v' w' ∧ Below w.heap.size w w' ∧ w'.ownsRow w.heap.size 65 2 v' l.length (flat tyC l) := by
 obtain ⟨i0, hi0, hz0, hz1, hz2⟩ := info_parts info_Type
 exact app_rowG (by decide) tyC_len tyC_one Try.underlying32 hi0 hz0 hz1 hz2 rfl h (by unfold maxLen; omega) hl ty
theorem app_Sl {l : List Sl} {v : Value} {w : World} (h : RowG 5 slC w v l) (hl : l.length * 32 ≤ 140737488355328) (ty : TypeId) :
  ∃ v' w', (Builtin.append_ #[33, 33] ty #[.slice none 0 0, v]).run Try.prog w = .ok v' w' ∧ Below w.heap.size w w' ∧ w'.ownsRow w.heap.size 68 5 v' l.length (flat slC l) := by
 obtain ⟨i0, hi0, hz0, hz1, hz2⟩ := info_parts info_Slot
 exact app_rowG (by decide) slC_len slC_one Try.underlying33 hi0 hz0 hz1 hz2 rfl h (by unfold maxLen; omega) hl ty
def f4 (a b c d : Value) (j : Nat) : Value := if j = 0 then a else if j = 1 then b else if j = 2 then c else d
structure CW (w : World) (v0 v1 v2 v3 x0 x1 x2 x3 : Value) (v : World) : Prop where
 bel : Below w.heap.size w v
 c : CellsAt v w.heap.size 0 [v0, v1, v2, v3]
 r : v.rowIs (w.heap.size + 1) 36 4 (f4 (.slice none 0 0) (.slice none 0 0) (.slice none 0 0) (.slice none 0 0))
 d : v.rowIs (w.heap.size + 1 + 1) 36 4 (f4 x0 x1 x2 x3)
theorem CW.app {w : World} {v0 v1 v2 v3 x0 x1 x2 x3 : Value} {v v' : World} (h : CW w v0 v1 v2 v3 x0 x1 x2 x3 v) (k : Below v.heap.size v v') : CW w v0 v1 v2 v3 x0 x1 x2 x3 v' :=
 ⟨Go.Proofs.Ytkdpchlehoomhaa.bel h.bel k, h.c.below k, h.r.of_block (k.block _ h.r.lt), h.d.of_block (k.block _ h.d.lt)⟩
theorem CW.put {w : World} {v0 v1 v2 v3 x0 x1 x2 x3 y0 y1 y2 y3 : Value} {v : World} (h : CW w v0 v1 v2 v3 x0 x1 x2 x3 v) (i : Nat) (x : Value) (e : ∀ j, j < 4 → (if j = i then x else f4 x0 x1 x2 x3 j) = f4 y0 y1 y2 y3 j) : CW w v0 v1 v2 v3 y0 y1 y2 y3 (v.setCell ⟨w.heap.size + 1 + 1, i, none⟩ x) := by
 have nb : ∀ b, b ≠ w.heap.size + 1 + 1 → (v.setCell ⟨w.heap.size + 1 + 1, i, none⟩ x).heap[b]? = v.heap[b]? := fun b hb => Below.heap_setCell _ _ _ _ hb
 exact ⟨h.bel.setCell (by show w.heap.size ≤ w.heap.size + 1 + 1; omega) _, h.c.of_block (nb _ (by omega)), h.r.of_block (nb _ (by omega)), (h.d.set i x).congr e⟩
theorem CW.start (w : World) (v0 v1 v2 v3 : Value) : CW w v0 v1 v2 v3 (.slice none 0 0) (.slice none 0 0) (.slice none 0 0) (.slice none 0 0) (((w.alloc (.cells #[v0, v1, v2, v3] 36)).alloc (.cells #[.slice none 0 0, .slice none 0 0, .slice none 0 0, .slice none 0 0] 36)).alloc (.cells #[.slice none 0 0, .slice none 0 0, .slice none 0 0, .slice none 0 0] 36)) := by
 have q : ∀ u : World, (u.alloc (.cells #[.slice none 0 0, .slice none 0 0, .slice none 0 0, .slice none 0 0] 36)).rowIs u.heap.size 36 4 (f4 (.slice none 0 0) (.slice none 0 0) (.slice none 0 0) (.slice none 0 0)) := fun u => World.rowIs_alloc u #[.slice none 0 0, .slice none 0 0, .slice none 0 0, .slice none 0 0] 36 _ (fun i hi => by
  have hi' : i < 4 := hi
  obtain rfl | rfl | rfl | rfl : i = 0 ∨ i = 1 ∨ i = 2 ∨ i = 3 := by omega
  all_goals rfl)
 have h1 := q (w.alloc (.cells #[v0, v1, v2, v3] 36))
 have h2 := q ((w.alloc (.cells #[v0, v1, v2, v3] 36)).alloc (.cells #[.slice none 0 0, .slice none 0 0, .slice none 0 0, .slice none 0 0] 36))
 have s1 : (w.alloc (.cells #[v0, v1, v2, v3] 36)).heap.size = w.heap.size + 1 := by simp
 have s2 : ((w.alloc (.cells #[v0, v1, v2, v3] 36)).alloc (.cells #[.slice none 0 0, .slice none 0 0, .slice none 0 0, .slice none 0 0] 36)).heap.size = w.heap.size + 1 + 1 := by simp
 rw [s1] at h1
 rw [s2] at h2
 refine ⟨Go.Proofs.Ytkdpchlehoomhaa.bel (Go.Proofs.Ytkdpchlehoomhaa.bel (bel_alloc _ _) (bel_alloc _ _)) (bel_alloc _ _), fun j hj => ?_, h1.alloc _, h2⟩
 have hj' : j < 4 := hj
 obtain rfl | rfl | rfl | rfl : j = 0 ∨ j = 1 ∨ j = 2 ∨ j = 3 := by omega
 all_goals simp [go_sem]
def Up (E : Nat) (v v' : World) : Prop := v.heap.size ≤ v'.heap.size ∧ ∀ b, E ≤ b → b < v.heap.size → v'.heap[b]? = v.heap[b]?
theorem Up.of {E : Nat} {v v' : World} (k : Below v.heap.size v v') : Up E v v' := ⟨k.size, fun b _ hb => k.block b hb⟩
theorem Up.set {E : Nat} (v : World) {D : Nat} (hD : D < E) (i : Nat) (x : Value) : Up E v (v.setCell ⟨D, i, none⟩ x) := ⟨by simp, fun b hb _ => Below.heap_setCell _ _ _ _ (by show b ≠ D; omega)⟩
theorem Up.trans {E : Nat} {a b c : World} (h : Up E a b) (k : Up E b c) : Up E a c := ⟨Nat.le_trans h.1 k.1, fun x hx hl => (k.2 x hx (Nat.lt_of_lt_of_le hl h.1)).trans (h.2 x hx hl)⟩
theorem Up.own {E B : Nat} {v v' : World} {t : TypeId} {k n : Nat} {u : Value} {xs : List Value} (h : Up E v v') (ho : v.ownsRow B t k u n xs) (hB : E ≤ B) : v'.ownsRow B t k u n xs := own_keep ho fun g hg => h.2 g (Nat.le_trans hB (ho.lt g hg).1) (ho.lt g hg).2
structure CdSz (c : Cd) : Prop where
 s : c.sign.length * 32 ≤ 140737488351232
 r : c.regs.length * 16 ≤ 140737488351232
 l : c.slots.length * 32 ≤ 140737488351232
 i : c.list.length * 56 ≤ 140737488351232
set_option maxRecDepth 100000 in
set_option maxHeartbeats 4000000 in
theorem copied_any (v0 v1 v2 v3 : Value) (c : Cd) (hz : CdSz c) (w : World) (hv : CdV w v0 v1 v2 v3 c) :
  Calls Try.prog 17 #[.agg #[v0, v1, v2, v3]] w fun e w' => ∃ u0 u1 u2 u3, e = .returned (.agg #[u0, u1, u2, u3]) ∧ CdV w' u0 u1 u2 u3 c ∧ w'.ownsRow w.heap.size 25 7 u3 c.list.length (flat inC c.list) ∧ Below w.heap.size w w' := by
 have s0 := hz.s
 have s1 := hz.r
 have s2 := hz.l
 have s3 := hz.i
 have C0 := CW.start w v0 v1 v2 v3
 obtain ⟨W0, hW0⟩ : ∃ W, ((w.alloc (.cells #[v0, v1, v2, v3] 36)).alloc (.cells #[.slice none 0 0, .slice none 0 0, .slice none 0 0, .slice none 0 0] 36)).alloc (.cells #[.slice none 0 0, .slice none 0 0, .slice none 0 0, .slice none 0 0] 36) = W := ⟨_, rfl⟩
 have hE : W0.heap.size = w.heap.size + 1 + 1 + 1 := by rw [← hW0]; simp
 rw [hW0] at C0
 have U0 : Up (w.heap.size + 1 + 1 + 1) W0 W0 := ⟨Nat.le_refl _, fun _ _ _ => rfl⟩
 obtain ⟨z0, w1, r0, b0, o0⟩ := app_Par (hv.sign.below C0.bel) (by omega) 31
 obtain ⟨p0, q0, rfl⟩ := own_len o0
 have D0 := C0.app b0
 have c00 := C0.c.at 0 rfl
 have c01 : W0.cell? ⟨w.heap.size + 1 + 1, 0, none⟩ = some (.slice none 0 0) := C0.d.cell (i := 0) (by decide)
 have c02 : w1.cell? ⟨w.heap.size + 1 + 1, 0, none⟩ = some (.slice none 0 0) := D0.d.cell (i := 0) (by decide)
 have c03 := D0.d.frozen 0
 rw [Nat.zero_add] at c00
 have C1 := D0.put (y0 := (.slice p0 c.sign.length q0)) (y1 := (.slice none 0 0)) (y2 := (.slice none 0 0)) (y3 := (.slice none 0 0)) 0 (.slice p0 c.sign.length q0) (by intro j hj; rcases (show j = 0 ∨ j = 1 ∨ j = 2 ∨ j = 3 by omega) with rfl | rfl | rfl | rfl <;> rfl)
 obtain ⟨V1, hV1⟩ : ∃ V, w1.setCell ⟨w.heap.size + 1 + 1, 0, none⟩ (.slice p0 c.sign.length q0) = V := ⟨_, rfl⟩
 have U1 : Up (w.heap.size + 1 + 1 + 1) W0 V1 := by rw [← hV1]; exact (Up.of b0).trans (Up.set _ (by omega) _ _)
 have T1 : Up (w.heap.size + 1 + 1 + 1) w1 V1 := by rw [← hV1]; exact Up.set _ (by omega) _ _
 have HV0 : Hid (w1.setCell ⟨w.heap.size + 1 + 1, 0, none⟩ (.slice p0 c.sign.length q0) = V1) := hV1
 rw [hV1] at C1
 have HR0 : Hid ((Builtin.append_ #[31, 31] 31 #[.slice none 0 0, v0]).run Try.prog W0 = .ok (.slice p0 c.sign.length q0) w1) := r0
 have e0 : w.heap.size + 1 + 1 + 1 ≤ W0.heap.size := by have := U0.1; omega
 obtain ⟨z1, w2, r1, b1, o1⟩ := app_Ty (hv.regs.below C1.bel) (by omega) 32
 obtain ⟨p1, q1, rfl⟩ := own_len o1
 have D1 := C1.app b1
 have c10 := C1.c.at 1 rfl
 have c11 : V1.cell? ⟨w.heap.size + 1 + 1, 1, none⟩ = some (.slice none 0 0) := C1.d.cell (i := 1) (by decide)
 have c12 : w2.cell? ⟨w.heap.size + 1 + 1, 1, none⟩ = some (.slice none 0 0) := D1.d.cell (i := 1) (by decide)
 have c13 := D1.d.frozen 1
 rw [Nat.zero_add] at c10
 have C2 := D1.put (y0 := (.slice p0 c.sign.length q0)) (y1 := (.slice p1 c.regs.length q1)) (y2 := (.slice none 0 0)) (y3 := (.slice none 0 0)) 1 (.slice p1 c.regs.length q1) (by intro j hj; rcases (show j = 0 ∨ j = 1 ∨ j = 2 ∨ j = 3 by omega) with rfl | rfl | rfl | rfl <;> rfl)
 obtain ⟨V2, hV2⟩ : ∃ V, w2.setCell ⟨w.heap.size + 1 + 1, 1, none⟩ (.slice p1 c.regs.length q1) = V := ⟨_, rfl⟩
 have U2 : Up (w.heap.size + 1 + 1 + 1) V1 V2 := by rw [← hV2]; exact (Up.of b1).trans (Up.set _ (by omega) _ _)
 have T2 : Up (w.heap.size + 1 + 1 + 1) w2 V2 := by rw [← hV2]; exact Up.set _ (by omega) _ _
 have HV1 : Hid (w2.setCell ⟨w.heap.size + 1 + 1, 1, none⟩ (.slice p1 c.regs.length q1) = V2) := hV2
 rw [hV2] at C2
 have HR1 : Hid ((Builtin.append_ #[32, 32] 32 #[.slice none 0 0, v1]).run Try.prog V1 = .ok (.slice p1 c.regs.length q1) w2) := r1
 have e1 : w.heap.size + 1 + 1 + 1 ≤ V1.heap.size := by have := U1.1; omega
 obtain ⟨z2, w3, r2, b2, o2⟩ := app_Sl (hv.slots.below C2.bel) (by omega) 33
 obtain ⟨p2, q2, rfl⟩ := own_len o2
 have D2 := C2.app b2
 have c20 := C2.c.at 2 rfl
 have c21 : V2.cell? ⟨w.heap.size + 1 + 1, 2, none⟩ = some (.slice none 0 0) := C2.d.cell (i := 2) (by decide)
 have c22 : w3.cell? ⟨w.heap.size + 1 + 1, 2, none⟩ = some (.slice none 0 0) := D2.d.cell (i := 2) (by decide)
 have c23 := D2.d.frozen 2
 rw [Nat.zero_add] at c20
 have C3 := D2.put (y0 := (.slice p0 c.sign.length q0)) (y1 := (.slice p1 c.regs.length q1)) (y2 := (.slice p2 c.slots.length q2)) (y3 := (.slice none 0 0)) 2 (.slice p2 c.slots.length q2) (by intro j hj; rcases (show j = 0 ∨ j = 1 ∨ j = 2 ∨ j = 3 by omega) with rfl | rfl | rfl | rfl <;> rfl)
 obtain ⟨V3, hV3⟩ : ∃ V, w3.setCell ⟨w.heap.size + 1 + 1, 2, none⟩ (.slice p2 c.slots.length q2) = V := ⟨_, rfl⟩
 have U3 : Up (w.heap.size + 1 + 1 + 1) V2 V3 := by rw [← hV3]; exact (Up.of b2).trans (Up.set _ (by omega) _ _)
 have T3 : Up (w.heap.size + 1 + 1 + 1) w3 V3 := by rw [← hV3]; exact Up.set _ (by omega) _ _
 have HV2 : Hid (w3.setCell ⟨w.heap.size + 1 + 1, 2, none⟩ (.slice p2 c.slots.length q2) = V3) := hV3
 rw [hV3] at C3
 have HR2 : Hid ((Builtin.append_ #[33, 33] 33 #[.slice none 0 0, v2]).run Try.prog V2 = .ok (.slice p2 c.slots.length q2) w3) := r2
 have e2 : w.heap.size + 1 + 1 + 1 ≤ V2.heap.size := by have := U2.1; omega
 obtain ⟨z3, w4, r3, b3, o3⟩ := app_ins (hv.list.below C3.bel) (by omega) 34
 obtain ⟨p3, q3, rfl⟩ := own_len o3
 have D3 := C3.app b3
 have c30 := C3.c.at 3 rfl
 have c31 : V3.cell? ⟨w.heap.size + 1 + 1, 3, none⟩ = some (.slice none 0 0) := C3.d.cell (i := 3) (by decide)
 have c32 : w4.cell? ⟨w.heap.size + 1 + 1, 3, none⟩ = some (.slice none 0 0) := D3.d.cell (i := 3) (by decide)
 have c33 := D3.d.frozen 3
 rw [Nat.zero_add] at c30
 have C4 := D3.put (y0 := (.slice p0 c.sign.length q0)) (y1 := (.slice p1 c.regs.length q1)) (y2 := (.slice p2 c.slots.length q2)) (y3 := (.slice p3 c.list.length q3)) 3 (.slice p3 c.list.length q3) (by intro j hj; rcases (show j = 0 ∨ j = 1 ∨ j = 2 ∨ j = 3 by omega) with rfl | rfl | rfl | rfl <;> rfl)
 obtain ⟨V4, hV4⟩ : ∃ V, w4.setCell ⟨w.heap.size + 1 + 1, 3, none⟩ (.slice p3 c.list.length q3) = V := ⟨_, rfl⟩
 have U4 : Up (w.heap.size + 1 + 1 + 1) V3 V4 := by rw [← hV4]; exact (Up.of b3).trans (Up.set _ (by omega) _ _)
 have T4 : Up (w.heap.size + 1 + 1 + 1) w4 V4 := by rw [← hV4]; exact Up.set _ (by omega) _ _
 have HV3 : Hid (w4.setCell ⟨w.heap.size + 1 + 1, 3, none⟩ (.slice p3 c.list.length q3) = V4) := hV4
 rw [hV4] at C4
 have HR3 : Hid ((Builtin.append_ #[34, 34] 34 #[.slice none 0 0, v3]).run Try.prog V3 = .ok (.slice p3 c.list.length q3) w4) := r3
 have e3 : w.heap.size + 1 + 1 + 1 ≤ V3.heap.size := by have := U3.1; omega
 have U5 : Up (w.heap.size + 1 + 1 + 1) V4 ((((V4.setCell ⟨w.heap.size + 1, 0, none⟩ (.slice p0 c.sign.length q0)).setCell ⟨w.heap.size + 1, 1, none⟩ (.slice p1 c.regs.length q1)).setCell ⟨w.heap.size + 1, 2, none⟩ (.slice p2 c.slots.length q2)).setCell ⟨w.heap.size + 1, 3, none⟩ (.slice p3 c.list.length q3)) := (((Up.set _ (by omega) _ _).trans (Up.set _ (by omega) _ _)).trans (Up.set _ (by omega) _ _)).trans (Up.set _ (by omega) _ _)
 have HF : Hid (CdV ((((V4.setCell ⟨w.heap.size + 1, 0, none⟩ (.slice p0 c.sign.length q0)).setCell ⟨w.heap.size + 1, 1, none⟩ (.slice p1 c.regs.length q1)).setCell ⟨w.heap.size + 1, 2, none⟩ (.slice p2 c.slots.length q2)).setCell ⟨w.heap.size + 1, 3, none⟩ (.slice p3 c.list.length q3)) (.slice p0 c.sign.length q0) (.slice p1 c.regs.length q1) (.slice p2 c.slots.length q2) (.slice p3 c.list.length q3) c ∧ (((((V4.setCell ⟨w.heap.size + 1, 0, none⟩ (.slice p0 c.sign.length q0)).setCell ⟨w.heap.size + 1, 1, none⟩ (.slice p1 c.regs.length q1)).setCell ⟨w.heap.size + 1, 2, none⟩ (.slice p2 c.slots.length q2)).setCell ⟨w.heap.size + 1, 3, none⟩ (.slice p3 c.list.length q3))).ownsRow w.heap.size 25 7 (.slice p3 c.list.length q3) c.list.length (flat inC c.list) ∧ Below w.heap.size w ((((V4.setCell ⟨w.heap.size + 1, 0, none⟩ (.slice p0 c.sign.length q0)).setCell ⟨w.heap.size + 1, 1, none⟩ (.slice p1 c.regs.length q1)).setCell ⟨w.heap.size + 1, 2, none⟩ (.slice p2 c.slots.length q2)).setCell ⟨w.heap.size + 1, 3, none⟩ (.slice p3 c.list.length q3))) := by
  have g3 := (T4.trans U5).own o3 e3
  refine ⟨⟨own_row parC_len (((((T1.trans U2).trans U3).trans U4).trans U5).own o0 e0), own_row tyC_len ((((T2.trans U3).trans U4).trans U5).own o1 e1), own_row slC_len (((T3.trans U4).trans U5).own o2 e2), own_row inC_len g3⟩, own_mono g3 (by omega), ?_⟩
  exact (((C4.bel.setCell (by show w.heap.size ≤ w.heap.size + 1; omega) _).setCell (by show w.heap.size ≤ w.heap.size + 1; omega) _).setCell (by show w.heap.size ≤ w.heap.size + 1; omega) _).setCell (by show w.heap.size ≤ w.heap.size + 1; omega) _
 have m0 : V4.cell? ⟨w.heap.size + 1 + 1, 0, none⟩ = some (.slice p0 c.sign.length q0) := C4.d.cell (i := 0) (by decide)
 have m1 : V4.cell? ⟨w.heap.size + 1 + 1, 1, none⟩ = some (.slice p1 c.regs.length q1) := C4.d.cell (i := 1) (by decide)
 have m2 : V4.cell? ⟨w.heap.size + 1 + 1, 2, none⟩ = some (.slice p2 c.slots.length q2) := C4.d.cell (i := 2) (by decide)
 have m3 : V4.cell? ⟨w.heap.size + 1 + 1, 3, none⟩ = some (.slice p3 c.list.length q3) := C4.d.cell (i := 3) (by decide)
 have k0 : V4.cell? ⟨w.heap.size + 1, 0, none⟩ = some (.slice none 0 0) := C4.r.cell (i := 0) (by decide)
 have k1 : V4.cell? ⟨w.heap.size + 1, 1, none⟩ = some (.slice none 0 0) := C4.r.cell (i := 1) (by decide)
 have k2 : V4.cell? ⟨w.heap.size + 1, 2, none⟩ = some (.slice none 0 0) := C4.r.cell (i := 2) (by decide)
 have k3 : V4.cell? ⟨w.heap.size + 1, 3, none⟩ = some (.slice none 0 0) := C4.r.cell (i := 3) (by decide)
 have y0 := C4.r.frozen 0
 have y1 := C4.r.frozen 1
 have y2 := C4.r.frozen 2
 have y3 := C4.r.frozen 3
 have HW : Hid (((w.alloc (.cells #[v0, v1, v2, v3] 36)).alloc (.cells #[.slice none 0 0, .slice none 0 0, .slice none 0 0, .slice none 0 0] 36)).alloc (.cells #[.slice none 0 0, .slice none 0 0, .slice none 0 0, .slice none 0 0] 36) = W0) := hW0
 clear C0 C1 C2 C3 C4 D0 D1 D2 D3 U0 U1 U2 U3 U4 U5 T1 T2 T3 T4 o0 o1 o2 o3 b0 b1 b2 b3 r0 r1 r2 r3 hv hz hV1 hV2 hV3 hV4 hW0 e0 e1 e2 e3 hE
 go_enter Try.func17, Try.ntmps17
 go_upto_region 2 with fail
 rw [HW.out]
 go_upto_region 3 with (at_builtin; refine wpList_app (by rfl) _ _ _ (by rfl) _ _ _ (by rfl) (by rfl) HR0.out ?_)
 rw [HV0.out]
 go_upto_region 4 with (at_builtin; refine wpList_app (by rfl) _ _ _ (by rfl) _ _ _ (by rfl) (by rfl) HR1.out ?_)
 rw [HV1.out]
 go_upto_region 5 with (at_builtin; refine wpList_app (by rfl) _ _ _ (by rfl) _ _ _ (by rfl) (by rfl) HR2.out ?_)
 rw [HV2.out]
 go_upto_region 6 with (at_builtin; refine wpList_app (by rfl) _ _ _ (by rfl) _ _ _ (by rfl) (by rfl) HR3.out ?_)
 rw [HV3.out]
 go_wp2
 refine bodyPost_ret (by simp [results, Try.results17, go_sem, *]; try rfl) rfl ?_
 exact ⟨_, _, _, _, rfl, HF.out.1, HF.out.2.1, HF.out.2.2⟩
end Go.Proofs.Ytkdpchlehoomhaa
namespace Go.Proofs.Ytkdpchlehoomhaa
open Go.RowKit
set_option linter.unusedVariables false
set_option linter.unusedSimpArgs false
set_option maxRecDepth 100000 in
set_option maxHeartbeats 4000000 in
theorem walk_IrEqual (a0 a1 a2 a3 : Value) (a : Cd) (ha : CdOk a) (za : CdSz a) (b0 b1 b2 b3 : Value) (b : Cd) (hb : CdOk b) (W : World) (hA : CdV W a0 a1 a2 a3 a) (hB : CdV W b0 b1 b2 b3 b) :
  Calls Try.prog 4 #[.agg #[a0, a1, a2, a3], .agg #[b0, b1, b2, b3]] W fun e W' => e = .returned (.bool true) ∧ Below W.heap.size W W' := by
 have K1 := fun v k => irEqual_any a0 a1 a2 a3 b0 b1 b2 b3 a b ha hb v (hA.below k) (hB.below k)
 have K2 := fun v k => rEqual_any a0 a1 a2 a3 b0 b1 b2 b3 a b ha hb v (hA.below k) (hB.below k)
 have K3 := fun v k => copied_any a0 a1 a2 a3 a za v (hA.below k)
 have K4 := fun u0 u1 u2 u3 v k h => irEqual_any a0 a1 a2 a3 u0 u1 u2 u3 a a ha ha v (hA.below k) h
 obtain ⟨X, hX⟩ : ∃ X, eqC a b = X := ⟨_, rfl⟩
 simp only [hX] at K1 K2
 simp only [eqC_self] at K4
 have HK1 : Hid (∀ v, Below W.heap.size W v → Calls Try.prog 15 #[.agg #[a0, a1, a2, a3], .agg #[b0, b1, b2, b3]] v fun e w' => e = .returned (.bool X) ∧ Below v.heap.size v w') := K1
 have HK2 : Hid (∀ v, Below W.heap.size W v → Calls Try.prog 16 #[.agg #[a0, a1, a2, a3], .agg #[b0, b1, b2, b3]] v fun e w' => e = .returned (.bool X) ∧ Below v.heap.size v w') := K2
 have HK3 : Hid (∀ v, Below W.heap.size W v → Calls Try.prog 17 #[.agg #[a0, a1, a2, a3]] v fun e w' => ∃ u0 u1 u2 u3, e = .returned (.agg #[u0, u1, u2, u3]) ∧ CdV w' u0 u1 u2 u3 a ∧ Below v.heap.size v w') := fun v k => (K3 v k).mono fun e w' ⟨u0, u1, u2, u3, h1, h2, _, h4⟩ => ⟨u0, u1, u2, u3, h1, h2, h4⟩
 have HK4 : Hid (∀ u0 u1 u2 u3 v, Below W.heap.size W v → CdV v u0 u1 u2 u3 a → Calls Try.prog 15 #[.agg #[a0, a1, a2, a3], .agg #[u0, u1, u2, u3]] v fun e w' => e = .returned (.bool true) ∧ Below v.heap.size v w') := K4
 have HK5 : Hid (∀ w, Calls Try.prog 14 #[] w fun e w' => e = .returned (.bool true) ∧ Below w.heap.size w w') := works_any
 clear K1 K2 K3 K4 hX hA hB ha hb za
 have HBX : Hid (∀ v, Below ((W.alloc (.cells #[a0, a1, a2, a3] 36)).alloc (.cells #[b0, b1, b2, b3] 36)).heap.size ((W.alloc (.cells #[a0, a1, a2, a3] 36)).alloc (.cells #[b0, b1, b2, b3] 36)) v → (v.cell? ⟨W.heap.size, 0, none⟩ = some a0 ∧ v.cell? ⟨W.heap.size, 1, none⟩ = some a1 ∧ v.cell? ⟨W.heap.size, 2, none⟩ = some a2 ∧ v.cell? ⟨W.heap.size, 3, none⟩ = some a3) ∧ v.cell? ⟨W.heap.size + 1, 0, none⟩ = some b0 ∧ v.cell? ⟨W.heap.size + 1, 1, none⟩ = some b1 ∧ v.cell? ⟨W.heap.size + 1, 2, none⟩ = some b2 ∧ v.cell? ⟨W.heap.size + 1, 3, none⟩ = some b3) := fun v k => two_boxes k
 have HB0 : Hid (Below W.heap.size W ((W.alloc (.cells #[a0, a1, a2, a3] 36)).alloc (.cells #[b0, b1, b2, b3] 36))) := bel (bel_alloc _ _) (bel_alloc _ _)
 go_enter Try.func4, Try.ntmps4
 go_upto_region 1 with fail
 obtain ⟨V, hV⟩ : ∃ V, (W.alloc (.cells #[a0, a1, a2, a3] 36)).alloc (.cells #[b0, b1, b2, b3] 36) = V := ⟨_, rfl⟩
 rw [hV] at HBX HB0 ⊢
 clear hV
 obtain ⟨⟨z0, z1, z2, z3⟩, y0, y1, y2, y3⟩ := HBX.out V (bel0 V)
 cases X
 all_goals
  refine wp_region_held_drew (S := (fun v => (v.cell? ⟨W.heap.size, 0, none⟩ = some a0 ∧ v.cell? ⟨W.heap.size, 1, none⟩ = some a1 ∧ v.cell? ⟨W.heap.size, 2, none⟩ = some a2 ∧ v.cell? ⟨W.heap.size, 3, none⟩ = some a3) ∧ v.cell? ⟨W.heap.size + 1, 0, none⟩ = some b0 ∧ v.cell? ⟨W.heap.size + 1, 1, none⟩ = some b1 ∧ v.cell? ⟨W.heap.size + 1, 2, none⟩ = some b2 ∧ v.cell? ⟨W.heap.size + 1, 3, none⟩ = some b3)) (by kernel_rfl) ?_ (fun hHeld => ?_)
  ·((try dsimp only); go_keep)
  refine wpAnyH_take (i := 0) (v := ?_) (by simp only [List.getElem?_toArray, List.getElem?_cons_succ, List.getElem?_cons_zero]; rfl) (by kernel_rfl) (by kernel_rfl) (by kernel_rfl) (by exact fun _ _ _ h => h) (Or.inl ⟨by rfl, ?_⟩) (by assumption) ?_
  rotate_left 1
  ·(intro wS hSw; (try dsimp only at hSw); go_simp; try (with_reducible rfl))
  try simp only [Act.put, List.setIfInBounds_toArray, List.set_cons_zero, List.set_cons_succ]
  refine wpAnyH_take (i := 1) (v := ?_) (by simp only [List.getElem?_toArray, List.getElem?_cons_succ, List.getElem?_cons_zero]; rfl) (by kernel_rfl) (by kernel_rfl) (by kernel_rfl) (by exact fun _ _ _ h => h) (Or.inl ⟨by rfl, ?_⟩) (by assumption) ?_
  rotate_left 1
  ·(intro wS hSw; (try dsimp only at hSw); go_simp; try (with_reducible rfl))
  try simp only [Act.put, List.setIfInBounds_toArray, List.set_cons_zero, List.set_cons_succ]
  refine wpAnyH_take (i := 3) (v := ?_) (by simp only [List.getElem?_toArray, List.getElem?_cons_succ, List.getElem?_cons_zero]; rfl) (by kernel_rfl) (by kernel_rfl) (by kernel_rfl) (by exact fun _ _ _ h => h) (Or.inl ⟨by rfl, ?_⟩) (by assumption) ?_
  rotate_left 1
  ·(intro wS hSw; (try dsimp only at hSw); go_simp; try (with_reducible rfl))
  try simp only [Act.put, List.setIfInBounds_toArray, List.set_cons_zero, List.set_cons_succ]
  refine wpAnyH_take (i := 4) (v := ?_) (by simp only [List.getElem?_toArray, List.getElem?_cons_succ, List.getElem?_cons_zero]; rfl) (by kernel_rfl) (by kernel_rfl) (by kernel_rfl) (by exact fun _ _ _ h => h) (Or.inl ⟨by rfl, ?_⟩) (by assumption) ?_
  rotate_left 1
  ·(intro wS hSw; (try dsimp only at hSw); go_simp; try (with_reducible rfl))
  try simp only [Act.put, List.setIfInBounds_toArray, List.set_cons_zero, List.set_cons_succ]
  clear hHeld
  refine wpAnyH_ready (rs := [2]) (by kernel_rfl) (by simp) ?_
  refine AllReadyH.cons (i := 2) (by simp only [List.getElem?_toArray, List.getElem?_cons_succ, List.getElem?_cons_zero]; rfl) (fun K hK => ?_) AllReadyH.nil
  go_simp
  (go_at_call 15; (with_reducible refine (HK1.out _ (bel HB0.out (bel_d _))).mono ?_); rintro e w1 ⟨rfl, hb1⟩; have HB1 := bel (bel_d _) hb1; obtain ⟨⟨r0, r1, r2, r3⟩, r4, r5, r6, r7⟩ := HBX.out w1 HB1)
  try (go_wp2_with fail)
  refine hK.out _ _ ?_ (fun hHeld => ?_)
  ·((try dsimp only); go_keep)
  clear hK K
  try simp only [Act.put, List.setIfInBounds_toArray, List.set_cons_zero, List.set_cons_succ]
  clear hHeld
  refine wpAnyH_ready (rs := [5]) (by kernel_rfl) (by simp) ?_
  refine AllReadyH.cons (i := 5) (by simp only [List.getElem?_toArray, List.getElem?_cons_succ, List.getElem?_cons_zero]; rfl) (fun K hK => ?_) AllReadyH.nil
  go_simp
  (go_at_call 16; (with_reducible refine (HK2.out _ (bel HB0.out HB1)).mono ?_); rintro e w2 ⟨rfl, hb2⟩; have HB2 := bel HB1 hb2; obtain ⟨⟨r0, r1, r2, r3⟩, r4, r5, r6, r7⟩ := HBX.out w2 HB2)
  try (go_wp2_with fail)
  refine hK.out _ _ ?_ (fun hHeld => ?_)
  ·((try dsimp only); go_keep)
  clear hK K
  try simp only [Act.put, List.setIfInBounds_toArray, List.set_cons_zero, List.set_cons_succ]
  refine wpAnyH_take (i := 6) (v := ?_) (by simp only [List.getElem?_toArray, List.getElem?_cons_succ, List.getElem?_cons_zero]; rfl) (by kernel_rfl) (by kernel_rfl) (by kernel_rfl) (by exact fun _ _ _ h => h) (Or.inl ⟨by rfl, ?_⟩) (by assumption) ?_
  rotate_left 1
  ·(intro wS hSw; (try dsimp only at hSw); go_simp; try (with_reducible rfl))
  try simp only [Act.put, List.setIfInBounds_toArray, List.set_cons_zero, List.set_cons_succ]
  refine wpAnyH_take (i := 7) (v := ?_) (by simp only [List.getElem?_toArray, List.getElem?_cons_succ, List.getElem?_cons_zero]; rfl) (by kernel_rfl) (by kernel_rfl) (by kernel_rfl) (by exact fun _ _ _ h => h) (Or.inl ⟨by rfl, ?_⟩) (by assumption) ?_
  rotate_left 1
  ·(intro wS hSw; (try dsimp only at hSw); go_simp; try (with_reducible rfl))
  try simp only [Act.put, List.setIfInBounds_toArray, List.set_cons_zero, List.set_cons_succ]
  refine wpAnyH_take (i := 8) (v := ?_) (by simp only [List.getElem?_toArray, List.getElem?_cons_succ, List.getElem?_cons_zero]; rfl) (by kernel_rfl) (by kernel_rfl) (by kernel_rfl) (by exact fun _ _ _ h => h) (Or.inl ⟨by rfl, ?_⟩) (by assumption) ?_
  rotate_left 1
  ·(intro wS hSw; (try dsimp only at hSw); go_simp; try (with_reducible rfl))
  try simp only [Act.put, List.setIfInBounds_toArray, List.set_cons_zero, List.set_cons_succ]
  refine wpAnyH_take (i := 9) (v := ?_) (by simp only [List.getElem?_toArray, List.getElem?_cons_succ, List.getElem?_cons_zero]; rfl) (by kernel_rfl) (by kernel_rfl) (by kernel_rfl) (by exact fun _ _ _ h => h) (Or.inl ⟨by rfl, ?_⟩) (by assumption) ?_
  rotate_left 1
  ·(intro wS hSw; (try dsimp only at hSw); go_simp; try (with_reducible rfl))
  try simp only [Act.put, List.setIfInBounds_toArray, List.set_cons_zero, List.set_cons_succ]
  clear hHeld
  refine wpAnyH_ready (rs := [10]) (by kernel_rfl) (by simp) ?_
  refine AllReadyH.cons (i := 10) (by simp only [List.getElem?_toArray, List.getElem?_cons_succ, List.getElem?_cons_zero]; rfl) (fun K hK => ?_) AllReadyH.nil
  go_simp
  (go_at_call 17; (with_reducible refine (HK3.out _ (bel HB0.out HB2)).mono ?_); rintro e w3 ⟨u0, u1, u2, u3, rfl, hc3, hb3⟩; have HC3 : Hid (CdV w3 u0 u1 u2 u3 a) := hc3; clear hc3; have HB3 := bel HB2 hb3; obtain ⟨⟨r0, r1, r2, r3⟩, r4, r5, r6, r7⟩ := HBX.out w3 HB3)
  try (go_wp2_with fail)
  refine hK.out _ _ ?_ (fun hHeld => ?_)
  ·((try dsimp only); go_keep)
  clear hK K
  try simp only [Act.put, List.setIfInBounds_toArray, List.set_cons_zero, List.set_cons_succ]
  clear hHeld
  refine wpAnyH_ready (rs := [11]) (by kernel_rfl) (by simp) ?_
  refine AllReadyH.cons (i := 11) (by simp only [List.getElem?_toArray, List.getElem?_cons_succ, List.getElem?_cons_zero]; rfl) (fun K hK => ?_) AllReadyH.nil
  go_simp
  (go_at_call 15; (with_reducible refine (HK4.out _ _ _ _ _ (bel HB0.out HB3) HC3.out).mono ?_); rintro e w4 ⟨rfl, hb4⟩; have HB4 := bel HB3 hb4; obtain ⟨⟨r0, r1, r2, r3⟩, r4, r5, r6, r7⟩ := HBX.out w4 HB4)
  try (go_wp2_with fail)
  refine hK.out _ _ ?_ (fun hHeld => ?_)
  ·((try dsimp only); go_keep)
  clear hK K
  try simp only [Act.put, List.setIfInBounds_toArray, List.set_cons_zero, List.set_cons_succ]
  refine wpAnyH_take (i := 12) (v := ?_) (by simp only [List.getElem?_toArray, List.getElem?_cons_succ, List.getElem?_cons_zero]; rfl) (by kernel_rfl) (by kernel_rfl) (by kernel_rfl) (by exact fun _ _ _ h => h) (Or.inl ⟨by rfl, ?_⟩) (by assumption) ?_
  rotate_left 1
  ·(intro wS hSw; (try dsimp only at hSw); go_simp; try (with_reducible rfl))
  try simp only [Act.put, List.setIfInBounds_toArray, List.set_cons_zero, List.set_cons_succ]
  refine wpAnyH_take (i := 13) (v := ?_) (by simp only [List.getElem?_toArray, List.getElem?_cons_succ, List.getElem?_cons_zero]; rfl) (by kernel_rfl) (by kernel_rfl) (by kernel_rfl) (by exact fun _ _ _ h => h) (Or.inl ⟨by rfl, ?_⟩) (by assumption) ?_
  rotate_left 1
  ·(intro wS hSw; (try dsimp only at hSw); go_simp; try (with_reducible rfl))
  try simp only [Act.put, List.setIfInBounds_toArray, List.set_cons_zero, List.set_cons_succ]
  clear hHeld
  refine wpAnyH_ready (rs := [14]) (by kernel_rfl) (by simp) ?_
  refine AllReadyH.cons (i := 14) (by simp only [List.getElem?_toArray, List.getElem?_cons_succ, List.getElem?_cons_zero]; rfl) (fun K hK => ?_) AllReadyH.nil
  go_simp
  (go_at_call 14; (with_reducible refine (HK5.out _).mono ?_); rintro e w5 ⟨rfl, hb5⟩; have HB5 := bel HB4 hb5; obtain ⟨⟨r0, r1, r2, r3⟩, r4, r5, r6, r7⟩ := HBX.out w5 HB5)
  try (go_wp2_with fail)
  refine hK.out _ _ ?_ (fun hHeld => ?_)
  ·((try dsimp only); go_keep)
  clear hK K
  try simp only [Act.put, List.setIfInBounds_toArray, List.set_cons_zero, List.set_cons_succ]
  refine wpAnyH_take (i := 15) (v := ?_) (by simp only [List.getElem?_toArray, List.getElem?_cons_succ, List.getElem?_cons_zero]; rfl) (by kernel_rfl) (by kernel_rfl) (by kernel_rfl) (by exact fun _ _ _ h => h) (Or.inl ⟨by rfl, ?_⟩) (by assumption) ?_
  rotate_left 1
  ·(intro wS hSw; (try dsimp only at hSw); go_simp; try (with_reducible rfl))
  try simp only [Act.put, List.setIfInBounds_toArray, List.set_cons_zero, List.set_cons_succ]
  refine wpAnyH_take (i := 16) (v := ?_) (by simp only [List.getElem?_toArray, List.getElem?_cons_succ, List.getElem?_cons_zero]; rfl) (by kernel_rfl) (by kernel_rfl) (by kernel_rfl) (by exact fun _ _ _ h => h) (Or.inl ⟨by rfl, ?_⟩) (by assumption) ?_
  rotate_left 1
  ·(intro wS hSw; (try dsimp only at hSw); go_simp; try (with_reducible rfl))
  try simp only [Act.put, List.setIfInBounds_toArray, List.set_cons_zero, List.set_cons_succ]
  refine wpAnyH_done (by kernel_rfl) ?_ _
  go_wp2
  go_ret
  exact ⟨rfl, bel HB0.out HB5⟩
end Go.Proofs.Ytkdpchlehoomhaa
namespace Go.Proofs.Ytkdpchlehoomhaa
open Go.ChangeShapes Go.WideShapes Go.ChangeAt Go.RowKit
set_option linter.unusedVariables false
set_option maxRecDepth 100000
theorem cells_Inst : Try.prog.cellsOf 25 = 7 := by kernel_rfl
theorem cells_Param : Try.prog.cellsOf 62 = 3 := by kernel_rfl
theorem cells_Type : Try.prog.cellsOf 65 = 2 := by kernel_rfl
theorem cells_Slot : Try.prog.cellsOf 68 = 5 := by kernel_rfl
theorem cells_Code : Try.prog.cellsOf 36 = 4 := by kernel_rfl
theorem bytes_Inst : Try.prog.bytesOf 25 = 56 := by kernel_rfl
theorem bytes_Param : Try.prog.bytesOf 62 = 32 := by kernel_rfl
theorem bytes_Type : Try.prog.bytesOf 65 = 16 := by kernel_rfl
theorem bytes_Slot : Try.prog.bytesOf 68 = 32 := by kernel_rfl
theorem weights_mem_all {H : Type} {P : Program} {e : TypeId} : ∀ {l : List (DataW H)} {d : DataW H}, d ∈ l → ∀ n ∈ d.weights P e, n ∈ DataW.weightsAll P e l
 | [], d, h, n, hn => by cases h
 | x :: r, d, h, n, hn => by
  simp only [DataW.weightsAll, List.mem_append]
  rcases List.mem_cons.1 h with rfl | h
  ·exact .inl hn
  ·exact .inr (weights_mem_all h n hn)
section
variable {H : Type} {enc : TypeId × Value → H} {w : World} {base : Nat} {held : Bool}
def InsOk (i : Ins) : Prop := 0 ≤ i.bits ∧ i.bits < 4294967296
theorem open_Ins {fuel : Nat} {cs : List Value} {x : DataW H × List MemPlace} (h : DataW.trod enc Try.prog w base (fun _ => true) held fuel 25 cs = some x) : ∃ i : Ins, cs = inC i ∧ InsOk i := by
 obtain ⟨xs, n, hfn, hx, hl, hxl, hf⟩ := DataW.trod_struct Try.underlying25 h
 rw [cells_Inst] at hl
 match cs, hl with
 | [v0, v1, v2, v3, v4, v5, v6], _ =>
 match xs, hxl with
 | [y0, y1, y2, y3, y4, y5, y6], _ =>
  have e0 : DataW.trod enc Try.prog w base (fun _ => true) held n 3 [v0] = some y0 := hf 0 _ rfl
  have e1 : DataW.trod enc Try.prog w base (fun _ => true) held n 3 [v1] = some y1 := hf 1 _ rfl
  have e2 : DataW.trod enc Try.prog w base (fun _ => true) held n 3 [v2] = some y2 := hf 2 _ rfl
  have e3 : DataW.trod enc Try.prog w base (fun _ => true) held n 3 [v3] = some y3 := hf 3 _ rfl
  have e4 : DataW.trod enc Try.prog w base (fun _ => true) held n 3 [v4] = some y4 := hf 4 _ rfl
  have e5 : DataW.trod enc Try.prog w base (fun _ => true) held n 3 [v5] = some y5 := hf 5 _ rfl
  have e6 : DataW.trod enc Try.prog w base (fun _ => true) held n 23 [v6] = some y6 := hf 6 _ rfl
  obtain ⟨a0, c0, -, w0⟩ := DataW.trod_int Try.underlying3 e0
  obtain ⟨a1, c1, -, w1⟩ := DataW.trod_int Try.underlying3 e1
  obtain ⟨a2, c2, -, w2⟩ := DataW.trod_int Try.underlying3 e2
  obtain ⟨a3, c3, -, w3⟩ := DataW.trod_int Try.underlying3 e3
  obtain ⟨a4, c4, -, w4⟩ := DataW.trod_int Try.underlying3 e4
  obtain ⟨a5, c5, -, w5⟩ := DataW.trod_int Try.underlying3 e5
  obtain ⟨a6, c6, -, w6⟩ := DataW.trod_int Try.underlying23 e6
  simp only [List.cons.injEq, and_true] at c0 c1 c2 c3 c4 c5 c6
  subst c0 c1 c2 c3 c4 c5 c6
  exact ⟨⟨a0, a1, a2, a3, a4, a5, a6⟩, rfl, (bounds_u32 w6).1, Int.lt_add_one_of_le (bounds_u32 w6).2⟩
theorem open_Par {fuel : Nat} {cs : List Value} {x : DataW H × List MemPlace} (h : DataW.trod enc Try.prog w base (fun _ => true) held fuel 62 cs = some x) (hw : ∀ n ∈ x.1.weights Try.prog 62, n ≤ reachBytes) :
  ∃ p : Par, cs = parCells p ∧ p.name.size ≤ 140737488351232 := by
 obtain ⟨xs, n, hfn, hx, hl, hxl, hf⟩ := DataW.trod_struct Try.underlying62 h
 rw [cells_Param] at hl
 match cs, hl with
 | [v0, v1, v2], _ =>
 match xs, hxl with
 | [y0, y1, y2], _ =>
  have e0 : DataW.trod enc Try.prog w base (fun _ => true) held n 9 [v0] = some y0 := hf 0 _ rfl
  have e1 : DataW.trod enc Try.prog w base (fun _ => true) held n 3 [v1] = some y1 := hf 1 _ rfl
  have e2 : DataW.trod enc Try.prog w base (fun _ => true) held n 3 [v2] = some y2 := hf 2 _ rfl
  obtain ⟨a0, c0, hd0, w0⟩ := DataW.trod_string Try.underlying9 e0
  obtain ⟨a1, c1, hd1, w1⟩ := DataW.trod_int Try.underlying3 e1
  obtain ⟨a2, c2, hd2, w2⟩ := DataW.trod_int Try.underlying3 e2
  simp only [List.cons.injEq, and_true] at c0 c1 c2
  subst c0 c1 c2
  subst hx
  have hws : ∀ (j : Nat) (t : TypeId) (d : DataW H), [9, 3, 3][j]? = some t → [y0.1, y1.1, y2.1][j]? = some d → ∀ n ∈ d.weights Try.prog t, n ≤ reachBytes := fun j t d ht hd n hn => by
   refine hw n ?_
   show n ∈ DataW.weights Try.prog 62 (.agg [y0.1, y1.1, y2.1])
   rw [DataW.weights, Try.underlying62]
   exact DataW.weights_mem_each (ts := [9, 3, 3]) ht hd n hn
  have s1 : a0.size ≤ 140737488351232 := by
   have := hws 0 _ _ rfl rfl a0.data.toList.length (by rw [hd0]; simp [DataW.weights])
   simpa [reachBytes] using this
  exact ⟨⟨a0, a1, a2⟩, rfl, s1⟩
theorem open_Ty {fuel : Nat} {cs : List Value} {x : DataW H × List MemPlace} (h : DataW.trod enc Try.prog w base (fun _ => true) held fuel 65 cs = some x) : ∃ t : Ty, cs = tyC t ∧ True := by
 obtain ⟨xs, n, hfn, hx, hl, hxl, hf⟩ := DataW.trod_struct Try.underlying65 h
 rw [cells_Type] at hl
 match cs, hl with
 | [v0, v1], _ =>
 match xs, hxl with
 | [y0, y1], _ =>
  have e0 : DataW.trod enc Try.prog w base (fun _ => true) held n 3 [v0] = some y0 := hf 0 _ rfl
  have e1 : DataW.trod enc Try.prog w base (fun _ => true) held n 3 [v1] = some y1 := hf 1 _ rfl
  obtain ⟨a0, c0, -, w0⟩ := DataW.trod_int Try.underlying3 e0
  obtain ⟨a1, c1, -, w1⟩ := DataW.trod_int Try.underlying3 e1
  simp only [List.cons.injEq, and_true] at c0 c1
  subst c0 c1
  exact ⟨⟨a0, a1⟩, rfl, trivial⟩
def SlOk (s : Sl) : Prop := 0 ≤ s.bits ∧ s.bits < 4294967296
theorem open_Sl {fuel : Nat} {cs : List Value} {x : DataW H × List MemPlace} (h : DataW.trod enc Try.prog w base (fun _ => true) held fuel 68 cs = some x) : ∃ s : Sl, cs = slC s ∧ SlOk s := by
 obtain ⟨xs, n, hfn, hx, hl, hxl, hf⟩ := DataW.trod_struct Try.underlying68 h
 rw [cells_Slot] at hl
 match cs, hl with
 | [v0, v1, v2, v3, v4], _ =>
 match xs, hxl with
 | [y0, y1, y2, y3], _ =>
  have e0 : DataW.trod enc Try.prog w base (fun _ => true) held n 65 [v0, v1] = some y0 := hf 0 _ rfl
  have e1 : DataW.trod enc Try.prog w base (fun _ => true) held n 4 [v2] = some y1 := hf 1 _ rfl
  have e2 : DataW.trod enc Try.prog w base (fun _ => true) held n 23 [v3] = some y2 := hf 2 _ rfl
  have e3 : DataW.trod enc Try.prog w base (fun _ => true) held n 3 [v4] = some y3 := hf 3 _ rfl
  obtain ⟨t, ht, -⟩ := open_Ty e0
  obtain ⟨a1, c1, -⟩ := DataW.trod_bool Try.underlying4 e1
  obtain ⟨a2, c2, -, w2⟩ := DataW.trod_int Try.underlying23 e2
  obtain ⟨a3, c3, -, w3⟩ := DataW.trod_int Try.underlying3 e3
  obtain ⟨K, P⟩ := t
  simp only [tyC, List.cons.injEq, and_true] at ht c1 c2 c3
  obtain ⟨rfl, rfl⟩ := ht
  subst c1 c2 c3
  exact ⟨⟨⟨K, P⟩, a1, a2, a3⟩, rfl, (bounds_u32 w2).1, Int.lt_add_one_of_le (bounds_u32 w2).2⟩
theorem open_rowG {α : Type} [Inhabited α] {f : α → List Value} {k bytes : Nat} {t e : TypeId} {Good : α → Prop} (hk : 0 < k) (hf : ∀ x, (f x).length = k) (ht : Try.prog.underlying t = some (.slice e)) (hce : Try.prog.cellsOf e = k) (hby : Try.prog.bytesOf e = bytes) (hb0 : 0 < bytes)
  (hop : ∀ {fuel : Nat} {cs : List Value} {x : DataW H × List MemPlace}, DataW.trod enc Try.prog w base (fun _ => true) held fuel e cs = some x → (∀ n ∈ x.1.weights Try.prog e, n ≤ reachBytes) → ∃ a : α, cs = f a ∧ Good a)
  {fuel : Nat} {v : Value} {x : DataW H × List MemPlace} (h : DataW.trod enc Try.prog w base (fun _ => true) held fuel t [v] = some x) (hw : ∀ n ∈ x.1.weights Try.prog t, n ≤ reachBytes) :
  ∃ l : List α, RowG k f w v l ∧ l.length * bytes ≤ 140737488351232 ∧ ∀ a ∈ l, Good a := by
 rcases DataW.trod_slice ht h with ⟨hcs, hx⟩ | ⟨a, len, cap, elems, rest, m, hm, hcs, hx, _, hl, _, hel, hread, _, _⟩
 ·simp only [List.cons.injEq, and_true] at hcs
  subst hcs
  exact ⟨[], ⟨none, 0, rfl, .inl rfl⟩, by simp, fun a h => by cases h⟩
 ·simp only [List.cons.injEq, and_true] at hcs
  subst hcs
  subst hx
  have key : ∀ i, i < len → ∃ q : α, (∀ j, j < k → w.cell? (a.add (i * k + j)) = (f q)[j]?) ∧ Good q := by
   intro i hi
   have h1 := hread i hi
   rw [hce] at h1
   have hie : i < elems.length := by omega
   rw [List.getElem?_eq_getElem hie] at h1
   obtain ⟨cs', h2, h3⟩ := Option.bind_eq_some_iff.1 h1
   obtain ⟨_, hlen3, hcell⟩ := World.cells?_some h2
   obtain ⟨q, hcs, hok⟩ := hop h3 (fun n hn => hw n (by
    rw [DataW.weights, ht]
    exact List.mem_cons_of_mem _ (List.mem_append_left _ (weights_mem_all (List.mem_map.2 ⟨elems[i], List.getElem_mem hie, rfl⟩) n hn))))
   refine ⟨q, fun j hj => ?_, hok⟩
   have := hcell j hj
   rw [Go.Deep.add_add, hcs] at this
   exact this
  obtain ⟨g, hg⟩ := Go.Deep.choose_lt key
  have hTl : ((List.range len).map g).length = len := by simp
  have hbig : len * bytes ≤ 140737488351232 := by
   have := hw _ (by rw [DataW.weights, ht]; exact List.mem_cons_self)
   rw [hby] at this
   simp only [List.length_map, reachBytes] at this
   have hln : elems.length = len := by omega
   simp only [hln] at this
   exact Nat.le_trans (Nat.mul_le_mul_right _ (Nat.le_add_right _ _)) this
  refine ⟨(List.range len).map g, ?_, by rw [hTl]; exact hbig, ?_⟩
  ·refine ⟨some a, cap, by rw [hTl], ?_⟩
   by_cases hl0 : len = 0
   ·left; simp [hl0]
   ·obtain ⟨b, off, spot⟩ := a
    have hne : 0 < (f (g 0)).length := by rw [hf]; exact hk
    have hspot : spot = none := by
     have := (hg 0 (by omega)).1 0 hk
     rw [List.getElem?_eq_getElem hne] at this
     simpa [Addr.add] using World.cell?_spot this
    subst hspot
    refine .inr ⟨b, off, rfl, fun i hi j hj => ?_⟩
    have hi' : i < len := by rw [hTl] at hi; exact hi
    obtain ⟨q, -⟩ := hg i hi'
    have e : ((List.range len).map g)[i] = g i := by simp
    have hj2 : j < (f (g i)).length := by simpa [e] using hj
    have hj3 : j < k := by rw [← hf (g i)]; exact hj2
    have q' := q j hj3
    rw [add_none, ← Nat.add_assoc] at q'
    rw [q', List.getElem?_eq_getElem hj2]
    congr 1
    simp [e]
  ·intro q hq
   obtain ⟨i, hi, rfl⟩ := List.mem_map.1 hq
   exact (hg i (List.mem_range.1 hi)).2
instance : Inhabited Ins := ⟨⟨0, 0, 0, 0, 0, 0, 0⟩⟩
instance : Inhabited Ty := ⟨⟨0, 0⟩⟩
instance : Inhabited Sl := ⟨⟨⟨0, 0⟩, false, 0, 0⟩⟩
instance : Inhabited Par := ⟨⟨⟨#[]⟩, 0, 0⟩⟩
theorem open_Code {r : Reach} {b0 : Nat} {v : Value} {d : DataW H} {pl : List MemPlace} (hv : Value.okWide Try.prog w r b0 36 v) (h : DataW.Trod enc Try.prog w base (fun _ => true) held 36 v d pl) (hw : ∀ n ∈ d.weights Try.prog 36, n ≤ reachBytes) :
  ∃ (v0 v1 v2 v3 : Value) (c : Cd), v = .agg #[v0, v1, v2, v3] ∧ CdV w v0 v1 v2 v3 c ∧ CdOk c ∧ c.sign.length * 32 ≤ 140737488351232 ∧ c.regs.length * 16 ≤ 140737488351232 ∧ c.slots.length * 32 ≤ 140737488351232 ∧ c.list.length * 56 ≤ 140737488351232 := by
 obtain ⟨cs, rfl, hsz⟩ := okWide_struct Try.underlying36 hv
 obtain ⟨fuel, hf0⟩ := h
 obtain ⟨xs, n, hfn, hx, hl, hxl, hf⟩ := DataW.trod_struct Try.underlying36 hf0
 rw [cells_Code] at hl
 obtain ⟨cl, hcl⟩ : ∃ cl, (Value.agg cs).cells.toList = cl := ⟨_, rfl⟩
 rw [hcl] at hl hf
 have hcs : cs.toList = cl := by rw [← hcl]; simp [Value.cells]
 match cl, hl with
 | [v0, v1, v2, v3], _ =>
 match xs, hxl with
 | [y0, y1, y2, y3], _ =>
  have e0 : DataW.trod enc Try.prog w base (fun _ => true) held n 31 [v0] = some y0 := hf 0 _ rfl
  have e1 : DataW.trod enc Try.prog w base (fun _ => true) held n 32 [v1] = some y1 := hf 1 _ rfl
  have e2 : DataW.trod enc Try.prog w base (fun _ => true) held n 33 [v2] = some y2 := hf 2 _ rfl
  have e3 : DataW.trod enc Try.prog w base (fun _ => true) held n 34 [v3] = some y3 := hf 3 _ rfl
  have hd : d = .agg [y0.1, y1.1, y2.1, y3.1] := congrArg Prod.fst hx
  have hws : ∀ (j : Nat) (t : TypeId) (d : DataW H), [31, 32, 33, 34][j]? = some t → [y0.1, y1.1, y2.1, y3.1][j]? = some d → ∀ n ∈ d.weights Try.prog t, n ≤ reachBytes := fun j t d' ht hd' n hn => by
   refine hw n ?_
   rw [hd]
   show n ∈ DataW.weights Try.prog 36 (.agg [y0.1, y1.1, y2.1, y3.1])
   rw [DataW.weights, Try.underlying36]
   exact DataW.weights_mem_each (ts := [31, 32, 33, 34]) ht hd' n hn
  obtain ⟨l0, r0, s0, g0⟩ := open_rowG (Good := fun p : Par => p.name.size ≤ 140737488351232) (by decide) parC_len Try.underlying31 cells_Param bytes_Param (by decide) (fun h hw => open_Par h hw) e0 (hws 0 _ _ rfl rfl)
  obtain ⟨l1, r1, s1, g1⟩ := open_rowG (Good := fun _ : Ty => True) (by decide) tyC_len Try.underlying32 cells_Type bytes_Type (by decide) (fun h _ => open_Ty h) e1 (hws 1 _ _ rfl rfl)
  obtain ⟨l2, r2, s2, g2⟩ := open_rowG (Good := SlOk) (by decide) slC_len Try.underlying33 cells_Slot bytes_Slot (by decide) (fun h _ => open_Sl h) e2 (hws 2 _ _ rfl rfl)
  obtain ⟨l3, r3, s3, g3⟩ := open_rowG (Good := InsOk) (by decide) inC_len Try.underlying34 cells_Inst bytes_Inst (by decide) (fun h _ => open_Ins h) e3 (hws 3 _ _ rfl rfl)
  refine ⟨v0, v1, v2, v3, ⟨l0, l1, l2, l3⟩, ?_, ⟨r0, r1, r2, r3⟩, ⟨by show l0.length ≤ _; omega, g0, by show l1.length ≤ _; omega, by show l2.length ≤ _; omega, by show l3.length ≤ _; omega, g2, g3⟩, s0, s1, s2, s3⟩
  rw [Value.agg.injEq]
  apply Array.toList_inj.1
  exact hcs
end
end Go.Proofs.Ytkdpchlehoomhaa
