import Derived.Test.YtholhpmnicibgaaGreatMark1
import Derived.Test.YtholhpmnicibgaaGreatMark22
/- Package interp: New. -/
namespace Go.Proofs.YtholhpmnicibgaaGreat
open Go.RowKit
set_option linter.unusedVariables false
set_option linter.unusedSimpArgs false

/-- A run in memory: at R, its code and its slots as a says; all of it from B on. -/
structure RunAt (T : Nat → Prop) (B : Nat) (w : World) (R : Nat) (a : Lay) (X : Nat → Value) (c : Cd) (l : List Hd) : Prop where
  hS : T a.S
  hR : ¬ T R
  ltR : R < w.heap.size
  run : CellsAt w R 0 [.pointer (some ⟨a.C, 0, none⟩), .slice a.sp c.slots.length a.sc]
  code : CdT T w a c
  slots : SlT T w a X l
  len : l.length = c.slots.length
  ok : ∀ j (h : j < c.slots.length) (h' : j < l.length), HdOK c c.slots[j].ty l[j]
  bR : B ≤ R
  bC : B ≤ a.C
  bS : B ≤ a.S
theorem RunAt.un {T U : Nat → Prop} {B : Nat} {w w' : World} {R : Nat} {a : Lay} {X : Nat → Value} {c : Cd} {l : List Hd} (h : RunAt T B w R a X c l) (q : Un U w w') (hU : ¬ U a.S) (hu : ∀ b, b < w.heap.size → U b → T b) : RunAt T B w' R a X c l :=
  ⟨h.hS, h.hR, Nat.lt_of_lt_of_le h.ltR q.size, h.run.of_block (q.block _ h.ltR fun e => h.hR (hu _ h.ltR e)), h.code.un q hu, h.slots.un q hU hu, h.len, h.ok, h.bR, h.bC, h.bS⟩
theorem RunAt.below {T : Nat → Prop} {B : Nat} {w w' : World} {R : Nat} {a : Lay} {X : Nat → Value} {c : Cd} {l : List Hd} (h : RunAt T B w R a X c l) (q : Below w.heap.size w w') : RunAt T B w' R a X c l := h.un (U := fun _ => False) (Un.of q) (fun e => e) (fun _ _ e => e.elim)
theorem RunAt.mono {T U : Nat → Prop} {B : Nat} {w : World} {R : Nat} {a : Lay} {X : Nat → Value} {c : Cd} {l : List Hd} (h : RunAt T B w R a X c l) (hS : U a.S) (hu : ∀ b, b < w.heap.size → U b → T b) : RunAt U B w R a X c l :=
  ⟨hS, fun e => h.hR (hu _ h.ltR e), h.ltR, h.run, h.code.mono hu, h.slots.mono hu, h.len, h.ok, h.bR, h.bC, h.bS⟩
/-- What the checks leave. -/
theorem good_of {c : Cd} (h : (checkC c).1 = 0) : Good c ∧ takenP c ⟨[], []⟩ c.list = true := by
  obtain ⟨h1, h2, _⟩ := checkC_ok.1 h
  refine ⟨?_, h2⟩
  unfold aheadP at h1
  by_cases e1 : checkP c.sign = 0
  · rw [if_neg (by simp [e1])] at h1
    by_cases e2 : 16384 < c.regs.length ∨ 32768 < c.list.length
    · rw [if_pos e2] at h1; cases h1
    · rw [if_neg e2] at h1
      by_cases e3 : 4096 < c.slots.length
      · rw [if_pos e3] at h1; cases h1
      · rw [if_neg e3] at h1
        by_cases e4 : (typesMay c && slotsMay c) = true
        · simp only [Bool.and_eq_true] at e4
          have e5 : ¬ c.sign.length > 64 ∧ c.sign.all mayP = true := by
            unfold checkP at e1
            by_cases q1 : c.sign.length > 64
            · rw [if_pos q1] at e1; cases e1
            · rw [if_neg q1] at e1
              refine ⟨q1, ?_⟩
              cases q2 : c.sign.all mayP with
              | true => rfl
              | false => rw [if_pos q2] at e1; cases e1
          have hm : ∀ p ∈ c.sign, mayP p = true := List.all_eq_true.1 e5.2
          refine ⟨fun p hp => ?_, hm, List.all_eq_true.1 e4.1, List.all_eq_true.1 e4.2, by omega, by omega, by omega, by omega⟩
          have := hm p hp
          unfold mayP at this
          simp only [Bool.and_eq_true, decide_eq_true_eq] at this
          omega
        · rw [if_neg e4] at h1; cases h1
  · rw [if_pos e1] at h1; exact absurd h1 e1
theorem begun_ok {c : Cd} (hg : Good c) {s : Sl} (hs : s ∈ c.slots) (hb : IsP s.bits) : HdOK c s.ty (begunP c s) := by
  have hm := hg.slots s hs
  unfold slotMay at hm
  simp only [Bool.and_eq_true] at hm
  have hb2 := hm.2
  unfold begins at hb2
  refine ⟨by unfold begunP fillP; simp, fun y hy => ?_, ?_⟩
  · unfold begunP fillP at hy
    rw [List.eq_of_mem_replicate hy]
    exact isP_canon _ hb
  · show 0 ≤ s.int_ ∧ s.int_ ≤ 2147483647
    split at hb2
    · unfold wholeB at hb2
      simp only [Bool.and_eq_true, decide_eq_true_eq, beq_iff_eq] at hb2
      exact hb2.2
    · simp only [Bool.and_eq_true, beq_iff_eq] at hb2
      omega
theorem info_H : (Tryz.prog.info? 80).map (fun i => (i.zero, i.size, i.bytes)) = some (some (.agg #[.slice none 0 0, .int .i64 0]), 2, 32) := by kernel_rfl

theorem make_H (m : Nat) (h : m ≤ 35184372088) (w : World) : (Instr.makeSlice 76 (.int .i64 m) (.int .i64 m)).run Tryz.prog w = .ok (.slice (some ⟨w.heap.size, 0, none⟩) m m) (w.alloc (.cells (madeCells #[.slice none 0 0, .int .i64 0] (m * 2)) 80)) := by
  obtain ⟨i, hi, hz, hs, hb⟩ := info_parts info_H
  have hr := run_make (P := Tryz.prog) w 76 80 i _ Tryz.underlying76 hi hz .i64 .i64 m m (by omega) (Int.le_refl _) (by rw [hb]; omega) (by omega)
  rw [hs, show (Value.agg #[.slice none 0 0, .int .i64 0]).cells = #[.slice none 0 0, .int .i64 0] from rfl] at hr
  simpa using hr

def heldZ (j : Nat) : Value := if j % 2 = 0 then .slice none 0 0 else .int .i64 0
theorem row_H (w : World) (m : Nat) : (w.alloc (.cells (madeCells #[.slice none 0 0, .int .i64 0] (m * 2)) 80)).rowIs w.heap.size 80 (2 * m) heldZ := by
  have h := World.rowIs_alloc w (madeCells #[.slice none 0 0, .int .i64 0] (m * 2)) 80 heldZ (fun i hi => by
    rw [size_madeCells] at hi
    unfold madeCells
    rw [Array.getElem?_map, Array.getElem?_range]
    simp [hi]
    unfold heldZ
    have h2 : i % 2 = 0 ∨ i % 2 = 1 := by omega
    rcases h2 with h | h <;> rw [h] <;> rfl)
  rw [size_madeCells] at h
  rw [Nat.mul_comm 2 m]
  exact h

theorem startH_at {c : Cd} {k : Nat} (h : k < (startH c).length) (h' : k < c.slots.length) : (startH c)[k] = begunP c c.slots[k] := by simp [startH]
/-- The slots so far. -/
def SlotsTo (T : Nat → Prop) (w : World) (S m : Nat) (c : Cd) (j : Nat) : Prop :=
  ∃ X, w.rowIs S 80 (2 * m) X ∧ ∀ k (h : k < c.slots.length), k < j → X (2 * k + 1) = .int .i64 c.slots[k].int_ ∧ Pt T w (X (2 * k)) (fillP c c.slots[k].ty c.slots[k].bits)

set_option maxRecDepth 100000 in
set_option maxHeartbeats 8000000 in
theorem new_bad (v0 v1 v2 v3 : Value) (c : Cd) (hk : CdOk c) (w : World) (hv : CdV w v0 v1 v2 v3 c) (hc : (checkC c).1 ≠ 0) :
    Calls Tryz.prog 8 #[.agg #[v0, v1, v2, v3]] w fun e w' => e = .returned (.tuple #[.pointer none, .int .i64 (checkC c).1]) ∧ Below w.heap.size w w' := by
  have KC : Hid (∀ v, Below w.heap.size w v → Calls Tryz.prog 19 #[.agg #[v0, v1, v2, v3]] v fun e w' => e = .returned (.tuple #[.int .i64 (checkC c).1, .int .i64 (checkC c).2]) ∧ Below v.heap.size v w') := fun v hvv => check_any v0 v1 v2 v3 c hk v (hv.below hvv)
  obtain ⟨e1, he1⟩ : ∃ e1, (checkC c).1 = e1 := ⟨_, rfl⟩
  obtain ⟨e2, he2⟩ : ∃ e2, (checkC c).2 = e2 := ⟨_, rfl⟩
  rw [he1] at hc KC ⊢
  rw [he2] at KC
  have n1 : (e1 != 0) = true := by simpa using hc
  have n2 : (e1 == 0) = false := by simpa using hc
  obtain ⟨p0, q0, rfl⟩ : ∃ p q, v0 = .slice p c.sign.length q := by obtain ⟨p, q, e, _⟩ := hv.sign; exact ⟨p, q, e⟩
  obtain ⟨p1, q1, rfl⟩ : ∃ p q, v1 = .slice p c.regs.length q := by obtain ⟨p, q, e, _⟩ := hv.regs; exact ⟨p, q, e⟩
  obtain ⟨p2, q2, rfl⟩ : ∃ p q, v2 = .slice p c.slots.length q := by obtain ⟨p, q, e, _⟩ := hv.slots; exact ⟨p, q, e⟩
  obtain ⟨p3, q3, rfl⟩ : ∃ p q, v3 = .slice p c.list.length q := by obtain ⟨p, q, e, _⟩ := hv.list; exact ⟨p, q, e⟩
  clear hv hk he1 he2
  go_enter Tryz.func8, Tryz.ntmps8
  go_wp2_with (go_at_call 19; refine (KC.out _ (bel_alloc _ _)).mono ?_; rintro e w1 ⟨rfl, hb1⟩)
  go_returns
  exact ⟨rfl, bel (bel_alloc _ _) hb1⟩

set_option maxRecDepth 100000 in
set_option maxHeartbeats 8000000 in
theorem new_good (v0 v1 v2 v3 : Value) (c : Cd) (hk : CdOk c) (w : World) (hv : CdV w v0 v1 v2 v3 c) (hc : (checkC c).1 = 0) :
    Calls Tryz.prog 8 #[.agg #[v0, v1, v2, v3]] w fun e w' => ∃ R a X, e = .returned (.tuple #[.pointer (some ⟨R, 0, none⟩), .int .i64 0]) ∧ RunAt (fun b => b < w.heap.size ∨ b = a.S) w.heap.size w' R a X c (startH c) ∧ Below w.heap.size w w' := by
  obtain ⟨hg, htk⟩ := good_of hc
  have KC : Hid (∀ v, Below w.heap.size w v → Calls Tryz.prog 19 #[.agg #[v0, v1, v2, v3]] v fun e w' => e = .returned (.tuple #[.int .i64 0, .int .i64 (checkC c).2]) ∧ Below v.heap.size v w') := fun v hvv => by have := check_any v0 v1 v2 v3 c hk v (hv.below hvv); rw [hc] at this; exact this
  obtain ⟨e2, he2⟩ : ∃ e2, (checkC c).2 = e2 := ⟨_, rfl⟩
  rw [he2] at KC
  have HG : Hid (Good c) := hg
  have HBits : Hid (∀ s ∈ c.slots, IsP s.bits) := hk.sbits
  have K0 : Hid (∀ v, Below w.heap.size w v → Calls Tryz.prog 20 #[v0] v fun e w' => ∃ p d, e = .returned (.slice p c.sign.length d) ∧ RowT (fun b => b < v.heap.size) 3 parCells w' (.slice p c.sign.length d) c.sign ∧ Below v.heap.size v w') := fun v hvv => (clone_Par v0 c.sign v (hv.sign.below hvv) (by have := hg.signL; omega)).mono fun e w' ⟨p, d, h1, h2, _, h3⟩ => ⟨p, d, h1, h2, h3⟩
  have K1 : Hid (∀ v, Below w.heap.size w v → Calls Tryz.prog 21 #[v1] v fun e w' => ∃ p d, e = .returned (.slice p c.regs.length d) ∧ RowT (fun b => b < v.heap.size) 2 tyC w' (.slice p c.regs.length d) c.regs ∧ Below v.heap.size v w') := fun v hvv => (clone_Ty v1 c.regs v (hv.regs.below hvv) (by have := hg.regsL; omega)).mono fun e w' ⟨p, d, h1, h2, _, h3⟩ => ⟨p, d, h1, h2, h3⟩
  have K2 : Hid (∀ v, Below w.heap.size w v → Calls Tryz.prog 22 #[v2] v fun e w' => ∃ p d, e = .returned (.slice p c.slots.length d) ∧ RowT (fun b => b < v.heap.size) 5 slC w' (.slice p c.slots.length d) c.slots ∧ Below v.heap.size v w') := fun v hvv => (clone_Sl v2 c.slots v (hv.slots.below hvv) (by have := hg.slotsL; omega)).mono fun e w' ⟨p, d, h1, h2, _, h3⟩ => ⟨p, d, h1, h2, h3⟩
  have K3 : Hid (∀ v, Below w.heap.size w v → Calls Tryz.prog 23 #[v3] v fun e w' => ∃ p d, e = .returned (.slice p c.list.length d) ∧ RowT (fun b => b < v.heap.size) 7 inC w' (.slice p c.list.length d) c.list ∧ Below v.heap.size v w') := fun v hvv => (clone_Ins v3 c.list v (hv.list.below hvv) (by have := hg.listL; omega)).mono fun e w' ⟨p, d, h1, h2, _, h3⟩ => ⟨p, d, h1, h2, h3⟩
  obtain ⟨p0, q0, rfl⟩ : ∃ p q, v0 = .slice p c.sign.length q := by obtain ⟨p, q, e, _⟩ := hv.sign; exact ⟨p, q, e⟩
  obtain ⟨p1, q1, rfl⟩ : ∃ p q, v1 = .slice p c.regs.length q := by obtain ⟨p, q, e, _⟩ := hv.regs; exact ⟨p, q, e⟩
  obtain ⟨p2, q2, rfl⟩ : ∃ p q, v2 = .slice p c.slots.length q := by obtain ⟨p, q, e, _⟩ := hv.slots; exact ⟨p, q, e⟩
  obtain ⟨p3, q3, rfl⟩ : ∃ p q, v3 = .slice p c.list.length q := by obtain ⟨p, q, e, _⟩ := hv.list; exact ⟨p, q, e⟩
  have hm4 := hg.slotsL
  obtain ⟨N0, hN0⟩ : ∃ N, c.sign.length = N := ⟨_, rfl⟩
  obtain ⟨N1, hN1⟩ : ∃ N, c.regs.length = N := ⟨_, rfl⟩
  obtain ⟨N2, hN2⟩ : ∃ N, c.slots.length = N := ⟨_, rfl⟩
  obtain ⟨N3, hN3⟩ : ∃ N, c.list.length = N := ⟨_, rfl⟩
  simp only [hN0, hN1, hN2, hN3] at KC K0 K1 K2 K3 hm4 ⊢
  have HN : Hid (c.sign.length = N0 ∧ c.regs.length = N1 ∧ c.slots.length = N2 ∧ c.list.length = N3) := ⟨hN0, hN1, hN2, hN3⟩
  have hmk := make_H N2 (by omega)
  clear hv hk he2 hg htk hc hN0 hN1 hN2 hN3
  have HBox : Hid (∀ v, Below (w.alloc (.cells #[.slice p0 N0 q0, .slice p1 N1 q1, .slice p2 N2 q2, .slice p3 N3 q3] 27)).heap.size (w.alloc (.cells #[.slice p0 N0 q0, .slice p1 N1 q1, .slice p2 N2 q2, .slice p3 N3 q3] 27)) v → v.cell? ⟨w.heap.size, 0, none⟩ = some (.slice p0 N0 q0) ∧ v.cell? ⟨w.heap.size, 1, none⟩ = some (.slice p1 N1 q1) ∧ v.cell? ⟨w.heap.size, 2, none⟩ = some (.slice p2 N2 q2) ∧ v.cell? ⟨w.heap.size, 3, none⟩ = some (.slice p3 N3 q3)) := fun v hvv => ⟨kc hvv (by simp [go_sem]), kc hvv (by simp [go_sem]), kc hvv (by simp [go_sem]), kc hvv (by simp [go_sem])⟩
  go_enter Tryz.func8, Tryz.ntmps8
  go_wp2_with (go_at_call 19; refine (KC.out _ (bel_alloc _ _)).mono ?_; rintro e w1 ⟨rfl, hb1⟩; have HB1 := hidM hb1; obtain ⟨b0, b1, b2, b3⟩ := HBox.out w1 hb1; clear hb1)
  refine wp_region_held_drew (S := (fun v => v.cell? ⟨w.heap.size, 0, none⟩ = some (.slice p0 N0 q0) ∧ v.cell? ⟨w.heap.size, 1, none⟩ = some (.slice p1 N1 q1) ∧ v.cell? ⟨w.heap.size, 2, none⟩ = some (.slice p2 N2 q2) ∧ v.cell? ⟨w.heap.size, 3, none⟩ = some (.slice p3 N3 q3))) (by kernel_rfl) ?_ (fun hHeld => ?_)
  · ((try dsimp only); go_keep)
  refine tkH (i := 0) (v := ?_) (hy := .inl ⟨by rfl, ?_⟩) (h := ?_)
  rotate_left 1
  · (intro wS hSw; (try dsimp only at hSw); go_simp; try (with_reducible rfl))
  try simp only [Act.put, List.setIfInBounds_toArray, List.set_cons_zero, List.set_cons_succ]
  refine tkH (i := 1) (v := ?_) (hy := .inl ⟨by rfl, ?_⟩) (h := ?_)
  rotate_left 1
  · (intro wS hSw; (try dsimp only at hSw); go_simp; try (with_reducible rfl))
  try simp only [Act.put, List.setIfInBounds_toArray, List.set_cons_zero, List.set_cons_succ]
  refine tkH (i := 3) (v := ?_) (hy := .inl ⟨by rfl, ?_⟩) (h := ?_)
  rotate_left 1
  · (intro wS hSw; (try dsimp only at hSw); go_simp; try (with_reducible rfl))
  try simp only [Act.put, List.setIfInBounds_toArray, List.set_cons_zero, List.set_cons_succ]
  refine tkH (i := 4) (v := ?_) (hy := .inl ⟨by rfl, ?_⟩) (h := ?_)
  rotate_left 1
  · (intro wS hSw; (try dsimp only at hSw); go_simp; try (with_reducible rfl))
  try simp only [Act.put, List.setIfInBounds_toArray, List.set_cons_zero, List.set_cons_succ]
  refine tkH (i := 6) (v := ?_) (hy := .inl ⟨by rfl, ?_⟩) (h := ?_)
  rotate_left 1
  · (intro wS hSw; (try dsimp only at hSw); go_simp; try (with_reducible rfl))
  try simp only [Act.put, List.setIfInBounds_toArray, List.set_cons_zero, List.set_cons_succ]
  refine tkH (i := 7) (v := ?_) (hy := .inl ⟨by rfl, ?_⟩) (h := ?_)
  rotate_left 1
  · (intro wS hSw; (try dsimp only at hSw); go_simp; try (with_reducible rfl))
  try simp only [Act.put, List.setIfInBounds_toArray, List.set_cons_zero, List.set_cons_succ]
  refine tkH (i := 9) (v := ?_) (hy := .inl ⟨by rfl, ?_⟩) (h := ?_)
  rotate_left 1
  · (intro wS hSw; (try dsimp only at hSw); go_simp; try (with_reducible rfl))
  try simp only [Act.put, List.setIfInBounds_toArray, List.set_cons_zero, List.set_cons_succ]
  refine tkH (i := 10) (v := ?_) (hy := .inl ⟨by rfl, ?_⟩) (h := ?_)
  rotate_left 1
  · (intro wS hSw; (try dsimp only at hSw); go_simp; try (with_reducible rfl))
  try simp only [Act.put, List.setIfInBounds_toArray, List.set_cons_zero, List.set_cons_succ]
  clear hHeld
  refine wpAnyH_ready (rs := [2]) (by kernel_rfl) (by simp) ?_
  refine AllReadyH.cons (i := 2) (by simp only [List.getElem?_toArray, List.getElem?_cons_succ, List.getElem?_cons_zero]; rfl) (fun K hK => ?_) AllReadyH.nil
  go_simp
  (go_at_call 20; refine (K0.out _ (bel (bel_alloc _ _) (bel HB1.out (bel_drew _)))).mono ?_; rintro e u1 ⟨s0, d0, rfl, hr0, hb2⟩; have HR0 := hidM hr0; have HU1 : Hid (Below w1.heap.size w1 u1) := bel (bel_drew _) hb2; obtain ⟨b0, b1, b2, b3⟩ := HBox.out u1 (bel HB1.out HU1.out); clear hr0 hb2)
  try (go_wp2_with fail)
  refine hK.out _ _ ?_ (fun hHeld => ?_)
  · ((try dsimp only); go_keep)
  clear hK K
  try simp only [Act.put, List.setIfInBounds_toArray, List.set_cons_zero, List.set_cons_succ]
  clear hHeld
  refine wpAnyH_ready (rs := [5]) (by kernel_rfl) (by simp) ?_
  refine AllReadyH.cons (i := 5) (by simp only [List.getElem?_toArray, List.getElem?_cons_succ, List.getElem?_cons_zero]; rfl) (fun K hK => ?_) AllReadyH.nil
  go_simp
  (go_at_call 21; refine (K1.out _ (bel (bel_alloc _ _) (bel HB1.out HU1.out))).mono ?_; rintro e u2 ⟨s1, d1, rfl, hr1, hb2⟩; have HR1 := hidM hr1; have HU2 := hidM hb2; obtain ⟨b0, b1, b2, b3⟩ := HBox.out u2 (bel HB1.out (bel HU1.out HU2.out)); clear hr1 hb2)
  try (go_wp2_with fail)
  refine hK.out _ _ ?_ (fun hHeld => ?_)
  · ((try dsimp only); go_keep)
  clear hK K
  try simp only [Act.put, List.setIfInBounds_toArray, List.set_cons_zero, List.set_cons_succ]
  clear hHeld
  refine wpAnyH_ready (rs := [8]) (by kernel_rfl) (by simp) ?_
  refine AllReadyH.cons (i := 8) (by simp only [List.getElem?_toArray, List.getElem?_cons_succ, List.getElem?_cons_zero]; rfl) (fun K hK => ?_) AllReadyH.nil
  go_simp
  (go_at_call 22; refine (K2.out _ (bel (bel_alloc _ _) (bel HB1.out (bel HU1.out HU2.out)))).mono ?_; rintro e u3 ⟨s2, d2, rfl, hr2, hb2⟩; have HR2 := hidM hr2; have HU3 := hidM hb2; obtain ⟨b0, b1, b2, b3⟩ := HBox.out u3 (bel HB1.out (bel HU1.out (bel HU2.out HU3.out))); clear hr2 hb2)
  try (go_wp2_with fail)
  refine hK.out _ _ ?_ (fun hHeld => ?_)
  · ((try dsimp only); go_keep)
  clear hK K
  try simp only [Act.put, List.setIfInBounds_toArray, List.set_cons_zero, List.set_cons_succ]
  clear hHeld
  refine wpAnyH_ready (rs := [11]) (by kernel_rfl) (by simp) ?_
  refine AllReadyH.cons (i := 11) (by simp only [List.getElem?_toArray, List.getElem?_cons_succ, List.getElem?_cons_zero]; rfl) (fun K hK => ?_) AllReadyH.nil
  go_simp
  (go_at_call 23; refine (K3.out _ (bel (bel_alloc _ _) (bel HB1.out (bel HU1.out (bel HU2.out HU3.out))))).mono ?_; rintro e u4 ⟨s3, d3, rfl, hr3, hb2⟩; have HR3 := hidM hr3; have HU4 := hidM hb2; obtain ⟨b0, b1, b2, b3⟩ := HBox.out u4 (bel HB1.out (bel HU1.out (bel HU2.out (bel HU3.out HU4.out)))); clear hr3 hb2)
  try (go_wp2_with fail)
  refine hK.out _ _ ?_ (fun hHeld => ?_)
  · ((try dsimp only); go_keep)
  clear hK K
  try simp only [Act.put, List.setIfInBounds_toArray, List.set_cons_zero, List.set_cons_succ]
  refine tkH (i := 12) (v := ?_) (hy := .inl ⟨by rfl, ?_⟩) (h := ?_)
  rotate_left 1
  · (intro wS hSw; (try dsimp only at hSw); go_simp; try (with_reducible rfl))
  try simp only [Act.put, List.setIfInBounds_toArray, List.set_cons_zero, List.set_cons_succ]
  clear hHeld
  refine wpAnyH_ready (rs := [13]) (by kernel_rfl) (by simp) ?_
  refine AllReadyH.cons (i := 13) (by simp only [List.getElem?_toArray, List.getElem?_cons_succ, List.getElem?_cons_zero]; rfl) (fun K hK => ?_) AllReadyH.nil
  go_simp
  refine hK.out _ _ ?_ (fun hHeld => ?_)
  · ((try dsimp only); go_keep)
  clear hK K
  try simp only [Act.put, List.setIfInBounds_toArray, List.set_cons_zero, List.set_cons_succ]
  refine tkH (i := 14) (v := ?_) (hy := .inl ⟨by rfl, ?_⟩) (h := ?_)
  rotate_left 1
  · (intro wS hSw; (try dsimp only at hSw); go_simp; try (with_reducible rfl))
  try simp only [Act.put, List.setIfInBounds_toArray, List.set_cons_zero, List.set_cons_succ]
  refine wpAnyH_done (by kernel_rfl) ?_ _
  obtain ⟨W2, hW2⟩ : ∃ W2, u4.alloc (.cells #[.slice s0 N0 d0, .slice s1 N1 d1, .slice s2 N2 d2, .slice s3 N3 d3] 27) = W2 := ⟨_, rfl⟩
  have hbW2 : Below u4.heap.size u4 W2 := by rw [← hW2]; exact bel_alloc _ _
  have HszW2 : Hid (W2.heap.size = u4.heap.size + 1) := by rw [← hW2]; simp [Hid]
  have HCell : Hid (CellsAt W2 u4.heap.size 0 [.slice s0 N0 d0, .slice s1 N1 d1, .slice s2 N2 d2, .slice s3 N3 d3]) := by
    intro j hj
    have hj' : j < 4 := hj
    obtain rfl | rfl | rfl | rfl : j = 0 ∨ j = 1 ∨ j = 2 ∨ j = 3 := by omega
    all_goals (rw [← hW2]; simp [go_sem])
  rw [hW2]
  clear hW2 hHeld
  have hBU : Below w.heap.size w W2 := bel (bel_alloc _ _) (bel HB1.out (bel HU1.out (bel HU2.out (bel HU3.out (bel HU4.out hbW2)))))
  have hC9 : w.heap.size ≤ u4.heap.size := (bel (bel_alloc _ _) (bel HB1.out (bel HU1.out (bel HU2.out (bel HU3.out HU4.out))))).size
  have l1 : w.heap.size ≤ w1.heap.size := (bel (bel_alloc _ _) HB1.out).size
  have l2 := HU1.out.size
  have l3 := HU2.out.size
  have l4 := HU3.out.size
  have l5 := HU4.out.size
  have HCD : Hid (∀ S, u4.heap.size < S → ∀ K sc, CdT (fun b => b < w.heap.size ∨ b = S) W2 ⟨u4.heap.size, S, 0, 0, 0, 0, 0, K, fun _ => 0, some ⟨S, 0, none⟩, sc, .slice s0 N0 d0, .slice s1 N1 d1, .slice s2 N2 d2, .slice s3 N3 d3, .int .i64 0, .int .i64 0⟩ c) := by
    intro S hS K sc
    obtain ⟨e0, e1, e2, e3⟩ := HN.out
    refine ⟨by show ¬ (u4.heap.size < w.heap.size ∨ u4.heap.size = S); omega, by show u4.heap.size < W2.heap.size; have := HszW2.out; omega, HCell.out, ?_, ?_, ?_, ?_⟩
    · have := HR0.out
      rw [← e0] at this ⊢
      refine RowT.below ?_ (bel HU2.out (bel HU3.out (bel HU4.out hbW2)))
      exact this.mono fun b hb h => by
        have hd : w1.drew.heap.size = w1.heap.size := rfl
        rcases h with h | h <;> omega
    · have := HR1.out
      rw [← e1] at this ⊢
      refine RowT.below ?_ (bel HU3.out (bel HU4.out hbW2))
      exact this.mono fun b hb h => by rcases h with h | h <;> omega
    · have := HR2.out
      rw [← e2] at this ⊢
      refine RowT.below ?_ (bel HU4.out hbW2)
      exact this.mono fun b hb h => by rcases h with h | h <;> omega
    · have := HR3.out
      rw [← e3] at this ⊢
      refine RowT.below ?_ hbW2
      exact this.mono fun b hb h => by rcases h with h | h <;> omega
  have HBU : Hid (Below w.heap.size w W2) := hBU
  have cc2 : W2.cell? ⟨u4.heap.size, 2, none⟩ = some (.slice s2 N2 d2) := HCell.out.at 2 rfl
  obtain ⟨C, hC⟩ : ∃ C, u4.heap.size = C := ⟨_, rfl⟩
  rw [hC] at HCD cc2 hC9 HszW2 ⊢
  clear KC K0 K1 K2 K3 HBox HR0 HR1 HR2 HR3 HU1 HU2 HU3 HU4 HB1 b0 b1 b2 b3 hbW2 l1 l2 l3 l4 l5 HCell hBU hC
  obtain ⟨W3, hW3⟩ : ∃ W3, W2.alloc (.cells (madeCells #[.slice none 0 0, .int .i64 0] (N2 * 2)) 80) = W3 := ⟨_, rfl⟩
  obtain ⟨S, hS⟩ : ∃ S, W2.heap.size = S := ⟨_, rfl⟩
  have hmk2 := hmk W2
  rw [hW3, hS] at hmk2
  have hSC : S = C + 1 := by rw [← hS]; exact HszW2.out
  have HSC : Hid (S = C + 1) := hSC
  have hb3 : Below W2.heap.size W2 W3 := by rw [← hW3]; exact bel_alloc _ _
  have hrow3 : W3.rowIs S 80 (2 * N2) heldZ := by rw [← hW3, ← hS]; exact row_H W2 N2
  have hs3 : W3.heap.size = S + 1 := by rw [← hW3, ← hS]; simp
  obtain ⟨R, hR⟩ : ∃ R, W3.heap.size = R := ⟨_, rfl⟩
  have HRS : Hid (R = S + 1) := by rw [← hR]; exact hs3
  obtain ⟨W4, hW4⟩ : ∃ W4, W3.alloc (.cells #[.pointer (some ⟨C, 0, none⟩), .slice (some ⟨S, 0, none⟩) N2 N2] 78) = W4 := ⟨_, rfl⟩
  have hb4 : Below W3.heap.size W3 W4 := by rw [← hW4]; exact bel_alloc _ _
  have HCD4 : Hid (CdT (fun b => b < w.heap.size ∨ b = S) W4 ⟨C, S, 0, 0, 0, 0, 0, N2, fun _ => 0, some ⟨S, 0, none⟩, N2, .slice s0 N0 d0, .slice s1 N1 d1, .slice s2 N2 d2, .slice s3 N3 d3, .int .i64 0, .int .i64 0⟩ c) := (HCD.out S (by omega) N2 N2).below (bel hb3 hb4)
  have HRow4 : Hid (W4.rowIs S 80 (2 * N2) heldZ) := hrow3.of_block (hb4.block _ hrow3.lt)
  have HRun4 : Hid (CellsAt W4 R 0 [.pointer (some ⟨C, 0, none⟩), .slice (some ⟨S, 0, none⟩) N2 N2] ∧ R < W4.heap.size) := by
    rw [← hW4, ← hR]
    refine ⟨fun j hj => ?_, by simp⟩
    have hj' : j < 2 := hj
    obtain rfl | rfl : j = 0 ∨ j = 1 := by omega
    all_goals simp [go_sem]
  have HB4 : Hid (Below w.heap.size w W4) := bel HBU.out (bel hb3 hb4)
  have z2 := kc (bel hb3 hb4) cc2
  have HC9 : Hid (w.heap.size ≤ C) := hC9
  clear hmk hb3 hb4 hrow3 hs3 HCD hSC hC9 hS hW3 HszW2 HBU
  go_wp2
  go_loopw [46] (fun iv wr => ∃ j : Nat, j ≤ N2 ∧ iv = .int .i64 j ∧ Hid (Un (fun b => b = S) W4 wr ∧ SlotsTo (fun b => b < w.heap.size ∨ b = S) wr S N2 c j)) (fun iv _ => N2 - (intOf iv).toNat)
  case atStart => exact ⟨0, Nat.zero_le _, rfl, Un.refl _ _, ⟨heldZ, HRow4.out, fun k _ hk => absurd hk (Nat.not_lt_zero _)⟩⟩
  case round =>
    clear z2 cc2 hmk2 hW4 hR
    obtain ⟨j, hj, rfl, HR⟩ := hrel
    have hcd := HCD4.out.un HR.out.1 (fun b _ e => .inr e)
    have HSR : Hid (S ≠ R) := by rw [HRS.out]; show S ≠ S + 1; omega
    have hrr : CellsAt wr R 0 [.pointer (some ⟨C, 0, none⟩), .slice (some ⟨S, 0, none⟩) N2 N2] := HRun4.out.1.of_block (HR.out.1.block R HRun4.out.2 (Ne.symm HSR.out))
    by_cases hlt : j < N2
    · have hjc : j < c.slots.length := by rw [HN.out.2.2.1]; exact hlt
      obtain ⟨q, cap, hq, hrow⟩ := hcd.slots
      simp only [Value.slice.injEq] at hq
      obtain ⟨rfl, -, rfl⟩ := hq
      rcases hrow with e | ⟨sb, so, rfl, hnS, hsl, hcel⟩
      · rw [e] at hjc; exact absurd hjc (Nat.not_lt_zero _)
      have hcj := hcel j hjc
      have hty := HG.out.slotT (List.getElem_mem hjc)
      have hbit := HBits.out _ (List.getElem_mem hjc)
      obtain ⟨sj, hsj⟩ : ∃ sj, c.slots[j] = sj := ⟨_, rfl⟩
      rw [hsj] at hcj hty hbit
      have KB : ∀ v, Below wr.heap.size wr v → Calls Tryz.prog 24 #[.pointer (some ⟨C, 0, none⟩), slV sj] v fun e w' => ∃ g, e = .returned (.agg #[.slice (some ⟨g, 0, none⟩) (widthP c sj.ty) (widthP c sj.ty), .int .i64 sj.int_]) ∧ v.heap.size ≤ g ∧ w'.rowIs g 43 (widthP c sj.ty) (fun _ => .int .u32 (canon sj.bits)) ∧ Below v.heap.size v w' := fun v hv => begun_any ⟨C, S, 0, 0, 0, 0, 0, N2, fun _ => 0, some ⟨S, 0, none⟩, N2, .slice s0 N0 d0, .slice s1 N1 d1, .slice (some ⟨sb, so, none⟩) N2 d2, .slice s3 N3 d3, .int .i64 0, .int .i64 0⟩ c HG.out sj hbit v (hcd.below hv) hty
      obtain ⟨Wd, hWd⟩ : ∃ Wd, widthP c sj.ty = Wd := ⟨_, rfl⟩
      have HFill : Hid (fillP c sj.ty sj.bits = List.replicate Wd (canon sj.bits)) := by rw [← hWd]; exact rfl
      rw [hWd] at KB
      have HSJ : Hid (∀ k (h : k < c.slots.length), k = j → c.slots[k] = sj) := fun k h e => by subst e; exact hsj
      obtain ⟨⟨tk, tp⟩, kp, bt, it⟩ := sj
      unfold slV at KB
      unfold slC at hcj
      simp only at KB hcj HFill hbit
      have HKB : Hid (∀ v, Below wr.heap.size wr v → Calls Tryz.prog 24 #[.pointer (some ⟨C, 0, none⟩), .agg #[.int .i64 tk, .int .i64 tp, .bool kp, .int .u32 bt, .int .i64 it]] v fun e w' => ∃ g, e = .returned (.agg #[.slice (some ⟨g, 0, none⟩) Wd Wd, .int .i64 it]) ∧ v.heap.size ≤ g ∧ w'.rowIs g 43 Wd (fun _ => .int .u32 (canon bt)) ∧ Below v.heap.size v w') := KB
      have y0 := hcj.at 0 (v := .int .i64 tk) rfl
      rw [Nat.add_zero] at y0
      have y1 := hcj.at 1 (v := .int .i64 tp) rfl
      have y2 := hcj.at 2 (v := .bool kp) rfl
      have y3 := hcj.at 3 (v := .int .u32 bt) rfl
      have y4 := hcj.at 4 (v := .int .i64 it) rfl
      have r1 : wr.cell? ⟨R, 1, none⟩ = some (.slice (some ⟨S, 0, none⟩) N2 N2) := hrr.at 1 rfl
      obtain ⟨X, hX, hXk⟩ := HR.out.2
      have HXX : Hid (wr.rowIs S 80 (2 * N2) X ∧ ∀ k (h : k < c.slots.length), k < j → X (2 * k + 1) = .int .i64 c.slots[k].int_ ∧ Pt (fun b => b < w.heap.size ∨ b = S) wr (X (2 * k)) (fillP c c.slots[k].ty c.slots[k].bits)) := ⟨hX, hXk⟩
      have x0 := hX.cell (i := j * 2) (by omega)
      have x1 := hX.cell (i := j * 2 + 1) (by omega)
      have x2 := hX.frozen (j * 2)
      have x3 := hX.frozen (j * 2 + 1)
      have sz : S < wr.heap.size := hX.lt
      have n1 : S ≠ wr.heap.size := by omega
      have n2 : S ≠ R := HSR.out
      have szR : R < wr.heap.size := Nat.lt_of_lt_of_le HRun4.out.2 HR.out.1.size
      have n3 : R ≠ wr.heap.size := by omega
      obtain ⟨V1, hV1⟩ : ∃ V1, wr.alloc (.cells #[.int .i64 tk, .int .i64 tp, .bool kp, .int .u32 bt, .int .i64 it] 65) = V1 := ⟨_, rfl⟩
      have HB5 : Hid (Below wr.heap.size wr V1) := by rw [← hV1]; exact bel_alloc _ _
      have HC5 : Hid (∀ v, Below V1.heap.size V1 v → v.cell? ⟨R, 1, none⟩ = some (.slice (some ⟨S, 0, none⟩) N2 N2) ∧ v.cell? ⟨wr.heap.size, 0, none⟩ = some (.int .i64 tk) ∧ v.cell? ⟨wr.heap.size, 1, none⟩ = some (.int .i64 tp) ∧ v.cell? ⟨wr.heap.size, 2, none⟩ = some (.bool kp) ∧ v.cell? ⟨wr.heap.size, 3, none⟩ = some (.int .u32 bt) ∧ v.cell? ⟨wr.heap.size, 4, none⟩ = some (.int .i64 it) ∧ v.cell? ⟨S, j * 2, none⟩ = some (X (j * 2)) ∧ v.cell? ⟨S, j * 2 + 1, none⟩ = some (X (j * 2 + 1)) ∧ v.frozen? ⟨S, j * 2, none⟩ = false ∧ v.frozen? ⟨S, j * 2 + 1, none⟩ = false) := by
        intro v hv
        have hv2 := bel HB5.out hv
        rw [← hV1] at hv
        exact ⟨kc hv2 r1, kc hv (by simp [go_sem]), kc hv (by simp [go_sem]), kc hv (by simp [go_sem]), kc hv (by simp [go_sem]), kc hv (by simp [go_sem]), kc hv2 x0, kc hv2 x1, kf hv2 x0 x2, kf hv2 x1 x3⟩
      have HP : Hid (IsP bt) := hbit
      have hszw : Hid (wr.heap.size ≤ V1.heap.size) := HB5.out.size
      have HwS : Hid (w.heap.size ≤ S) := by have := HC9.out; have := HSC.out; show w.heap.size ≤ S; omega
      clear KB hWd hsj hcel hcj hrr hX hXk hcd hty hbit x0 x1 x2 x3 r1 hnS hsl
      obtain ⟨a0, a1, a2, a3, a4, a5, a6, a7, a8, a9⟩ := HC5.out V1 (bel0 _)
      go_wp2
      clear hV1
      refine wp_region_held_drew (S := (fun v => v.cell? ⟨R, 1, none⟩ = some (.slice (some ⟨S, 0, none⟩) N2 N2) ∧ v.cell? ⟨wr.heap.size, 0, none⟩ = some (.int .i64 tk) ∧ v.cell? ⟨wr.heap.size, 1, none⟩ = some (.int .i64 tp) ∧ v.cell? ⟨wr.heap.size, 2, none⟩ = some (.bool kp) ∧ v.cell? ⟨wr.heap.size, 3, none⟩ = some (.int .u32 bt) ∧ v.cell? ⟨wr.heap.size, 4, none⟩ = some (.int .i64 it))) (by kernel_rfl) ?_ (fun hHeld => ?_)
      · ((try dsimp only); go_keep)
      refine tkH (i := 0) (v := ?_) (hy := .inl ⟨by rfl, ?_⟩) (h := ?_)
      rotate_left 1
      · (intro wS hSw; (try dsimp only at hSw); go_simp; try (with_reducible rfl))
      try simp only [Act.put, List.setIfInBounds_toArray, List.set_cons_zero, List.set_cons_succ]
      refine tkH (i := 1) (v := ?_) (hy := .inl ⟨by rfl, ?_⟩) (h := ?_)
      rotate_left 1
      · (intro wS hSw; (try dsimp only at hSw); go_simp; try (with_reducible rfl))
      try simp only [Act.put, List.setIfInBounds_toArray, List.set_cons_zero, List.set_cons_succ]
      refine tkH (i := 2) (v := ?_) (hy := .inl ⟨by rfl, ?_⟩) (h := ?_)
      rotate_left 1
      · (intro wS hSw; (try dsimp only at hSw); go_simp; try (with_reducible rfl))
      try simp only [Act.put, List.setIfInBounds_toArray, List.set_cons_zero, List.set_cons_succ]
      refine tkH (i := 3) (v := ?_) (hy := .inl ⟨by rfl, ?_⟩) (h := ?_)
      rotate_left 1
      · (intro wS hSw; (try dsimp only at hSw); go_simp; try (with_reducible rfl))
      try simp only [Act.put, List.setIfInBounds_toArray, List.set_cons_zero, List.set_cons_succ]
      refine tkH (i := 4) (v := ?_) (hy := .inl ⟨by rfl, ?_⟩) (h := ?_)
      rotate_left 1
      · (intro wS hSw; (try dsimp only at hSw); go_simp; try (with_reducible rfl))
      try simp only [Act.put, List.setIfInBounds_toArray, List.set_cons_zero, List.set_cons_succ]
      refine tkH (i := 5) (v := ?_) (hy := .inl ⟨by rfl, ?_⟩) (h := ?_)
      rotate_left 1
      · (intro wS hSw; (try dsimp only at hSw); go_simp; try (with_reducible rfl))
      try simp only [Act.put, List.setIfInBounds_toArray, List.set_cons_zero, List.set_cons_succ]
      refine tkH (i := 6) (v := ?_) (hy := .inl ⟨by rfl, ?_⟩) (h := ?_)
      rotate_left 1
      · (intro wS hSw; (try dsimp only at hSw); go_simp; try (with_reducible rfl))
      try simp only [Act.put, List.setIfInBounds_toArray, List.set_cons_zero, List.set_cons_succ]
      clear hHeld
      refine wpAnyH_ready (rs := [7]) (by kernel_rfl) (by simp) ?_
      refine AllReadyH.cons (i := 7) (by simp only [List.getElem?_toArray, List.getElem?_cons_succ, List.getElem?_cons_zero]; rfl) (fun K hK => ?_) AllReadyH.nil
      go_simp
      (go_at_call 24; refine (HKB.out _ (bel HB5.out (bel_drew _))).mono ?_; rintro e v2 ⟨g, rfl, hg2, hr2, hb6⟩; have HB6 : Hid (Below V1.heap.size V1 v2) := bel (bel_drew _) hb6; have HR6 := hidM hr2; have HG6 : Hid (V1.heap.size ≤ g) := hg2; obtain ⟨a0, a1, a2, a3, a4, a5, a6, a7, a8, a9⟩ := HC5.out v2 HB6.out; clear hr2 hg2 hb6)
      try (go_wp2_with fail)
      refine hK.out _ _ ?_ (fun hHeld => ?_)
      · ((try dsimp only); go_keep)
      clear hK K
      try simp only [Act.put, List.setIfInBounds_toArray, List.set_cons_zero, List.set_cons_succ]
      refine tkH (i := 8) (v := ?_) (hy := .inl ⟨by rfl, ?_⟩) (h := ?_)
      rotate_left 1
      · (intro wS hSw; (try dsimp only at hSw); go_simp; try (with_reducible rfl))
      try simp only [Act.put, List.setIfInBounds_toArray, List.set_cons_zero, List.set_cons_succ]
      clear hHeld
      refine wpAnyH_ready (rs := [9]) (by kernel_rfl) (by simp) ?_
      refine AllReadyH.cons (i := 9) (by simp only [List.getElem?_toArray, List.getElem?_cons_succ, List.getElem?_cons_zero]; rfl) (fun K hK => ?_) AllReadyH.nil
      go_simp
      refine hK.out _ _ ?_ (fun hHeld => ?_)
      · ((try dsimp only); go_keep)
      clear hK K
      try simp only [Act.put, List.setIfInBounds_toArray, List.set_cons_zero, List.set_cons_succ]
      refine wpAnyH_done (by kernel_rfl) ?_ _
      go_wp2
      go_roundw
      case rel =>
        refine ⟨j + 1, by omega, by go_num, ?_⟩
        have hB := bel HB5.out HB6.out
        have hU : Un (fun b => b = S) wr ((v2.setCell ⟨S, j * 2, none⟩ (.slice (some ⟨g, 0, none⟩) Wd Wd)).setCell ⟨S, j * 2 + 1, none⟩ (.int .i64 it)) := (((Un.of hB).setCell (p := ⟨S, j * 2, none⟩) (by rfl) _).setCell (p := ⟨S, j * 2 + 1, none⟩) (by rfl) _)
        refine ⟨HR.out.1.trans hU, ?_⟩
        refine ⟨fun k => if k = j * 2 + 1 then .int .i64 it else if k = j * 2 then .slice (some ⟨g, 0, none⟩) Wd Wd else X k, ((HXX.out.1.of_block (hB.block _ HXX.out.1.lt)).set (j * 2) _).set (j * 2 + 1) _, fun k hk hk2 => ?_⟩
        by_cases e : k = j
        · rw [HSJ.out k hk e]
          subst e
          dsimp only
          rw [if_pos (by omega), if_neg (by omega), if_pos (by omega)]
          refine ⟨rfl, ?_⟩
          show Pt _ _ _ (fillP c ⟨tk, tp⟩ bt)
          rw [HFill.out]
          have hg7 := HG6.out
          have hs7 := hszw.out
          refine Pt.of_row ((HR6.out.setOther (by show g ≠ S; omega) _).setOther (by show g ≠ S; omega) _) (by show ¬ (g < w.heap.size ∨ g = S); have := HwS.out; omega) (by simp) (fun i hi => by unfold atL; simp [hi]) Wd
        · obtain ⟨h1, h2⟩ := HXX.out.2 k hk (by omega)
          dsimp only
          rw [if_neg (by omega), if_neg (by omega), if_neg (by omega), if_neg (by omega)]
          exact ⟨h1, h2.un hU (fun b _ e => .inr e)⟩
      case measure => simp [intOf]; omega
    · have hjN : j = N2 := by omega
      subst hjN
      have HCDr := hidM hcd
      have HRR := hidM hrr
      clear hcd hrr
      go_wp2
      go_returns
      obtain ⟨X, hX, hXk⟩ := HR.out.2
      have hCw := HC9.out
      have hSw := HSC.out
      have hRw := HRS.out
      have e2 := HN.out.2.2.1
      refine ⟨R, ⟨C, S, 0, 0, 0, 0, 0, j, fun _ => 0, some ⟨S, 0, none⟩, j, .slice s0 N0 d0, .slice s1 N1 d1, .slice s2 j d2, .slice s3 N3 d3, .int .i64 0, .int .i64 0⟩, X, rfl, ?_, HB4.out.trans (HR.out.1.below HB4.out.size (fun b e => by omega))⟩
      refine ⟨.inr rfl, ?_, Nat.lt_of_lt_of_le HRun4.out.2 HR.out.1.size, ?_, HCDr.out, ⟨hX, .inr rfl, ?_, fun k hk => ?_, fun k hk => ?_⟩, ?_, fun k h h' => ?_, ?_, hCw, ?_⟩
      · show ¬ (R < w.heap.size ∨ R = S)
        omega
      · rw [e2]; exact HRR.out
      · show (startH c).length ≤ j
        unfold startH; rw [List.length_map]; omega
      · have hk' : k < c.slots.length := by unfold startH at hk; rw [List.length_map] at hk; exact hk
        rw [(hXk k hk' (by omega)).1]
        rw [startH_at hk hk']
        rfl
      · have hk' : k < c.slots.length := by unfold startH at hk; rw [List.length_map] at hk; exact hk
        have := (hXk k hk' (by omega)).2
        rw [startH_at hk hk']
        exact this
      · unfold startH; rw [List.length_map]
      · rw [startH_at h' h]
        exact begun_ok HG.out (List.getElem_mem h) (HBits.out _ (List.getElem_mem h))
      · show w.heap.size ≤ R
        omega
      · show w.heap.size ≤ S
        omega

end Go.Proofs.YtholhpmnicibgaaGreat
