import Derived.Test.YtnlgkkbmbijndaaGreatBck14
import Derived.Deep.DeepCutAuto
import Derived.Test.YtnlgkkbmbijndaaGreatBck2
import Derived.Lib.ConvBytes
/- Package code: the reader: take. -/
namespace Go.Proofs.YtnlgkkbmbijndaaGreat
open Go.RowKit
set_option linter.unusedVariables false
set_option linter.unusedSimpArgs false

/-- A reader of this text that has come to A. -/
structure RdM (E RB : Nat) (s : ByteArray) (A : Nat) (w : World) : Prop where
  b : w.rowIs RB 75 2 (fun k => if k = 0 then .string s else .int .i64 (A : Int))
  ge : E ≤ RB
theorem RdM.c0 {E RB : Nat} {s : ByteArray} {A : Nat} {w : World} (h : RdM E RB s A w) : w.cell? ⟨RB, 0, none⟩ = some (.string s) := h.b.cell (i := 0) (by decide)
theorem RdM.c1 {E RB : Nat} {s : ByteArray} {A : Nat} {w : World} (h : RdM E RB s A w) : w.cell? ⟨RB, 1, none⟩ = some (.int .i64 (A : Int)) := h.b.cell (i := 1) (by decide)
theorem RdM.below {E RB : Nat} {s : ByteArray} {A : Nat} {w w' : World} (h : RdM E RB s A w) (k : Below w.heap.size w w') : RdM E RB s A w' := ⟨h.b.of_block (k.block _ h.b.lt), h.ge⟩
theorem RdM.set {E RB : Nat} {s : ByteArray} {A : Nat} {w : World} (h : RdM E RB s A w) (A' : Nat) : RdM E RB s A' (w.setCell ⟨RB, 1, none⟩ (.int .i64 (A' : Int))) := ⟨(h.b.set 1 _).congr fun j hj => by
  rcases (show j = 0 ∨ j = 1 by omega) with rfl | rfl <;> rfl, h.ge⟩
/-- What a reader leaves as it was. -/
def RdO (RB : Nat) (w w' : World) : Prop := w.heap.size ≤ w'.heap.size ∧ ∀ b, b < w.heap.size → b ≠ RB → w'.heap[b]? = w.heap[b]?
theorem RdO.refl (RB : Nat) (w : World) : RdO RB w w := ⟨Nat.le_refl _, fun _ _ _ => rfl⟩
theorem RdO.trans {RB : Nat} {w w' w'' : World} (h : RdO RB w w') (k : RdO RB w' w'') : RdO RB w w'' := ⟨Nat.le_trans h.1 k.1, fun b h1 h2 => (k.2 b (Nat.lt_of_lt_of_le h1 h.1) h2).trans (h.2 b h1 h2)⟩
theorem RdO.of {RB : Nat} {w w' : World} (k : Below w.heap.size w w') : RdO RB w w' := ⟨k.size, fun b h1 _ => k.block b h1⟩
theorem RdO.set (RB : Nat) (w : World) (o : Nat) (v : Value) : RdO RB w (w.setCell ⟨RB, o, none⟩ v) := ⟨by simp, fun b _ h => Below.heap_setCell _ _ _ _ h⟩
/-- How a reader gives up. -/
def flt (er : Int) (at_ : Nat) : Ending := .panicked [{ v := .iface 72 (.agg #[.int .i64 er, .int .i64 (at_ : Int)]), recovered := false }]

set_option maxRecDepth 100000 in
set_option maxHeartbeats 4000000 in
theorem take_cut (E RB : Nat) (s : ByteArray) (A n : Nat) (w : World) (h : RdM E RB s A w) (hA : A ≤ s.size) (hs : s.size ≤ 140737488355328) (hn : n ≤ 140737488355328) (hc : s.size < A + n) :
    Calls Tryz.prog 83 #[.pointer (some ⟨RB, 0, none⟩), .int .i64 (n : Int)] w fun e w' => e = flt 242 A ∧ Below w.heap.size w w' := by
  have c0 := h.c0
  have c1 := h.c1
  obtain ⟨N, hN⟩ : ∃ N, s.size = N := ⟨_, rfl⟩
  have wS : IntKind.i64.wrap ((N : Int) - (A : Int)) = ((N - A : Nat) : Int) := by rw [IntKind.wrap_i64]; omega
  have q1 : ((N - A : Nat) : Int) < (n : Int) := by omega
  have HB : Hid (Below w.heap.size w w.drew) := (Below.refl _ _).drew
  unfold flt
  clear h
  go_enter Tryz.func83, Tryz.ntmps83
  go_upto_region 1 with fail
  refine wp_region_held_drew (S := (fun v => v.cell? ⟨RB, 0, none⟩ = some (.string s) ∧ v.cell? ⟨RB, 1, none⟩ = some (.int .i64 (A : Int)))) (by kernel_rfl) ?_ (fun hHeld => ?_)
  · ((try dsimp only); go_keep)
  refine wpAnyH_take (i := 0) (v := ?_) (by simp only [List.getElem?_toArray, List.getElem?_cons_succ, List.getElem?_cons_zero]; rfl) (by kernel_rfl) (by kernel_rfl) (by kernel_rfl) (by exact fun _ _ _ h => h) (Or.inl ⟨by rfl, ?_⟩) (by assumption) ?_
  rotate_left 1
  · (intro wS hSw; (try dsimp only at hSw); go_simp; try (with_reducible rfl))
  try simp only [Act.put, List.setIfInBounds_toArray, List.set_cons_zero, List.set_cons_succ]
  refine wpAnyH_take (i := 1) (v := ?_) (by simp only [List.getElem?_toArray, List.getElem?_cons_succ, List.getElem?_cons_zero]; rfl) (by kernel_rfl) (by kernel_rfl) (by kernel_rfl) (by exact fun _ _ _ h => h) (Or.inl ⟨by rfl, ?_⟩) (by assumption) ?_
  rotate_left 1
  · (intro wS hSw; (try dsimp only at hSw); go_simp; try (with_reducible rfl))
  try simp only [Act.put, List.setIfInBounds_toArray, List.set_cons_zero, List.set_cons_succ]
  refine wpAnyH_take (i := 2) (v := ?_) (by simp only [List.getElem?_toArray, List.getElem?_cons_succ, List.getElem?_cons_zero]; rfl) (by kernel_rfl) (by kernel_rfl) (by kernel_rfl) (by exact fun _ _ _ h => h) (Or.inl ⟨by rfl, ?_⟩) (by assumption) ?_
  rotate_left 1
  · (intro wS hSw; (try dsimp only at hSw); go_simp; try (with_reducible rfl))
  try simp only [Act.put, List.setIfInBounds_toArray, List.set_cons_zero, List.set_cons_succ]
  refine wpAnyH_take (i := 3) (v := ?_) (by simp only [List.getElem?_toArray, List.getElem?_cons_succ, List.getElem?_cons_zero]; rfl) (by kernel_rfl) (by kernel_rfl) (by kernel_rfl) (by exact fun _ _ _ h => h) (Or.inl ⟨by rfl, ?_⟩) (by assumption) ?_
  rotate_left 1
  · (intro wS hSw; (try dsimp only at hSw); go_simp; try (with_reducible rfl))
  try simp only [Act.put, List.setIfInBounds_toArray, List.set_cons_zero, List.set_cons_succ]
  refine wpAnyH_take (i := 4) (v := ?_) (by simp only [List.getElem?_toArray, List.getElem?_cons_succ, List.getElem?_cons_zero]; rfl) (by kernel_rfl) (by kernel_rfl) (by kernel_rfl) (by exact fun _ _ _ h => h) (Or.inl ⟨by rfl, ?_⟩) (by assumption) ?_
  rotate_left 1
  · (intro wS hSw; (try dsimp only at hSw); go_simp; try (with_reducible rfl))
  try simp only [Act.put, List.setIfInBounds_toArray, List.set_cons_zero, List.set_cons_succ]
  refine wpAnyH_take (i := 5) (v := ?_) (by simp only [List.getElem?_toArray, List.getElem?_cons_succ, List.getElem?_cons_zero]; rfl) (by kernel_rfl) (by kernel_rfl) (by kernel_rfl) (by exact fun _ _ _ h => h) (Or.inl ⟨by rfl, ?_⟩) (by assumption) ?_
  rotate_left 1
  · (intro wS hSw; (try dsimp only at hSw); go_simp; try (with_reducible rfl))
  try simp only [Act.put, List.setIfInBounds_toArray, List.set_cons_zero, List.set_cons_succ]
  refine wpAnyH_take (i := 6) (v := ?_) (by simp only [List.getElem?_toArray, List.getElem?_cons_succ, List.getElem?_cons_zero]; rfl) (by kernel_rfl) (by kernel_rfl) (by kernel_rfl) (by exact fun _ _ _ h => h) (Or.inl ⟨by rfl, ?_⟩) (by assumption) ?_
  rotate_left 1
  · (intro wS hSw; (try dsimp only at hSw); go_simp; try (with_reducible rfl))
  try simp only [Act.put, List.setIfInBounds_toArray, List.set_cons_zero, List.set_cons_succ]
  refine wpAnyH_take (i := 7) (v := ?_) (by simp only [List.getElem?_toArray, List.getElem?_cons_succ, List.getElem?_cons_zero]; rfl) (by kernel_rfl) (by kernel_rfl) (by kernel_rfl) (by exact fun _ _ _ h => h) (Or.inl ⟨by rfl, ?_⟩) (by assumption) ?_
  rotate_left 1
  · (intro wS hSw; (try dsimp only at hSw); go_simp; try (with_reducible rfl))
  try simp only [Act.put, List.setIfInBounds_toArray, List.set_cons_zero, List.set_cons_succ]
  refine wpAnyH_take (i := 8) (v := ?_) (by simp only [List.getElem?_toArray, List.getElem?_cons_succ, List.getElem?_cons_zero]; rfl) (by kernel_rfl) (by kernel_rfl) (by kernel_rfl) (by exact fun _ _ _ h => h) (Or.inl ⟨by rfl, ?_⟩) (by assumption) ?_
  rotate_left 1
  · (intro wS hSw; (try dsimp only at hSw); go_simp; try (with_reducible rfl))
  try simp only [Act.put, List.setIfInBounds_toArray, List.set_cons_zero, List.set_cons_succ]
  refine wpAnyH_take (i := 9) (v := ?_) (by simp only [List.getElem?_toArray, List.getElem?_cons_succ, List.getElem?_cons_zero]; rfl) (by kernel_rfl) (by kernel_rfl) (by kernel_rfl) (by exact fun _ _ _ h => h) (Or.inl ⟨by rfl, ?_⟩) (by assumption) ?_
  rotate_left 1
  · (intro wS hSw; (try dsimp only at hSw); go_simp; try (with_reducible rfl))
  try simp only [Act.put, List.setIfInBounds_toArray, List.set_cons_zero, List.set_cons_succ]
  refine wpAnyH_take (i := 10) (v := ?_) (by simp only [List.getElem?_toArray, List.getElem?_cons_succ, List.getElem?_cons_zero]; rfl) (by kernel_rfl) (by kernel_rfl) (by kernel_rfl) (by exact fun _ _ _ h => h) (Or.inl ⟨by rfl, ?_⟩) (by assumption) ?_
  rotate_left 1
  · (intro wS hSw; (try dsimp only at hSw); go_simp; try (with_reducible rfl))
  try simp only [Act.put, List.setIfInBounds_toArray, List.set_cons_zero, List.set_cons_succ]
  refine wpAnyH_take (i := 11) (v := ?_) (by simp only [List.getElem?_toArray, List.getElem?_cons_succ, List.getElem?_cons_zero]; rfl) (by kernel_rfl) (by kernel_rfl) (by kernel_rfl) (by exact fun _ _ _ h => h) (Or.inl ⟨by rfl, ?_⟩) (by assumption) ?_
  rotate_left 1
  · (intro wS hSw; (try dsimp only at hSw); go_simp; try (with_reducible rfl))
  try simp only [Act.put, List.setIfInBounds_toArray, List.set_cons_zero, List.set_cons_succ]
  refine wpAnyH_done (by kernel_rfl) ?_ _
  go_wp2
  exact ⟨rfl, rfl, HB.out⟩

set_option maxRecDepth 100000 in
set_option maxHeartbeats 4000000 in
theorem take_ok (E RB : Nat) (s : ByteArray) (A n : Nat) (w : World) (h : RdM E RB s A w) (hs : s.size ≤ 140737488355328) (hc : A + n ≤ s.size) (hE : E ≤ w.heap.size) :
    Calls Tryz.prog 83 #[.pointer (some ⟨RB, 0, none⟩), .int .i64 (n : Int)] w fun e w' => e = .returned (.string (s.extract A (A + n))) ∧ Below E w w' ∧ RdM E RB s (A + n) w' ∧ RdO RB w w' := by
  have c0 := h.c0
  have c1 := h.c1
  obtain ⟨N, hN⟩ : ∃ N, s.size = N := ⟨_, rfl⟩
  have wS : IntKind.i64.wrap ((N : Int) - (A : Int)) = ((N - A : Nat) : Int) := by rw [IntKind.wrap_i64]; omega
  have q1 : ¬ ((N - A : Nat) : Int) < (n : Int) := by omega
  have wA : IntKind.i64.wrap ((A : Int) + (n : Int)) = ((A + n : Nat) : Int) := by rw [IntKind.wrap_i64]; omega
  have hd : Below w.heap.size w w.drew := (Below.refl _ _).drew
  have HM : Hid (RdM E RB s A w.drew) := h.below hd
  obtain ⟨P, hP⟩ : ∃ P, A + n = P := ⟨_, rfl⟩
  have wB : IntKind.i64.wrap ((P : Int) - (n : Int)) = (A : Int) := by rw [IntKind.wrap_i64]; omega
  have i1 : (0 : Int) ≤ (A : Int) := by omega
  have i2 : (A : Int) ≤ (P : Int) := by omega
  have i3 : (P : Int) ≤ (N : Int) := by omega
  have i4 : (0 : Int) ≤ (P : Int) := by omega
  have i5 : A ≤ P := by omega
  have i6 : P ≤ N := by omega
  rw [hP] at wA ⊢
  have d1 := HM.out.c1
  have fz : w.drew.frozen? ⟨RB, 1, none⟩ = false := HM.out.b.frozen 1
  obtain ⟨W, hW⟩ : ∃ W, w.drew.setCell ⟨RB, 1, none⟩ (.int .i64 (P : Int)) = W := ⟨_, rfl⟩
  have hm2 : RdM E RB s P W := by rw [← hW]; exact HM.out.set P
  have ho2 : RdO RB w W := by rw [← hW]; exact (RdO.of hd).trans (RdO.set _ _ _ _)
  have hb2 : Below E w W := by rw [← hW]; exact (hd.mono hE).setCell h.ge _
  have x0 := hm2.c0
  have x1 := hm2.c1
  have hd2 : Below W.heap.size W W.drew := (Below.refl _ _).drew
  have HR : Hid (Below E w W.drew ∧ RdM E RB s P W.drew ∧ RdO RB w W.drew) := ⟨hb2.drew, hm2.below hd2, ho2.trans (RdO.of hd2)⟩
  have HW := hidC hW
  clear h hd hd2 HM hm2 ho2 hb2 hW hP
  go_enter Tryz.func83, Tryz.ntmps83
  go_upto_region 1 with fail
  refine wp_region_held_drew (S := (fun v => v.cell? ⟨RB, 0, none⟩ = some (.string s) ∧ v.cell? ⟨RB, 1, none⟩ = some (.int .i64 (A : Int)))) (by kernel_rfl) ?_ (fun hHeld => ?_)
  · ((try dsimp only); go_keep)
  refine wpAnyH_take (i := 0) (v := ?_) (by simp only [List.getElem?_toArray, List.getElem?_cons_succ, List.getElem?_cons_zero]; rfl) (by kernel_rfl) (by kernel_rfl) (by kernel_rfl) (by exact fun _ _ _ h => h) (Or.inl ⟨by rfl, ?_⟩) (by assumption) ?_
  rotate_left 1
  · (intro wS hSw; (try dsimp only at hSw); go_simp; try (with_reducible rfl))
  try simp only [Act.put, List.setIfInBounds_toArray, List.set_cons_zero, List.set_cons_succ]
  refine wpAnyH_take (i := 1) (v := ?_) (by simp only [List.getElem?_toArray, List.getElem?_cons_succ, List.getElem?_cons_zero]; rfl) (by kernel_rfl) (by kernel_rfl) (by kernel_rfl) (by exact fun _ _ _ h => h) (Or.inl ⟨by rfl, ?_⟩) (by assumption) ?_
  rotate_left 1
  · (intro wS hSw; (try dsimp only at hSw); go_simp; try (with_reducible rfl))
  try simp only [Act.put, List.setIfInBounds_toArray, List.set_cons_zero, List.set_cons_succ]
  refine wpAnyH_take (i := 2) (v := ?_) (by simp only [List.getElem?_toArray, List.getElem?_cons_succ, List.getElem?_cons_zero]; rfl) (by kernel_rfl) (by kernel_rfl) (by kernel_rfl) (by exact fun _ _ _ h => h) (Or.inl ⟨by rfl, ?_⟩) (by assumption) ?_
  rotate_left 1
  · (intro wS hSw; (try dsimp only at hSw); go_simp; try (with_reducible rfl))
  try simp only [Act.put, List.setIfInBounds_toArray, List.set_cons_zero, List.set_cons_succ]
  refine wpAnyH_take (i := 3) (v := ?_) (by simp only [List.getElem?_toArray, List.getElem?_cons_succ, List.getElem?_cons_zero]; rfl) (by kernel_rfl) (by kernel_rfl) (by kernel_rfl) (by exact fun _ _ _ h => h) (Or.inl ⟨by rfl, ?_⟩) (by assumption) ?_
  rotate_left 1
  · (intro wS hSw; (try dsimp only at hSw); go_simp; try (with_reducible rfl))
  try simp only [Act.put, List.setIfInBounds_toArray, List.set_cons_zero, List.set_cons_succ]
  refine wpAnyH_take (i := 4) (v := ?_) (by simp only [List.getElem?_toArray, List.getElem?_cons_succ, List.getElem?_cons_zero]; rfl) (by kernel_rfl) (by kernel_rfl) (by kernel_rfl) (by exact fun _ _ _ h => h) (Or.inl ⟨by rfl, ?_⟩) (by assumption) ?_
  rotate_left 1
  · (intro wS hSw; (try dsimp only at hSw); go_simp; try (with_reducible rfl))
  try simp only [Act.put, List.setIfInBounds_toArray, List.set_cons_zero, List.set_cons_succ]
  refine wpAnyH_take (i := 5) (v := ?_) (by simp only [List.getElem?_toArray, List.getElem?_cons_succ, List.getElem?_cons_zero]; rfl) (by kernel_rfl) (by kernel_rfl) (by kernel_rfl) (by exact fun _ _ _ h => h) (Or.inl ⟨by rfl, ?_⟩) (by assumption) ?_
  rotate_left 1
  · (intro wS hSw; (try dsimp only at hSw); go_simp; try (with_reducible rfl))
  try simp only [Act.put, List.setIfInBounds_toArray, List.set_cons_zero, List.set_cons_succ]
  refine wpAnyH_take (i := 6) (v := ?_) (by simp only [List.getElem?_toArray, List.getElem?_cons_succ, List.getElem?_cons_zero]; rfl) (by kernel_rfl) (by kernel_rfl) (by kernel_rfl) (by exact fun _ _ _ h => h) (Or.inl ⟨by rfl, ?_⟩) (by assumption) ?_
  rotate_left 1
  · (intro wS hSw; (try dsimp only at hSw); go_simp; try (with_reducible rfl))
  try simp only [Act.put, List.setIfInBounds_toArray, List.set_cons_zero, List.set_cons_succ]
  refine wpAnyH_take (i := 7) (v := ?_) (by simp only [List.getElem?_toArray, List.getElem?_cons_succ, List.getElem?_cons_zero]; rfl) (by kernel_rfl) (by kernel_rfl) (by kernel_rfl) (by exact fun _ _ _ h => h) (Or.inl ⟨by rfl, ?_⟩) (by assumption) ?_
  rotate_left 1
  · (intro wS hSw; (try dsimp only at hSw); go_simp; try (with_reducible rfl))
  try simp only [Act.put, List.setIfInBounds_toArray, List.set_cons_zero, List.set_cons_succ]
  refine wpAnyH_take (i := 8) (v := ?_) (by simp only [List.getElem?_toArray, List.getElem?_cons_succ, List.getElem?_cons_zero]; rfl) (by kernel_rfl) (by kernel_rfl) (by kernel_rfl) (by exact fun _ _ _ h => h) (Or.inl ⟨by rfl, ?_⟩) (by assumption) ?_
  rotate_left 1
  · (intro wS hSw; (try dsimp only at hSw); go_simp; try (with_reducible rfl))
  try simp only [Act.put, List.setIfInBounds_toArray, List.set_cons_zero, List.set_cons_succ]
  refine wpAnyH_take (i := 9) (v := ?_) (by simp only [List.getElem?_toArray, List.getElem?_cons_succ, List.getElem?_cons_zero]; rfl) (by kernel_rfl) (by kernel_rfl) (by kernel_rfl) (by exact fun _ _ _ h => h) (Or.inl ⟨by rfl, ?_⟩) (by assumption) ?_
  rotate_left 1
  · (intro wS hSw; (try dsimp only at hSw); go_simp; try (with_reducible rfl))
  try simp only [Act.put, List.setIfInBounds_toArray, List.set_cons_zero, List.set_cons_succ]
  refine wpAnyH_take (i := 10) (v := ?_) (by simp only [List.getElem?_toArray, List.getElem?_cons_succ, List.getElem?_cons_zero]; rfl) (by kernel_rfl) (by kernel_rfl) (by kernel_rfl) (by exact fun _ _ _ h => h) (Or.inl ⟨by rfl, ?_⟩) (by assumption) ?_
  rotate_left 1
  · (intro wS hSw; (try dsimp only at hSw); go_simp; try (with_reducible rfl))
  try simp only [Act.put, List.setIfInBounds_toArray, List.set_cons_zero, List.set_cons_succ]
  refine wpAnyH_take (i := 11) (v := ?_) (by simp only [List.getElem?_toArray, List.getElem?_cons_succ, List.getElem?_cons_zero]; rfl) (by kernel_rfl) (by kernel_rfl) (by kernel_rfl) (by exact fun _ _ _ h => h) (Or.inl ⟨by rfl, ?_⟩) (by assumption) ?_
  rotate_left 1
  · (intro wS hSw; (try dsimp only at hSw); go_simp; try (with_reducible rfl))
  try simp only [Act.put, List.setIfInBounds_toArray, List.set_cons_zero, List.set_cons_succ]
  refine wpAnyH_done (by kernel_rfl) ?_ _
  go_upto_region 4 with fail
  rw [← World.setCell_drew, HW.out]
  clear c0 c1 d1 fz HW
  refine wp_region_held_drew (S := (fun v => v.cell? ⟨RB, 0, none⟩ = some (.string s) ∧ v.cell? ⟨RB, 1, none⟩ = some (.int .i64 (P : Int)))) (by kernel_rfl) ?_ (fun hHeld => ?_)
  · ((try dsimp only); go_keep)
  refine wpAnyH_take (i := 0) (v := ?_) (by simp only [List.getElem?_toArray, List.getElem?_cons_succ, List.getElem?_cons_zero]; rfl) (by kernel_rfl) (by kernel_rfl) (by kernel_rfl) (by exact fun _ _ _ h => h) (Or.inl ⟨by rfl, ?_⟩) (by assumption) ?_
  rotate_left 1
  · (intro wS hSw; (try dsimp only at hSw); go_simp; try (with_reducible rfl))
  try simp only [Act.put, List.setIfInBounds_toArray, List.set_cons_zero, List.set_cons_succ]
  refine wpAnyH_take (i := 1) (v := ?_) (by simp only [List.getElem?_toArray, List.getElem?_cons_succ, List.getElem?_cons_zero]; rfl) (by kernel_rfl) (by kernel_rfl) (by kernel_rfl) (by exact fun _ _ _ h => h) (Or.inl ⟨by rfl, ?_⟩) (by assumption) ?_
  rotate_left 1
  · (intro wS hSw; (try dsimp only at hSw); go_simp; try (with_reducible rfl))
  try simp only [Act.put, List.setIfInBounds_toArray, List.set_cons_zero, List.set_cons_succ]
  refine wpAnyH_take (i := 2) (v := ?_) (by simp only [List.getElem?_toArray, List.getElem?_cons_succ, List.getElem?_cons_zero]; rfl) (by kernel_rfl) (by kernel_rfl) (by kernel_rfl) (by exact fun _ _ _ h => h) (Or.inl ⟨by rfl, ?_⟩) (by assumption) ?_
  rotate_left 1
  · (intro wS hSw; (try dsimp only at hSw); go_simp; try (with_reducible rfl))
  try simp only [Act.put, List.setIfInBounds_toArray, List.set_cons_zero, List.set_cons_succ]
  refine wpAnyH_take (i := 3) (v := ?_) (by simp only [List.getElem?_toArray, List.getElem?_cons_succ, List.getElem?_cons_zero]; rfl) (by kernel_rfl) (by kernel_rfl) (by kernel_rfl) (by exact fun _ _ _ h => h) (Or.inl ⟨by rfl, ?_⟩) (by assumption) ?_
  rotate_left 1
  · (intro wS hSw; (try dsimp only at hSw); go_simp; try (with_reducible rfl))
  try simp only [Act.put, List.setIfInBounds_toArray, List.set_cons_zero, List.set_cons_succ]
  refine wpAnyH_take (i := 4) (v := ?_) (by simp only [List.getElem?_toArray, List.getElem?_cons_succ, List.getElem?_cons_zero]; rfl) (by kernel_rfl) (by kernel_rfl) (by kernel_rfl) (by exact fun _ _ _ h => h) (Or.inl ⟨by rfl, ?_⟩) (by assumption) ?_
  rotate_left 1
  · (intro wS hSw; (try dsimp only at hSw); go_simp; try (with_reducible rfl))
  try simp only [Act.put, List.setIfInBounds_toArray, List.set_cons_zero, List.set_cons_succ]
  refine wpAnyH_take (i := 5) (v := ?_) (by simp only [List.getElem?_toArray, List.getElem?_cons_succ, List.getElem?_cons_zero]; rfl) (by kernel_rfl) (by kernel_rfl) (by kernel_rfl) (by exact fun _ _ _ h => h) (Or.inl ⟨by rfl, ?_⟩) (by assumption) ?_
  rotate_left 1
  · (intro wS hSw; (try dsimp only at hSw); go_simp; try (with_reducible rfl))
  try simp only [Act.put, List.setIfInBounds_toArray, List.set_cons_zero, List.set_cons_succ]
  refine wpAnyH_take (i := 6) (v := ?_) (by simp only [List.getElem?_toArray, List.getElem?_cons_succ, List.getElem?_cons_zero]; rfl) (by kernel_rfl) (by kernel_rfl) (by kernel_rfl) (by exact fun _ _ _ h => h) (Or.inl ⟨by rfl, ?_⟩) (by assumption) ?_
  rotate_left 1
  · (intro wS hSw; (try dsimp only at hSw); go_simp; try (with_reducible rfl))
  try simp only [Act.put, List.setIfInBounds_toArray, List.set_cons_zero, List.set_cons_succ]
  refine wpAnyH_take (i := 7) (v := ?_) (by simp only [List.getElem?_toArray, List.getElem?_cons_succ, List.getElem?_cons_zero]; rfl) (by kernel_rfl) (by kernel_rfl) (by kernel_rfl) (by exact fun _ _ _ h => h) (Or.inl ⟨by rfl, ?_⟩) (by assumption) ?_
  rotate_left 1
  · (intro wS hSw; (try dsimp only at hSw); go_simp; try (with_reducible rfl))
  try simp only [Act.put, List.setIfInBounds_toArray, List.set_cons_zero, List.set_cons_succ]
  refine wpAnyH_take (i := 8) (v := ?_) (by simp only [List.getElem?_toArray, List.getElem?_cons_succ, List.getElem?_cons_zero]; rfl) (by kernel_rfl) (by kernel_rfl) (by kernel_rfl) (by exact fun _ _ _ h => h) (Or.inl ⟨by rfl, ?_⟩) (by assumption) ?_
  rotate_left 1
  · (intro wS hSw; (try dsimp only at hSw); go_simp; try (with_reducible rfl))
  try simp only [Act.put, List.setIfInBounds_toArray, List.set_cons_zero, List.set_cons_succ]
  refine wpAnyH_take (i := 9) (v := ?_) (by simp only [List.getElem?_toArray, List.getElem?_cons_succ, List.getElem?_cons_zero]; rfl) (by kernel_rfl) (by kernel_rfl) (by kernel_rfl) (by exact fun _ _ _ h => h) (Or.inl ⟨by rfl, ?_⟩) (by assumption) ?_
  rotate_left 1
  · (intro wS hSw; (try dsimp only at hSw); go_simp; try (with_reducible rfl))
  try simp only [Act.put, List.setIfInBounds_toArray, List.set_cons_zero, List.set_cons_succ]
  refine wpAnyH_take (i := 10) (v := ?_) (by simp only [List.getElem?_toArray, List.getElem?_cons_succ, List.getElem?_cons_zero]; rfl) (by kernel_rfl) (by kernel_rfl) (by kernel_rfl) (by exact fun _ _ _ h => h) (Or.inl ⟨by rfl, ?_⟩) (by assumption) ?_
  rotate_left 1
  · (intro wS hSw; (try dsimp only at hSw); go_simp; try (with_reducible rfl))
  try simp only [Act.put, List.setIfInBounds_toArray, List.set_cons_zero, List.set_cons_succ]
  refine wpAnyH_take (i := 11) (v := ?_) (by simp only [List.getElem?_toArray, List.getElem?_cons_succ, List.getElem?_cons_zero]; rfl) (by kernel_rfl) (by kernel_rfl) (by kernel_rfl) (by exact fun _ _ _ h => h) (Or.inl ⟨by rfl, ?_⟩) (by assumption) ?_
  rotate_left 1
  · (intro wS hSw; (try dsimp only at hSw); go_simp; try (with_reducible rfl))
  try simp only [Act.put, List.setIfInBounds_toArray, List.set_cons_zero, List.set_cons_succ]
  refine wpAnyH_take (i := 12) (v := ?_) (by simp only [List.getElem?_toArray, List.getElem?_cons_succ, List.getElem?_cons_zero]; rfl) (by kernel_rfl) (by kernel_rfl) (by kernel_rfl) (by exact fun _ _ _ h => h) (Or.inl ⟨by rfl, ?_⟩) (by assumption) ?_
  rotate_left 1
  · (intro wS hSw; (try dsimp only at hSw); go_simp; try (with_reducible rfl))
  try simp only [Act.put, List.setIfInBounds_toArray, List.set_cons_zero, List.set_cons_succ]
  refine wpAnyH_take (i := 13) (v := ?_) (by simp only [List.getElem?_toArray, List.getElem?_cons_succ, List.getElem?_cons_zero]; rfl) (by kernel_rfl) (by kernel_rfl) (by kernel_rfl) (by exact fun _ _ _ h => h) (Or.inl ⟨by rfl, ?_⟩) (by assumption) ?_
  rotate_left 1
  · (intro wS hSw; (try dsimp only at hSw); go_simp; try (with_reducible rfl))
  try simp only [Act.put, List.setIfInBounds_toArray, List.set_cons_zero, List.set_cons_succ]
  refine wpAnyH_take (i := 14) (v := ?_) (by simp only [List.getElem?_toArray, List.getElem?_cons_succ, List.getElem?_cons_zero]; rfl) (by kernel_rfl) (by kernel_rfl) (by kernel_rfl) (by exact fun _ _ _ h => h) (Or.inl ⟨by rfl, ?_⟩) (by assumption) ?_
  rotate_left 1
  · (intro wS hSw; (try dsimp only at hSw); go_simp; try (with_reducible rfl))
  try simp only [Act.put, List.setIfInBounds_toArray, List.set_cons_zero, List.set_cons_succ]
  refine wpAnyH_take (i := 15) (v := ?_) (by simp only [List.getElem?_toArray, List.getElem?_cons_succ, List.getElem?_cons_zero]; rfl) (by kernel_rfl) (by kernel_rfl) (by kernel_rfl) (by exact fun _ _ _ h => h) (Or.inl ⟨by rfl, ?_⟩) (by assumption) ?_
  rotate_left 1
  · (intro wS hSw; (try dsimp only at hSw); go_simp; try (with_reducible rfl))
  try simp only [Act.put, List.setIfInBounds_toArray, List.set_cons_zero, List.set_cons_succ]
  refine wpAnyH_done (by kernel_rfl) ?_ _
  go_wp2
  refine bodyPost_ret (by simp [results, Tryz.results83, go_sem, *]; try rfl) rfl ?_
  exact ⟨rfl, HR.out⟩

end Go.Proofs.YtnlgkkbmbijndaaGreat
/- Package code: the reader: small. -/
namespace Go.Proofs.YtnlgkkbmbijndaaGreat
open Go.RowKit
set_option linter.unusedVariables false
set_option linter.unusedSimpArgs false

/-- What a reader's function tells, by what the plain parser tells. -/
def RdT {α : Type} (E RB : Nat) (s : ByteArray) (w : World) (val : α → Value) (q : Except (Int × Nat) (α × List Nat × Nat)) (e : Ending) (w' : World) : Prop :=
  match q with
  | .error (er, at_) => e = flt er at_ ∧ Below E w w' ∧ RdO RB w w'
  | .ok (x, l', A') => e = .returned (val x) ∧ Below E w w' ∧ RdO RB w w' ∧ RdM E RB s A' w' ∧ A' ≤ s.size ∧ l' = (bytN s).drop A'
theorem dropN_end {s : ByteArray} {A : Nat} (h : s.size ≤ A) : (bytN s).drop A = [] := List.drop_eq_nil_of_le (by rw [bytN_len]; exact h)
theorem dropN_at {s : ByteArray} {A : Nat} (h : A < s.size) : (bytN s).drop A = s[A].toNat :: (bytN s).drop (A + 1) := by
  have h1 : A < (bytN s).length := by rw [bytN_len]; exact h
  rw [List.drop_eq_getElem_cons h1]
  congr 1
  simp [bytN]
  rfl
theorem ext_one {s : ByteArray} {A : Nat} (h : A < s.size) : ∃ t : ByteArray, s.extract A (A + 1) = t ∧ ∃ (ht : t.size = 1), t[0].toNat = s[A].toNat := by
  refine ⟨_, rfl, ?_, ?_⟩
  · simp; omega
  · simp [ByteArray.getElem_extract]

set_option maxRecDepth 100000 in
set_option maxHeartbeats 4000000 in
theorem small_any (E RB : Nat) (s : ByteArray) (A lo hi : Nat) (w : World) (h : RdM E RB s A w) (hA : A ≤ s.size) (hs : s.size ≤ 140737488355328) (hE : E ≤ w.heap.size) :
    Calls Tryz.prog 85 #[.pointer (some ⟨RB, 0, none⟩), .int .i64 (lo : Int), .int .i64 (hi : Int)] w (RdT E RB s w (fun (b : Nat) => .int .i64 (b : Int)) (pByte lo hi ((bytN s).drop A) A)) := by
  have c1 := h.c1
  by_cases hlt : A < s.size
  · rw [dropN_at hlt]
    obtain ⟨t, hte, ht, hb⟩ := ext_one hlt
    have KT : Calls Tryz.prog 83 #[.pointer (some ⟨RB, 0, none⟩), .int .i64 1] w fun e w' => e = .returned (.string (s.extract A (A + 1))) ∧ Below E w w' ∧ RdM E RB s (A + 1) w' ∧ RdO RB w w' := take_ok E RB s A 1 w h hs (by omega) hE
    rw [hte] at KT
    have KT' := hidC KT
    obtain ⟨B, hB⟩ : ∃ B, s[A].toNat = B := ⟨_, rfl⟩
    rw [hB] at hb ⊢
    have hB2 : B < 256 := by rw [← hB]; exact s[A].toNat_lt
    have wB : IntKind.i64.wrap (B : Int) = (B : Int) := by rw [IntKind.wrap_i64]; omega
    have HA1 : Hid (A + 1 ≤ s.size) := by show A + 1 ≤ s.size; omega
    by_cases q : B < lo ∨ hi < B
    · have HP : Hid (pByte lo hi (B :: (bytN s).drop (A + 1)) A = .error (243, A)) := by show (if B < lo ∨ hi < B then _ else _) = _; rw [if_pos q]
      rw [HP.out]
      unfold RdT flt
      simp only
      clear hB hte h KT HP hlt
      by_cases q1 : B < lo
      · have e1 : (B : Int) < (lo : Int) := by omega
        clear q
        go_enter Tryz.func85, Tryz.ntmps85
        go_wp2_with (go_at_call 83; (with_reducible refine KT'.out.mono ?_); rintro e9 w4 ⟨rfl, hb4, hm4, ho4⟩; have HB4 := hidC hb4; have HO4 := hidC ho4; clear hb4 hm4 ho4)
        exact ⟨rfl, rfl, HB4.out, HO4.out⟩
      · have e1 : ¬ (B : Int) < (lo : Int) := by omega
        have e2 : (hi : Int) < (B : Int) := by omega
        clear q
        go_enter Tryz.func85, Tryz.ntmps85
        go_wp2_with (go_at_call 83; (with_reducible refine KT'.out.mono ?_); rintro e9 w4 ⟨rfl, hb4, hm4, ho4⟩; have HB4 := hidC hb4; have HO4 := hidC ho4; clear hb4 hm4 ho4)
        exact ⟨rfl, rfl, HB4.out, HO4.out⟩
    · have HP : Hid (pByte lo hi (B :: (bytN s).drop (A + 1)) A = .ok (B, (bytN s).drop (A + 1), A + 1)) := by show (if B < lo ∨ hi < B then _ else _) = _; rw [if_neg q]
      rw [HP.out]
      unfold RdT
      simp only
      have e1 : ¬ (B : Int) < (lo : Int) := by omega
      have e2 : ¬ (hi : Int) < (B : Int) := by omega
      clear hB hte h KT HP hlt q
      go_enter Tryz.func85, Tryz.ntmps85
      go_wp2_with (go_at_call 83; (with_reducible refine KT'.out.mono ?_); rintro e9 w4 ⟨rfl, hb4, hm4, ho4⟩; have HB4 := hidC hb4; have HM4 := hidC hm4; have HO4 := hidC ho4; clear hb4 hm4 ho4)
      refine bodyPost_ret (by simp [results, Tryz.results85, go_sem, *]; try rfl) rfl ?_
      exact ⟨rfl, HB4.out, HO4.out, HM4.out, HA1.out, trivial⟩
  · rw [dropN_end (by omega)]
    have KT : Hid (Calls Tryz.prog 83 #[.pointer (some ⟨RB, 0, none⟩), .int .i64 1] w fun e w' => e = flt 242 A ∧ Below w.heap.size w w') := take_cut E RB s A 1 w h hA hs (by omega) (by omega)
    have HEW := hidC hE
    unfold pByte RdT flt
    unfold flt at KT
    simp only
    clear h hlt
    go_enter Tryz.func85, Tryz.ntmps85
    go_wp2_with (go_at_call 83; (with_reducible refine KT.out.mono ?_); rintro e9 w4 ⟨rfl, hb4⟩; have HB4 := hidC hb4; clear hb4)
    exact ⟨rfl, rfl, HB4.out.mono HEW.out, RdO.of HB4.out⟩

end Go.Proofs.YtnlgkkbmbijndaaGreat
/- Package code: the reader: number. -/
namespace Go.Proofs.YtnlgkkbmbijndaaGreat
open Go.RowKit
set_option linter.unusedVariables false
set_option linter.unusedSimpArgs false

theorem bo64 {x y : Nat} (hx : x < 2 ^ 63) (hy : y < 2 ^ 63) : bits .or .i64 (x : Int) (y : Int) = ((x ||| y : Nat) : Int) := by
  have h : (BitVec.ofInt 64 (x : Int) ||| BitVec.ofInt 64 (y : Int)).toNat = x ||| y := by
    rw [BitVec.toNat_or]
    simp only [BitVec.ofInt_natCast, BitVec.toNat_ofNat]
    rw [Nat.mod_eq_of_lt (by omega), Nat.mod_eq_of_lt (by omega)]
  have h2 : x ||| y < 2 ^ 63 := Nat.or_lt_two_pow hx hy
  show IntKind.i64.wrap (((BitVec.ofInt 64 (x : Int) ||| BitVec.ofInt 64 (y : Int)).toNat : Nat) : Int) = _
  rw [h, IntKind.wrap_i64]
  omega
theorem or_grp {n g k : Nat} (hn : n < 128 ^ k) : n ||| g * 128 ^ k = n + g * 128 ^ k := by
  have e : (128 : Nat) ^ k = 2 ^ (7 * k) := by rw [Nat.pow_mul]
  rw [e] at hn ⊢
  rw [Nat.or_comm, Nat.mul_comm g, ← Nat.two_pow_add_eq_or_of_lt hn, Nat.add_comm]
theorem pw_le {k : Nat} (h : k ≤ 8) : (128 : Nat) ^ k * 128 ≤ 2 ^ 63 := by
  rcases (show k = 0 ∨ k = 1 ∨ k = 2 ∨ k = 3 ∨ k = 4 ∨ k = 5 ∨ k = 6 ∨ k = 7 ∨ k = 8 by omega) with rfl | rfl | rfl | rfl | rfl | rfl | rfl | rfl | rfl <;> decide

set_option maxRecDepth 100000 in
set_option maxHeartbeats 8000000 in
theorem number_any (E RB : Nat) (s : ByteArray) (A : Nat) (w : World) (h : RdM E RB s A w) (hA : A ≤ s.size) (hs : s.size ≤ 140737488355328) (hE : E ≤ w.heap.size) :
    Calls Tryz.prog 87 #[.pointer (some ⟨RB, 0, none⟩)] w (RdT E RB s w (fun (b : Nat) => .int .i64 (b : Int)) (pNum ((bytN s).drop A) A)) := by
  have c1 := h.c1
  obtain ⟨N, hN⟩ : ∃ N, s.size = N := ⟨_, rfl⟩
  have hd : Below w.heap.size w w.drew := (Below.refl _ _).drew
  obtain ⟨V, hV⟩ : ∃ V, w.drew = V := ⟨_, rfl⟩
  rw [hV] at hd
  have hm := h.below hd
  have v0 := hm.c0
  have v1 := hm.c1
  have fz : V.frozen? ⟨RB, 1, none⟩ = false := hm.b.frozen 1
  have HERR : Hid (Below E w V ∧ RdO RB w V) := ⟨hd.mono hE, RdO.of hd⟩
  have HOK : Hid (∀ P : Nat, Below E w (V.setCell ⟨RB, 1, none⟩ (.int .i64 (P : Int))) ∧ RdO RB w (V.setCell ⟨RB, 1, none⟩ (.int .i64 (P : Int))) ∧ RdM E RB s P (V.setCell ⟨RB, 1, none⟩ (.int .i64 (P : Int)))) := fun P => ⟨(hd.mono hE).setCell h.ge _, (RdO.of hd).trans (RdO.set _ _ _ _), hm.set P⟩
  clear h hm hd
  go_enter Tryz.func87, Tryz.ntmps87
  go_upto_region 2 with fail
  refine wp_region_held_drew (S := (fun v => v.cell? ⟨RB, 1, none⟩ = some (.int .i64 (A : Int)))) (by kernel_rfl) ?_ (fun hHeld => ?_)
  · ((try dsimp only); go_keep)
  refine wpAnyH_take (i := 0) (v := ?_) (by simp only [List.getElem?_toArray, List.getElem?_cons_succ, List.getElem?_cons_zero]; rfl) (by kernel_rfl) (by kernel_rfl) (by kernel_rfl) (by exact fun _ _ _ h => h) (Or.inl ⟨by rfl, ?_⟩) (by assumption) ?_
  rotate_left 1
  · (intro wS hSw; (try dsimp only at hSw); go_simp; try (with_reducible rfl))
  try simp only [Act.put, List.setIfInBounds_toArray, List.set_cons_zero, List.set_cons_succ]
  refine wpAnyH_take (i := 1) (v := ?_) (by simp only [List.getElem?_toArray, List.getElem?_cons_succ, List.getElem?_cons_zero]; rfl) (by kernel_rfl) (by kernel_rfl) (by kernel_rfl) (by exact fun _ _ _ h => h) (Or.inl ⟨by rfl, ?_⟩) (by assumption) ?_
  rotate_left 1
  · (intro wS hSw; (try dsimp only at hSw); go_simp; try (with_reducible rfl))
  try simp only [Act.put, List.setIfInBounds_toArray, List.set_cons_zero, List.set_cons_succ]
  refine wpAnyH_take (i := 2) (v := ?_) (by simp only [List.getElem?_toArray, List.getElem?_cons_succ, List.getElem?_cons_zero]; rfl) (by kernel_rfl) (by kernel_rfl) (by kernel_rfl) (by exact fun _ _ _ h => h) (Or.inl ⟨by rfl, ?_⟩) (by assumption) ?_
  rotate_left 1
  · (intro wS hSw; (try dsimp only at hSw); go_simp; try (with_reducible rfl))
  try simp only [Act.put, List.setIfInBounds_toArray, List.set_cons_zero, List.set_cons_succ]
  refine wpAnyH_take (i := 3) (v := ?_) (by simp only [List.getElem?_toArray, List.getElem?_cons_succ, List.getElem?_cons_zero]; rfl) (by kernel_rfl) (by kernel_rfl) (by kernel_rfl) (by exact fun _ _ _ h => h) (Or.inl ⟨by rfl, ?_⟩) (by assumption) ?_
  rotate_left 1
  · (intro wS hSw; (try dsimp only at hSw); go_simp; try (with_reducible rfl))
  try simp only [Act.put, List.setIfInBounds_toArray, List.set_cons_zero, List.set_cons_succ]
  refine wpAnyH_take (i := 4) (v := ?_) (by simp only [List.getElem?_toArray, List.getElem?_cons_succ, List.getElem?_cons_zero]; rfl) (by kernel_rfl) (by kernel_rfl) (by kernel_rfl) (by exact fun _ _ _ h => h) (Or.inl ⟨by rfl, ?_⟩) (by assumption) ?_
  rotate_left 1
  · (intro wS hSw; (try dsimp only at hSw); go_simp; try (with_reducible rfl))
  try simp only [Act.put, List.setIfInBounds_toArray, List.set_cons_zero, List.set_cons_succ]
  refine wpAnyH_take (i := 5) (v := ?_) (by simp only [List.getElem?_toArray, List.getElem?_cons_succ, List.getElem?_cons_zero]; rfl) (by kernel_rfl) (by kernel_rfl) (by kernel_rfl) (by exact fun _ _ _ h => h) (Or.inl ⟨by rfl, ?_⟩) (by assumption) ?_
  rotate_left 1
  · (intro wS hSw; (try dsimp only at hSw); go_simp; try (with_reducible rfl))
  try simp only [Act.put, List.setIfInBounds_toArray, List.set_cons_zero, List.set_cons_succ]
  refine wpAnyH_done (by kernel_rfl) ?_ _
  rw [hV]
  clear c1 hV
  go_wp2_with fail
  go_loopw [3, 4, 5] (fun nv sv av wx => wx = V ∧ ∃ k n : Nat, k ≤ 9 ∧ A + k ≤ N ∧ nv = .int .i64 (n : Int) ∧ sv = .int .i64 ((7 * k : Nat) : Int) ∧ av = .int .i64 ((A + k : Nat) : Int) ∧ Hid (n < 128 ^ k ∧ numR ((bytN s).drop A) 0 0 = numR ((bytN s).drop (A + k)) k n)) (fun _ _ av _ => N - (intOf av).toNat)
  case atStart => exact ⟨rfl, 0, 0, by omega, by omega, rfl, rfl, rfl, by decide, rfl⟩
  case round =>
    obtain ⟨rfl, k, n, hk, hAk, rfl, rfl, rfl, HJ⟩ := hrel
    obtain ⟨hn, hR⟩ := HJ.out
    obtain ⟨P, hP⟩ : ∃ P, A + k = P := ⟨_, rfl⟩
    rw [hP] at hR hAk ⊢
    by_cases hlt : P < N
    · have hPs : P < s.size := by omega
      rw [dropN_at hPs] at hR
      obtain ⟨B, hB⟩ : ∃ B, s[P].toNat = B := ⟨_, rfl⟩
      rw [hB] at hR
      have hB2 : B < 256 := by rw [← hB]; exact s[P].toNat_lt
      have i1 : (0 : Int) ≤ (P : Int) := by omega
      have i2 : (P : Int) < (N : Int) := by omega
      rw [numR] at hR
      by_cases q : k = 9 ∨ (B = 0 ∧ 0 < k)
      · rw [if_pos q] at hR
        have HP : Hid (pNum ((bytN s).drop A) A = .error (243, A)) := by show pNum _ _ = _; unfold pNum; rw [hR]
        have HG : Hid (RdT E RB s w (fun (b : Nat) => .int .i64 (b : Int)) (pNum ((bytN s).drop A) A) (flt 243 A) wr) := by
          show RdT _ _ _ _ _ _ _ _
          rw [HP.out]
          exact ⟨rfl, HERR.out⟩
        unfold flt at HG
        by_cases q9 : k = 9
        · subst q9
          clear q hR HJ hn HP
          go_wp2
          exact ⟨rfl, HG.out⟩
        · obtain ⟨hB0, hk0⟩ : B = 0 ∧ 0 < k := by omega
          subst hB0
          have s1 : ((7 * k : Nat) : Int) ≠ 63 := by omega
          have s2 : (((7 * k : Nat) : Int) == 63) = false := by simp; omega
          have s3 : (0 : Int) < ((7 * k : Nat) : Int) := by omega
          clear q hR HJ hn HP
          go_wp2
          exact ⟨rfl, HG.out⟩
      · rw [if_neg q] at hR
        have hk8 : k ≤ 8 := by omega
        obtain ⟨G, hG⟩ : ∃ G, B % 128 = G := ⟨_, rfl⟩
        have hG1 : G < 128 := by omega
        have hpw := pw_le hk8
        obtain ⟨T, hT⟩ : ∃ T, G * 128 ^ k = T := ⟨_, rfl⟩
        have hT1 : T < 2 ^ 63 := by
          have h9 : (G + 1) * 128 ^ k ≤ 128 * 128 ^ k := Nat.mul_le_mul_right _ (by omega)
          rw [Nat.add_mul, hT] at h9
          have h8 : 0 < 128 ^ k := Nat.pow_pos (by decide)
          omega
        have hn1 : n < 2 ^ 63 := by omega
        obtain ⟨M, hM⟩ : ∃ M, n + T = M := ⟨_, rfl⟩
        have hor : bits .or .i64 (n : Int) (T : Int) = (M : Int) := by rw [bo64 hn1 hT1, ← hT, or_grp hn, hT, hM]
        have hM1 : M < 128 ^ (k + 1) := by
          have h9 : (G + 1) * 128 ^ k ≤ 128 * 128 ^ k := Nat.mul_le_mul_right _ (by omega)
          rw [Nat.add_mul, hT] at h9
          rw [Nat.pow_succ]
          omega
        have t1 : ((B : Int).tmod 128) = (G : Int) := by rw [Int.tmod_eq_emod_of_nonneg (by omega)]; omega
        have t1' : ((B : Int) % 128) = (G : Int) := by omega
        have t2 : IntKind.i64.wrap (G : Int) = (G : Int) := by rw [IntKind.wrap_i64]; omega
        have t2' : IntKind.u8.wrap (G : Int) = (G : Int) := by rw [IntKind.wrap_u8']; omega
        have s2 : (((7 * k : Nat) : Int) == 63) = false := by simp; omega
        have hsh : (G : Int) * 2 ^ (7 * k) = (T : Int) := by
          rw [← hT, show (128 : Nat) ^ k = 2 ^ (7 * k) by rw [Nat.pow_mul], Int.natCast_mul, Int.natCast_pow]
          rfl
        have t3 : IntKind.i64.wrap (T : Int) = (T : Int) := by rw [IntKind.wrap_i64]; omega
        have s4 : (0 : Int) ≤ ((7 * k : Nat) : Int) := by omega
        have wP : IntKind.i64.wrap ((P : Int) + 1) = ((P + 1 : Nat) : Int) := by rw [IntKind.wrap_i64]; omega
        have wK : IntKind.i64.wrap (((7 * k : Nat) : Int) + 7) = ((7 * (k + 1) : Nat) : Int) := by rw [IntKind.wrap_i64]; omega
        have hfree : k = 0 ∨ (0 < k ∧ B ≠ 0) := by omega
        have HFR : Hid (k = 0 ∨ (0 < k ∧ B ≠ 0)) := hfree
        by_cases hb : B < 128
        · rw [if_pos hb] at hR
          have HP : Hid (pNum ((bytN s).drop A) A = .ok (M, (bytN s).drop (P + 1), P + 1)) := by
            show pNum _ _ = _
            unfold pNum
            rw [hR]
            have e1 : n + B * 128 ^ k = M := by rw [← hM, ← hT, ← hG, Nat.mod_eq_of_lt hb]
            simp only [e1, List.drop_drop]
            rw [show A + (k + 1) = P + 1 by omega]
          have HG : Hid (RdT E RB s w (fun (b : Nat) => .int .i64 (b : Int)) (pNum ((bytN s).drop A) A) (.returned (.int .i64 (M : Int))) (wr.setCell ⟨RB, 1, none⟩ (.int .i64 ((P + 1 : Nat) : Int)))) := by
            show RdT _ _ _ _ _ _ _ _
            rw [HP.out]
            exact ⟨rfl, (HOK.out _).1, (HOK.out _).2.1, (HOK.out _).2.2, by omega, rfl⟩
          have e2 : (B : Int) < 128 := by omega
          rcases hfree with k0 | ⟨k0, b0⟩
          · subst k0
            have hTG : T = G := by rw [← hT]; simp
            rw [hTG] at hor
            clear q hR HJ hn HP hlt hM1 HFR hTG
            go_wp2
            refine bodyPost_ret (by simp [results, Tryz.results87, go_sem, *]; try rfl) rfl ?_
            exact HG.out
          · have s3 : (0 : Int) < ((7 * k : Nat) : Int) := by omega
            have b1 : ((B : Int) == 0) = false := by simp; omega
            clear q hR HJ hn HP hlt hM1 HFR
            go_wp2
            refine bodyPost_ret (by simp [results, Tryz.results87, go_sem, *]; try rfl) rfl ?_
            exact HG.out
        · rw [if_neg hb, hG, hT, hM] at hR
          have hR' : numR ((bytN s).drop A) 0 0 = numR ((bytN s).drop (A + (k + 1))) (k + 1) M := by rw [hR, show A + (k + 1) = P + 1 by omega]
          have HQ : Hid (M < 128 ^ (k + 1) ∧ numR ((bytN s).drop A) 0 0 = numR ((bytN s).drop (A + (k + 1))) (k + 1) M) := ⟨hM1, hR'⟩
          have e2 : ¬ (B : Int) < 128 := by omega
          have hPk : P + 1 = A + (k + 1) := by omega
          rcases hfree with k0 | ⟨k0, b0⟩
          · subst k0
            have hTG : T = G := by rw [← hT]; simp
            rw [hTG] at hor
            clear q hR hR' HJ hn hM1 HFR hTG
            go_wp2
            go_roundw
            case rel => exact ⟨trivial, 1, M, by omega, by omega, rfl, by first | rfl | (go_num) | (simp), by first | (rw [← hPk]; go_num) | (simp; omega), HQ.out⟩
            case measure => simp [intOf]; omega
          · have s3 : (0 : Int) < ((7 * k : Nat) : Int) := by omega
            have b1 : ((B : Int) == 0) = false := by simp; omega
            clear q hR hR' HJ hn hM1 HFR
            go_wp2
            go_roundw
            case rel => exact ⟨trivial, k + 1, M, by omega, by omega, rfl, by first | rfl | (go_num) | (simp), by first | (rw [← hPk]; go_num) | (simp; omega), HQ.out⟩
            case measure => simp [intOf]; omega
    · have e1 : ¬ (P : Int) < (N : Int) := by omega
      rw [dropN_end (s := s) (A := P) (by omega), numR] at hR
      have HP : Hid (pNum ((bytN s).drop A) A = .error (242, A)) := by show pNum _ _ = _; unfold pNum; rw [hR]
      have HG : Hid (RdT E RB s w (fun (b : Nat) => .int .i64 (b : Int)) (pNum ((bytN s).drop A) A) (flt 242 A) wr) := by
        show RdT _ _ _ _ _ _ _ _
        rw [HP.out]
        exact ⟨rfl, HERR.out⟩
      unfold flt at HG
      clear hR HJ hn HP hlt
      go_wp2
      exact ⟨rfl, HG.out⟩

end Go.Proofs.YtnlgkkbmbijndaaGreat
/- Package code: the reader: count. -/
namespace Go.Proofs.YtnlgkkbmbijndaaGreat
open Go.RowKit
set_option linter.unusedVariables false
set_option linter.unusedSimpArgs false

set_option maxRecDepth 100000 in
set_option maxHeartbeats 4000000 in
theorem count_any (E RB : Nat) (s : ByteArray) (A most : Nat) (w : World) (h : RdM E RB s A w) (hA : A ≤ s.size) (hs : s.size ≤ 140737488355328) (hE : E ≤ w.heap.size) :
    Calls Tryz.prog 84 #[.pointer (some ⟨RB, 0, none⟩), .int .i64 (most : Int)] w (RdT E RB s w (fun (b : Nat) => .int .i64 (b : Int)) (pCount most ((bytN s).drop A) A)) := by
  have c1 := h.c1
  have KN := number_any E RB s A w h hA hs hE
  unfold pCount
  clear h
  cases hq : pNum ((bytN s).drop A) A with
  | error er =>
    obtain ⟨er, at_⟩ := er
    rw [hq] at KN
    have KN' := hidC KN
    unfold RdT flt at KN' ⊢
    simp only at KN' ⊢
    clear KN hq
    go_enter Tryz.func84, Tryz.ntmps84
    go_wp2_with (go_at_call 87; (with_reducible refine KN'.out.mono ?_); rintro e9 w4 ⟨rfl, hb4, ho4⟩; have HB4 := hidC hb4; have HO4 := hidC ho4; clear hb4 ho4)
    exact ⟨rfl, rfl, HB4.out, HO4.out⟩
  | ok r =>
    obtain ⟨n, l', A'⟩ := r
    rw [hq] at KN
    have KN' := hidC KN
    clear KN hq
    unfold RdT at KN'
    simp only at KN'
    by_cases q : most < n
    · have e1 : (most : Int) < (n : Int) := by omega
      have HG : Hid (∀ w', Below E w w' → RdO RB w w' → RdT E RB s w (fun (b : Nat) => Value.int .i64 (b : Int)) (.error (2, A)) (flt 2 A) w') := fun w' a b => ⟨rfl, a, b⟩
      unfold flt at HG
      simp only
      go_enter Tryz.func84, Tryz.ntmps84
      go_wp2_with (go_at_call 87; (with_reducible refine KN'.out.mono ?_); rintro e9 w4 ⟨rfl, hb4, ho4, hm4, hl4, hd4⟩; have HB4 := hidC hb4; have HO4 := hidC ho4; clear hb4 ho4 hm4 hl4 hd4)
      exact ⟨rfl, HG.out _ HB4.out HO4.out⟩
    · have e1 : ¬ (most : Int) < (n : Int) := by omega
      have HG : Hid (∀ w', Below E w w' → RdO RB w w' → RdM E RB s A' w' → A' ≤ s.size → l' = (bytN s).drop A' → RdT E RB s w (fun (b : Nat) => Value.int .i64 (b : Int)) (.ok (n, l', A')) (.returned (.int .i64 (n : Int))) w') := fun w' a b c d e => ⟨rfl, a, b, c, d, e⟩
      simp only
      go_enter Tryz.func84, Tryz.ntmps84
      go_wp2_with (go_at_call 87; (with_reducible refine KN'.out.mono ?_); rintro e9 w4 ⟨rfl, hb4, ho4, hm4, hl4, hd4⟩; have HR4 := hidC (HG.out _ hb4 ho4 hm4 hl4 hd4); clear hb4 ho4 hm4 hl4 hd4)
      refine bodyPost_ret (by simp [results, Tryz.results84, go_sem, *]; try rfl) rfl ?_
      exact HR4.out

end Go.Proofs.YtnlgkkbmbijndaaGreat
/- Package code: the reader: fixed, pattern. -/
namespace Go.Proofs.YtnlgkkbmbijndaaGreat
open Go.RowKit
set_option linter.unusedVariables false
set_option linter.unusedSimpArgs false

/-- A string's bytes in a row of their own. -/
theorem conv_bytes (t : ByteArray) (w : World) : ∃ g cap w', (convert 9 49 (.string t)).run Tryz.prog w = .ok (.slice (some ⟨g, 0, none⟩) t.size cap) w' ∧ Below w.heap.size w w' ∧ ∀ j (hj : j < t.size), w'.cell? ⟨g, j, none⟩ = some (.int .u8 (t[j].toNat : Int)) := by
  refine ⟨w.heap.size, _, _, Go.Lib.run_convert_string_bytes w _ _ 5 t Tryz.underlying9 Tryz.underlying49 Tryz.underlying5, ⟨rfl, rfl, rfl, ?_, fun k hk => Go.Lib.bytesWorld_at_old _ _ _ k hk⟩, fun j hj => ?_⟩
  · rw [Go.Lib.bytesWorld_size]; omega
  · rw [Go.Lib.bytesWorld_cell _ _ _ j hj]
    have hj' : j < t.data.size := hj
    have h9 : t.data.toList.getD j 0 = t[j] := by rw [List.getD, Array.getElem?_toList, Array.getElem?_eq_getElem hj']; rfl
    rw [h9]
theorem lowN_app : ∀ (l : List Nat) (b : Nat), lowN (l ++ [b]) = lowN l + 256 ^ l.length * b
  | [], b => by simp [lowN]
  | a :: l, b => by
    show a + 256 * lowN (l ++ [b]) = a + 256 * lowN l + 256 ^ (l.length + 1) * b
    rw [lowN_app l b, Nat.pow_succ, Nat.mul_add, Nat.add_assoc, Nat.mul_comm (256 ^ l.length) 256, Nat.mul_assoc]
theorem bo64u {x y : Nat} (hx : x < 2 ^ 64) (hy : y < 2 ^ 64) : bits .or .u64 (x : Int) (y : Int) = ((x ||| y : Nat) : Int) := by
  have h : (BitVec.ofInt 64 (x : Int) ||| BitVec.ofInt 64 (y : Int)).toNat = x ||| y := by
    rw [BitVec.toNat_or]
    simp only [BitVec.ofInt_natCast, BitVec.toNat_ofNat]
    rw [Nat.mod_eq_of_lt hx, Nat.mod_eq_of_lt hy]
  have h2 : x ||| y < 2 ^ 64 := Nat.or_lt_two_pow hx hy
  show IntKind.u64.wrap (((BitVec.ofInt 64 (x : Int) ||| BitVec.ofInt 64 (y : Int)).toNat : Nat) : Int) = _
  rw [h]
  unfold IntKind.wrap
  simp [IntKind.signed, IntKind.bits]
  omega
theorem or_byte {n g k : Nat} (hn : n < 256 ^ k) : n ||| g * 256 ^ k = n + 256 ^ k * g := by
  have e : (256 : Nat) ^ k = 2 ^ (8 * k) := by rw [Nat.pow_mul]
  rw [e] at hn ⊢
  rw [Nat.or_comm, Nat.mul_comm g, ← Nat.two_pow_add_eq_or_of_lt hn, Nat.add_comm]
theorem bytN_ext (s : ByteArray) (A n : Nat) : bytN (s.extract A (A + n)) = ((bytN s).drop A).take n := by
  unfold bytN
  rw [ByteArray.data_extract, Array.toList_extract]
  simp [List.extract, List.map_take, List.map_drop]

set_option maxRecDepth 100000 in
set_option maxHeartbeats 8000000 in
theorem fixed_any (E RB : Nat) (s : ByteArray) (A c : Nat) (hc8 : c ≤ 8) (w : World) (h : RdM E RB s A w) (hA : A ≤ s.size) (hs : s.size ≤ 140737488355328) (hE : E ≤ w.heap.size) :
    Calls Tryz.prog 58 #[.pointer (some ⟨RB, 0, none⟩), .int .i64 (c : Int)] w (RdT E RB s w (fun (b : Nat) => .int .u64 (b : Int)) (pFix c ((bytN s).drop A) A)) := by
  by_cases hlt : s.size < A + c
  · have KT : Hid (Calls Tryz.prog 83 #[.pointer (some ⟨RB, 0, none⟩), .int .i64 (c : Int)] w fun e w' => e = flt 242 A ∧ Below w.heap.size w w') := take_cut E RB s A c w h hA hs (by omega) hlt
    have HP : Hid (pFix c ((bytN s).drop A) A = .error (242, A)) := by
      show pFix _ _ _ = _
      unfold pFix pBind pTake
      rw [if_pos (by rw [List.length_drop, bytN_len]; omega)]
    rw [HP.out]
    have HEW := hidC hE
    unfold RdT flt
    unfold flt at KT
    simp only
    clear h hlt HP
    go_enter Tryz.func58, Tryz.ntmps58
    go_wp2_with (go_at_call 83; (with_reducible refine KT.out.mono ?_); rintro e9 w4 ⟨rfl, hb4⟩; have HB4 := hidC hb4; clear hb4)
    exact ⟨rfl, rfl, HB4.out.mono HEW.out, RdO.of HB4.out⟩
  · obtain ⟨t, ht⟩ : ∃ t, s.extract A (A + c) = t := ⟨_, rfl⟩
    have KT := take_ok E RB s A c w h hs (by omega) hE
    rw [ht] at KT
    have KT' := hidC KT
    have htb : bytN t = ((bytN s).drop A).take c := by rw [← ht, bytN_ext]
    have hsz : t.size = c := by rw [← bytN_len, htb, List.length_take, List.length_drop, bytN_len]; omega
    have HP : Hid (pFix c ((bytN s).drop A) A = .ok (lowN (bytN t), (bytN s).drop (A + c), A + c)) := by
      show pFix _ _ _ = _
      unfold pFix pBind pTake pPure
      rw [if_neg (by rw [List.length_drop, bytN_len]; omega)]
      simp only [htb, List.drop_drop]
    rw [HP.out]
    have HFIN : Hid (∀ (e : Ending) (w' : World), e = .returned (.int .u64 ((lowN (bytN t) : Nat) : Int)) → Below E w w' → RdO RB w w' → RdM E RB s (A + c) w' → RdT E RB s w (fun (b : Nat) => Value.int .u64 (b : Int)) (.ok (lowN (bytN t), (bytN s).drop (A + c), A + c)) e w') := fun e w' a b c' d => ⟨a, b, c', d, by omega, rfl⟩
    have HBT := hidC (bytN_lt t)
    have HTL : Hid ((bytN t).length = c) := by show _ = _; rw [bytN_len]; exact hsz
    have HAT : Hid (∀ j (hj : j < t.size), (bytN t).take (j + 1) = (bytN t).take j ++ [t[j].toNat]) := fun j hj => by
      have h1 : j < (bytN t).length := by rw [bytN_len]; exact hj
      rw [List.take_succ_eq_append_getElem h1]
      congr 2
      simp [bytN]
      rfl
    have KCV := hidC (conv_bytes t)
    have HSZ := hidC hsz
    clear h hlt HP htb ht KT hsz
    go_enter Tryz.func58, Tryz.ntmps58
    go_upto_block 0 with (go_at_call 83; (with_reducible refine KT'.out.mono ?_); rintro e9 w4 ⟨rfl, hb4, hm4, ho4⟩; have HB4 := hidC hb4; have HM4 := hidC hm4; have HO4 := hidC ho4; clear hb4 hm4 ho4; obtain ⟨g, cap, w5, hr5, hb5, hc5⟩ := KCV.out w4; rw [HSZ.out] at hr5; have HB5 := hidC hb5; have HC5 := hidC hc5; clear hb5 hc5)
    have HR : Hid (Below E w w5 ∧ RdO RB w w5 ∧ RdM E RB s (A + c) w5) := ⟨HB4.out.trans (HB5.out.mono (Nat.le_trans hE HO4.out.1)), HO4.out.trans (RdO.of HB5.out), HM4.out.below HB5.out⟩
    clear hr5 HB4 HM4 HO4 HB5 KCV KT' hE hA hs
    go_wp2_with fail
    go_loopw [5, 13] (fun nv iv wx => wx = w5 ∧ ∃ j n : Nat, j ≤ c ∧ iv = .int .i64 (j : Int) ∧ nv = .int .u64 (n : Int) ∧ Hid (n = lowN ((bytN t).take j))) (fun _ iv _ => c - (intOf iv).toNat)
    case atStart => exact ⟨rfl, 0, 0, Nat.zero_le _, rfl, rfl, rfl⟩
    case round =>
      obtain ⟨rfl, j, n, hj, rfl, rfl, HN⟩ := hrel
      by_cases hlt : j < c
      · have e1 : (j : Int) < (c : Int) := by omega
        have i1 : (0 : Int) ≤ (j : Int) := by omega
        have hjt : j < t.size := by rw [HSZ.out]; exact hlt
        have c5 := HC5.out j hjt
        have hA1 := HAT.out j hjt
        obtain ⟨B, hB⟩ : ∃ B, t[j].toNat = B := ⟨_, rfl⟩
        have hB2 : B < 256 := by rw [← hB]; exact t[j].toNat_lt
        rw [hB] at c5 hA1
        have hln : ((bytN t).take j).length = j := by rw [List.length_take, HTL.out]; omega
        have hn : n < 256 ^ j := by
          have h9 := lowN_lt ((bytN t).take j) (fun b hb => HBT.out b (List.mem_of_mem_take hb))
          rw [hln, ← HN.out] at h9
          exact h9
        have hpw : 256 ^ j * 256 ≤ 2 ^ 64 := by
          rw [← Nat.pow_succ, show (2 : Nat) ^ 64 = 256 ^ 8 by decide]
          exact Nat.pow_le_pow_right (by decide) (by omega)
        obtain ⟨T, hT⟩ : ∃ T, B * 256 ^ j = T := ⟨_, rfl⟩
        have hT1 : T < 2 ^ 64 := by
          have h9 : (B + 1) * 256 ^ j ≤ 256 * 256 ^ j := Nat.mul_le_mul_right _ (by omega)
          rw [Nat.add_mul, hT] at h9
          have h8 : 0 < 256 ^ j := Nat.pow_pos (by decide)
          omega
        obtain ⟨M, hM⟩ : ∃ M, n + 256 ^ j * B = M := ⟨_, rfl⟩
        have hor : bits .or .u64 (n : Int) (T : Int) = (M : Int) := by rw [bo64u (by omega) hT1, ← hT, or_byte hn, hM]
        have HM2 : Hid (M = lowN ((bytN t).take (j + 1))) := by show M = _; rw [hA1, lowN_app, hln, ← HN.out, hM]
        have t2 : IntKind.u64.wrap (B : Int) = (B : Int) := by unfold IntKind.wrap; simp [IntKind.signed, IntKind.bits]; omega
        have w8 : IntKind.i64.wrap (8 * (j : Int)) = ((8 * j : Nat) : Int) := by rw [IntKind.wrap_i64]; omega
        have hsh : (B : Int) * 2 ^ (8 * j) = (T : Int) := by
          rw [← hT, show (256 : Nat) ^ j = 2 ^ (8 * j) by rw [Nat.pow_mul], Int.natCast_mul, Int.natCast_pow]
          rfl
        have t3 : IntKind.u64.wrap (T : Int) = (T : Int) := by unfold IntKind.wrap; simp [IntKind.signed, IntKind.bits]; omega
        have s4 : (0 : Int) ≤ ((8 * j : Nat) : Int) := by omega
        have wj : IntKind.i64.wrap ((j : Int) + 1) = ((j + 1 : Nat) : Int) := by rw [IntKind.wrap_i64]; omega
        clear hA1 hB hln hn hpw hT hM HN HAT HC5 HTL HBT HR HFIN HSZ
        go_wp2
        go_roundw
        case rel => exact ⟨trivial, j + 1, M, by omega, by go_num, by first | rfl | simp, HM2.out⟩
        case measure => simp [intOf]; omega
      · have e1 : ¬ (j : Int) < (c : Int) := by omega
        have hjc : c = j := by omega
        have HF := hidC (HFIN.out _ _ rfl HR.out.1 HR.out.2.1 HR.out.2.2)
        have HNN : Hid (lowN (bytN t) = n) := by show _ = _; rw [HN.out, ← hjc, ← HTL.out, List.take_length]
        rw [HNN.out] at HF
        clear hjc
        go_wp2
        refine bodyPost_ret (by simp [results, Tryz.results58, go_sem, *]; try rfl) rfl ?_
        rw [HNN.out]
        exact HF.out

set_option maxRecDepth 100000 in
set_option maxHeartbeats 4000000 in
theorem pattern_any (E RB : Nat) (s : ByteArray) (A : Nat) (w : World) (h : RdM E RB s A w) (hA : A ≤ s.size) (hs : s.size ≤ 140737488355328) (hE : E ≤ w.heap.size) :
    Calls Tryz.prog 88 #[.pointer (some ⟨RB, 0, none⟩)] w (RdT E RB s w (fun (b : Nat) => .int .u32 (b : Int)) (pFix 4 ((bytN s).drop A) A)) := by
  have KN : Calls Tryz.prog 58 #[.pointer (some ⟨RB, 0, none⟩), .int .i64 4] w (RdT E RB s w (fun (b : Nat) => .int .u64 (b : Int)) (pFix 4 ((bytN s).drop A) A)) := fixed_any E RB s A 4 (by decide) w h hA hs hE
  have hbw := (rt_fix 4).bw ((bytN s).drop A) A
  clear h
  cases hq : pFix 4 ((bytN s).drop A) A with
  | error er =>
    obtain ⟨er, at_⟩ := er
    rw [hq] at KN
    have KN' := hidC KN
    unfold RdT flt at KN' ⊢
    simp only at KN' ⊢
    clear KN hq hbw
    go_enter Tryz.func88, Tryz.ntmps88
    go_wp2_with (go_at_call 58; (with_reducible refine KN'.out.mono ?_); rintro e9 w4 ⟨rfl, hb4, ho4⟩; have HB4 := hidC hb4; have HO4 := hidC ho4; clear hb4 ho4)
    exact ⟨rfl, rfl, HB4.out, HO4.out⟩
  | ok r =>
    obtain ⟨n, l', A'⟩ := r
    have hn : n < 256 ^ 4 := (hbw n l' A' (fun b hx => bytN_lt s b (List.mem_of_mem_drop hx)) hq).2.2
    have wn : IntKind.u32.wrap (n : Int) = (n : Int) := by unfold IntKind.wrap; simp [IntKind.signed, IntKind.bits]; omega
    rw [hq] at KN
    have KN' := hidC KN
    clear KN hq hbw hn
    unfold RdT at KN'
    simp only at KN'
    have HG : Hid (∀ w', Below E w w' → RdO RB w w' → RdM E RB s A' w' → A' ≤ s.size → l' = (bytN s).drop A' → RdT E RB s w (fun (b : Nat) => Value.int .u32 (b : Int)) (.ok (n, l', A')) (.returned (.int .u32 (n : Int))) w') := fun w' a b c d e => ⟨rfl, a, b, c, d, e⟩
    go_enter Tryz.func88, Tryz.ntmps88
    go_wp2_with (go_at_call 58; (with_reducible refine KN'.out.mono ?_); rintro e9 w4 ⟨rfl, hb4, ho4, hm4, hl4, hd4⟩; have HR4 := hidC (HG.out _ hb4 ho4 hm4 hl4 hd4); clear hb4 ho4 hm4 hl4 hd4)
    refine bodyPost_ret (by simp [results, Tryz.results88, go_sem, *]; try rfl) rfl ?_
    exact HR4.out

end Go.Proofs.YtnlgkkbmbijndaaGreat
