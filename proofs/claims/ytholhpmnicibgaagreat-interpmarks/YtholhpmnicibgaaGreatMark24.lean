import Derived.Test.YtholhpmnicibgaaGreatMark1
import Derived.Test.YtholhpmnicibgaaGreatMark23
/- Package interp: newFrame. -/
namespace Go.Proofs.YtholhpmnicibgaaGreat
open Go.RowKit
set_option linter.unusedVariables false
set_option linter.unusedSimpArgs false

def frV (C : Nat) (sv nv wv mv gv pv uv : Value) : Nat → Value
  | 0 => .pointer (some ⟨C, 0, none⟩)
  | 1 => sv
  | 2 => nv
  | 3 => wv
  | 4 => mv
  | 5 => gv
  | 6 => pv
  | _ => uv
/-- The frame, its numbers and its whole numbers are made. -/
structure F2 (w V : World) (FR NB WB n C : Nat) (sv gv pv : Value) : Prop where
  row : V.rowIs FR 95 8 (frV C sv (.slice (some ⟨NB, 0, none⟩) n n) (.slice (some ⟨WB, 0, none⟩) n n) (.map none) gv pv (.slice none 0 0))
  nb : V.rowIs NB 43 n (fun _ => .int .u32 0)
  wb : V.rowIs WB 3 n (fun _ => .int .i64 0)
  bel : Below w.heap.size w V
  fr : w.heap.size = FR
  size : V.heap.size = FR + 3
  n1 : FR < NB
  n2 : FR < WB
  n3 : NB < FR + 3
  n4 : WB < FR + 3
  n5 : NB ≠ WB
section
variable {w W1 : World} {FR n C : Nat} {sv gv pv : Value}
theorem F2_a (hb : Below w.heap.size w W1) (hr : W1.rowIs FR 95 8 (frV C sv (.slice none 0 0) (.slice none 0 0) (.map none) gv pv (.slice none 0 0))) (hs : W1.heap.size = FR + 1) (hf : w.heap.size = FR) :
    F2 w ((((W1.alloc (.cells (madeCells #[.int .u32 0] n) 43)).alloc (.cells (madeCells #[.int .i64 0] n) 3)).setCell ⟨FR, 2, none⟩ (.slice (some ⟨W1.heap.size, 0, none⟩) n n)).setCell ⟨FR, 3, none⟩ (.slice (some ⟨W1.heap.size + 1, 0, none⟩) n n)).drew FR W1.heap.size (W1.heap.size + 1) n C sv gv pv := by
  have h1 := World.rowIs_made W1 (.int .u32 0) n 43
  have h2 := World.rowIs_made (W1.alloc (.cells (madeCells #[.int .u32 0] n) 43)) (.int .i64 0) n 3
  rw [show (W1.alloc (.cells (madeCells #[.int .u32 0] n) 43)).heap.size = W1.heap.size + 1 by simp] at h2
  refine ⟨World.rowIs.drew (((((hr.alloc _).alloc _).set 2 _).set 3 _).congr fun j hj => ?_), World.rowIs.drew (((h1.alloc _).setOther (by show W1.heap.size ≠ FR; omega) _).setOther (by show W1.heap.size ≠ FR; omega) _), World.rowIs.drew ((h2.setOther (by show W1.heap.size + 1 ≠ FR; omega) _).setOther (by show W1.heap.size + 1 ≠ FR; omega) _), ?_, hf, by simp [World.setCell]; omega, by omega, by omega, by omega, by omega, by omega⟩
  · obtain rfl | rfl | rfl | rfl | rfl | rfl | rfl | rfl : j = 0 ∨ j = 1 ∨ j = 2 ∨ j = 3 ∨ j = 4 ∨ j = 5 ∨ j = 6 ∨ j = 7 := by omega
    all_goals rfl
  · exact Below.drew ((((hb.alloc (by omega) _).alloc (by simp; omega) _).setCell (by show w.heap.size ≤ FR; omega) _).setCell (by show w.heap.size ≤ FR; omega) _)
theorem F2_b (hb : Below w.heap.size w W1) (hr : W1.rowIs FR 95 8 (frV C sv (.slice none 0 0) (.slice none 0 0) (.map none) gv pv (.slice none 0 0))) (hs : W1.heap.size = FR + 1) (hf : w.heap.size = FR) :
    F2 w ((((W1.alloc (.cells (madeCells #[.int .u32 0] n) 43)).setCell ⟨FR, 2, none⟩ (.slice (some ⟨W1.heap.size, 0, none⟩) n n)).alloc (.cells (madeCells #[.int .i64 0] n) 3)).setCell ⟨FR, 3, none⟩ (.slice (some ⟨W1.heap.size + 1, 0, none⟩) n n)).drew FR W1.heap.size (W1.heap.size + 1) n C sv gv pv := by
  have h1 := World.rowIs_made W1 (.int .u32 0) n 43
  have h2 := World.rowIs_made ((W1.alloc (.cells (madeCells #[.int .u32 0] n) 43)).setCell ⟨FR, 2, none⟩ (.slice (some ⟨W1.heap.size, 0, none⟩) n n)) (.int .i64 0) n 3
  rw [show ((W1.alloc (.cells (madeCells #[.int .u32 0] n) 43)).setCell ⟨FR, 2, none⟩ (.slice (some ⟨W1.heap.size, 0, none⟩) n n)).heap.size = W1.heap.size + 1 by simp [World.setCell]] at h2
  refine ⟨World.rowIs.drew (((((hr.alloc _).set 2 _).alloc _).set 3 _).congr fun j hj => ?_), World.rowIs.drew (((h1.setOther (by show W1.heap.size ≠ FR; omega) _).alloc _).setOther (by show W1.heap.size ≠ FR; omega) _), World.rowIs.drew (h2.setOther (by show W1.heap.size + 1 ≠ FR; omega) _), ?_, hf, by simp [World.setCell]; omega, by omega, by omega, by omega, by omega, by omega⟩
  · obtain rfl | rfl | rfl | rfl | rfl | rfl | rfl | rfl : j = 0 ∨ j = 1 ∨ j = 2 ∨ j = 3 ∨ j = 4 ∨ j = 5 ∨ j = 6 ∨ j = 7 := by omega
    all_goals rfl
  · exact Below.drew ((((hb.alloc (by omega) _).setCell (by show w.heap.size ≤ FR; omega) _).alloc (by simp [World.setCell]; omega) _).setCell (by show w.heap.size ≤ FR; omega) _)
theorem F2_c (hb : Below w.heap.size w W1) (hr : W1.rowIs FR 95 8 (frV C sv (.slice none 0 0) (.slice none 0 0) (.map none) gv pv (.slice none 0 0))) (hs : W1.heap.size = FR + 1) (hf : w.heap.size = FR) :
    F2 w ((((W1.alloc (.cells (madeCells #[.int .i64 0] n) 3)).alloc (.cells (madeCells #[.int .u32 0] n) 43)).setCell ⟨FR, 2, none⟩ (.slice (some ⟨W1.heap.size + 1, 0, none⟩) n n)).setCell ⟨FR, 3, none⟩ (.slice (some ⟨W1.heap.size, 0, none⟩) n n)).drew FR (W1.heap.size + 1) W1.heap.size n C sv gv pv := by
  have h1 := World.rowIs_made W1 (.int .i64 0) n 3
  have h2 := World.rowIs_made (W1.alloc (.cells (madeCells #[.int .i64 0] n) 3)) (.int .u32 0) n 43
  rw [show (W1.alloc (.cells (madeCells #[.int .i64 0] n) 3)).heap.size = W1.heap.size + 1 by simp] at h2
  refine ⟨World.rowIs.drew (((((hr.alloc _).alloc _).set 2 _).set 3 _).congr fun j hj => ?_), World.rowIs.drew ((h2.setOther (by show W1.heap.size + 1 ≠ FR; omega) _).setOther (by show W1.heap.size + 1 ≠ FR; omega) _), World.rowIs.drew (((h1.alloc _).setOther (by show W1.heap.size ≠ FR; omega) _).setOther (by show W1.heap.size ≠ FR; omega) _), ?_, hf, by simp [World.setCell]; omega, by omega, by omega, by omega, by omega, by omega⟩
  · obtain rfl | rfl | rfl | rfl | rfl | rfl | rfl | rfl : j = 0 ∨ j = 1 ∨ j = 2 ∨ j = 3 ∨ j = 4 ∨ j = 5 ∨ j = 6 ∨ j = 7 := by omega
    all_goals rfl
  · exact Below.drew ((((hb.alloc (by omega) _).alloc (by simp; omega) _).setCell (by show w.heap.size ≤ FR; omega) _).setCell (by show w.heap.size ≤ FR; omega) _)
/-- The map and the updates' row are made too. -/
structure F3 (w V : World) (FR NB WB MB UB n k C : Nat) (sv gv pv : Value) : Prop where
  row : V.rowIs FR 95 8 (frV C sv (.slice (some ⟨NB, 0, none⟩) n n) (.slice (some ⟨WB, 0, none⟩) n n) (.map (some MB)) gv pv (.slice (some ⟨UB, 0, none⟩) k k))
  nb : V.rowIs NB 43 n (fun _ => .int .u32 0)
  wb : V.rowIs WB 3 n (fun _ => .int .i64 0)
  mb : MapI V MB 0 (fun _ => none)
  ub : V.rowIs UB 57 k (fun _ => .slice none 0 0)
  bel : Below w.heap.size w V
  fr : w.heap.size = FR
  size : V.heap.size = FR + 5
  n1 : FR < NB
  n2 : FR < WB
  n3 : NB < FR + 3
  n4 : WB < FR + 3
  n5 : NB ≠ WB
  n6 : MB = FR + 3
  n7 : UB = FR + 4
theorem F2.three {V : World} {NB WB : Nat} (h : F2 w V FR NB WB n C sv gv pv) (k : Nat) :
    F3 w ((((V.alloc (.map #[] 0)).setCell ⟨FR, 4, none⟩ (.map (some V.heap.size))).alloc (.cells (madeCells #[.slice none 0 0] k) 57)).setCell ⟨FR, 7, none⟩ (.slice (some ⟨V.heap.size + 1, 0, none⟩) k k)) FR NB WB V.heap.size (V.heap.size + 1) n k C sv gv pv := by
  have hs := h.size
  have e1 := h.n1
  have e2 := h.n2
  have e3 := h.n3
  have e4 := h.n4
  have hf := h.fr
  have hm : MapI (V.alloc (.map #[] 0)) V.heap.size 0 (fun _ => none) := MapI.new V
  have h2 := World.rowIs_made ((V.alloc (.map #[] 0)).setCell ⟨FR, 4, none⟩ (.map (some V.heap.size))) (.slice none 0 0) k 57
  rw [show ((V.alloc (.map #[] 0)).setCell ⟨FR, 4, none⟩ (.map (some V.heap.size))).heap.size = V.heap.size + 1 by simp [World.setCell]] at h2
  refine ⟨((((h.row.alloc _).set 4 _).alloc _).set 7 _).congr fun j hj => ?_, (((h.nb.alloc _).setOther (by show NB ≠ FR; omega) _).alloc _).setOther (by show NB ≠ FR; omega) _, (((h.wb.alloc _).setOther (by show WB ≠ FR; omega) _).alloc _).setOther (by show WB ≠ FR; omega) _, ?_, h2.setOther (by show V.heap.size + 1 ≠ FR; omega) _, ?_, hf, by simp [World.setCell]; omega, e1, e2, e3, e4, h.n5, hs, by omega⟩
  · obtain rfl | rfl | rfl | rfl | rfl | rfl | rfl | rfl : j = 0 ∨ j = 1 ∨ j = 2 ∨ j = 3 ∨ j = 4 ∨ j = 5 ∨ j = 6 ∨ j = 7 := by omega
    all_goals rfl
  · refine MapI.block ?_ (Below.heap_setCell _ _ _ _ (by show V.heap.size ≠ FR; omega))
    refine MapI.below ?_ (bel_alloc _ _)
    exact hm.block (Below.heap_setCell _ _ _ _ (by show V.heap.size ≠ FR; omega))
  · exact (((h.bel.alloc (by omega) _).setCell (by show w.heap.size ≤ FR; omega) _).alloc (by simp [World.setCell]; omega) _).setCell (by show w.heap.size ≤ FR; omega) _
end

/-- The updates so far. -/
structure NFI (V wr : World) (FR UB k : Nat) (c : Cd) (j : Nat) (ub : Nat → Nat) : Prop where
  un : Un (fun b => b = UB) V wr
  row : wr.rowIs UB 57 k (fun p => if p < j then .slice (some ⟨ub p, 0, none⟩) (numAt c p) (numAt c p) else .slice none 0 0)
  rows : ∀ p, p < j → wr.rowIs (ub p) 43 (numAt c p) (fun _ => .int .u32 0)
  bd : ∀ p, p < j → FR + 5 ≤ ub p ∧ ub p < wr.heap.size
  inj : ∀ p q, p < j → q < j → ub p = ub q → p = q
theorem NFI.next {V wr v2 : World} {FR UB k : Nat} {c : Cd} {j : Nat} {ub : Nat → Nat} (h : NFI V wr FR UB k c j ub) (hV : FR + 5 ≤ V.heap.size) (hU : UB < FR + 5) (hb : Below wr.heap.size wr v2) :
    NFI V ((v2.alloc (.cells (madeCells #[.int .u32 0] (numAt c j)) 43)).setCell ⟨UB, j, none⟩ (.slice (some ⟨v2.heap.size, 0, none⟩) (numAt c j) (numAt c j))) FR UB k c (j + 1) (fun p => if p = j then v2.heap.size else ub p) := by
  have hs := h.un.size
  have hs2 := hb.size
  have hb2 : Below wr.heap.size wr (v2.alloc (.cells (madeCells #[.int .u32 0] (numAt c j)) 43)) := bel hb (bel_alloc _ _)
  have hr := h.row.of_block (hb2.block _ h.row.lt)
  refine ⟨h.un.trans ((Un.of hb2).setCell (p := ⟨UB, j, none⟩) (by rfl) _), (hr.set j _).congr fun p hp => ?_, fun p hp => ?_, fun p hp => ?_, fun p q hp hq e => ?_⟩
  · by_cases e : p = j
    · subst e; rw [if_pos rfl, if_pos (by omega), if_pos rfl]
    · rw [if_neg e]
      by_cases e2 : p < j
      · rw [if_pos e2, if_pos (by omega), if_neg e]
      · rw [if_neg e2, if_neg (by omega)]
  · by_cases e : p = j
    · subst e
      rw [if_pos rfl]
      exact (World.rowIs_made v2 (.int .u32 0) (numAt c p) 43).setOther (by show v2.heap.size ≠ UB; omega) _
    · rw [if_neg e]
      have hq := h.bd p (by omega)
      have hr2 := h.rows p (by omega)
      exact (hr2.of_block (hb2.block _ hr2.lt)).setOther (by show ub p ≠ UB; omega) _
  · have hz : ((v2.alloc (.cells (madeCells #[.int .u32 0] (numAt c j)) 43)).setCell ⟨UB, j, none⟩ (.slice (some ⟨v2.heap.size, 0, none⟩) (numAt c j) (numAt c j))).heap.size = v2.heap.size + 1 := by simp [World.setCell]
    rw [hz]
    by_cases e : p = j
    · rw [if_pos e]; omega
    · rw [if_neg e]
      have hq := h.bd p (by omega)
      omega
  · by_cases e1 : p = j
    · by_cases e2 : q = j
      · omega
      · rw [if_pos e1, if_neg e2] at e
        have := h.bd q (by omega)
        omega
    · by_cases e2 : q = j
      · rw [if_neg e1, if_pos e2] at e
        have := h.bd p (by omega)
        omega
      · rw [if_neg e1, if_neg e2] at e
        exact h.inj p q (by omega) (by omega) e
theorem make_I (m : Nat) (h : m ≤ 17592186044416) (w : World) : (Instr.makeSlice 84 (.int .i64 m) (.int .i64 m)).run Tryz.prog w = .ok (.slice (some ⟨w.heap.size, 0, none⟩) m m) (w.alloc (.cells (madeCells #[.int .i64 0] m) 3)) :=
  run_make_row' (P := Tryz.prog) 84 3 (.int .i64 0) 8 Tryz.underlying84 info_Int rfl .i64 .i64 m (by omega) (by omega) w
theorem make_L (m : Nat) (h : m ≤ 1759218604441) (w : World) : (Instr.makeSlice 47 (.int .i64 m) (.int .i64 m)).run Tryz.prog w = .ok (.slice (some ⟨w.heap.size, 0, none⟩) m m) (w.alloc (.cells (madeCells #[.slice none 0 0] m) 57)) :=
  run_make_row' (P := Tryz.prog) 47 57 (.slice none 0 0) 24 Tryz.underlying47 info_LF rfl .i64 .i64 m (by omega) (by omega) w

theorem newFrame_end {T : Nat → Prop} {B : Nat} {w V wr : World} {R : Nat} {a : Lay} {X : Nat → Value} {c : Cd} {l : List Hd} (h : RunAt T B w R a X c l) (hg : Good c) (hT : ∀ b, T b → b < w.heap.size) {gp pp : Option Addr} {gq pq gl pl : Nat} {G P : List (List Int)} (hgv : VsT T w (.slice gp G.length gq) G) (hpv : VsT T w (.slice pp P.length pq) P) {N0 N1 N2 C sc : Nat} {sp : Option Addr} (he : c.sign.length = N0 ∧ c.regs.length = N1 ∧ c.slots.length = N2 ∧ a.C = C ∧ a.sp = sp ∧ a.sc = sc ∧ G.length = gl ∧ P.length = pl) {FR NB WB MB UB : Nat} {ub : Nat → Nat}
    (f3 : F3 w V FR NB WB MB UB N1 N0 C (.slice sp N2 sc) (.slice gp gl gq) (.slice pp pl pq)) (nf : NFI V wr FR UB N0 c N0 ub) (hbw : Below w.heap.size w wr) (hrF : wr.rowIs FR 95 8 (frV C (.slice sp N2 sc) (.slice (some ⟨NB, 0, none⟩) N1 N1) (.slice (some ⟨WB, 0, none⟩) N1 N1) (.map (some MB)) (.slice gp gl gq) (.slice pp pl pq) (.slice (some ⟨UB, 0, none⟩) N0 N0))) :
    ∃ FR' NB WB MB UB ub E', Ending.returned (.pointer (some ⟨FR, 0, none⟩)) = .returned (.pointer (some ⟨FR', 0, none⟩)) ∧ FX T w.heap.size E' { a with FR := FR', NB := NB, WB := WB, MB := MB, UB := UB, ub := ub, gv := .slice gp gl gq, pv := .slice pp pl pq } c G P wr ∧ FV T w.heap.size E' { a with FR := FR', NB := NB, WB := WB, MB := MB, UB := UB, ub := ub, gv := .slice gp gl gq, pv := .slice pp pl pq } c wr X 0 (fun _ => none) ⟨fun _ => 0, fun _ => 0, fun _ => [], l, fun _ _ => 0⟩ ∧ Below w.heap.size w wr := by
  obtain ⟨e0, e1, e2, e3, e4, e5, e6, e7⟩ := he
  have hfr := f3.fr
  have hsz := f3.size
  have n1 := f3.n1
  have n2 := f3.n2
  have n3 := f3.n3
  have n4 := f3.n4
  have n5 := f3.n5
  have n6 := f3.n6
  have n7 := f3.n7
  have hszr := nf.un.size
  have hmut : ∀ b, b < w.heap.size → mutT T w.heap.size wr.heap.size b → T b := fun b hb e => e.elim id fun k => by omega
  refine ⟨FR, NB, WB, MB, UB, ub, wr.heap.size, rfl, ?_, ?_, hbw⟩
  · have hcode := (h.code.mono hmut).below hbw
    refine ⟨hbw.size, Nat.le_refl _, hT, h.hS, ⟨hcode.hC, hcode.ltC, hcode.cells, hcode.sign, hcode.regs, hcode.slots, hcode.list⟩, ?_, ?_, ?_, ?_, by show w.heap.size ≤ FR ∧ FR < wr.heap.size; omega, by show w.heap.size ≤ NB ∧ NB < wr.heap.size; omega, by show w.heap.size ≤ WB ∧ WB < wr.heap.size; omega, by show w.heap.size ≤ MB ∧ MB < wr.heap.size; omega, by show w.heap.size ≤ UB ∧ UB < wr.heap.size; omega, fun p hp => ?_, ?_, fun p hp => ?_, fun p q hp hq e => ?_⟩
    · have := (hgv.mono hmut).below hbw
      rw [e6] at this
      exact this
    · have := (hpv.mono hmut).below hbw
      rw [e7] at this
      exact this
    · intro j hj
      have hj' : j < 8 := hj
      have hc := hrF.cell hj'
      show wr.cell? ⟨FR, 0 + j, none⟩ = _
      rw [Nat.zero_add, hc]
      rw [← e0, ← e1, ← e2, ← e3, ← e4, ← e5]
      obtain rfl | rfl | rfl | rfl | rfl | rfl | rfl | rfl : j = 0 ∨ j = 1 ∨ j = 2 ∨ j = 3 ∨ j = 4 ∨ j = 5 ∨ j = 6 ∨ j = 7 := by omega
      all_goals rfl
    · show wr.rowIs UB _ c.sign.length _
      rw [e0]
      exact nf.row.congr fun p hp => by rw [if_pos hp]
    · have := nf.bd p (by omega)
      show w.heap.size ≤ ub p ∧ ub p < wr.heap.size
      omega
    · show FR ≠ NB ∧ FR ≠ WB ∧ FR ≠ MB ∧ FR ≠ UB ∧ NB ≠ WB ∧ NB ≠ MB ∧ NB ≠ UB ∧ WB ≠ MB ∧ WB ≠ UB ∧ MB ≠ UB
      omega
    · have := nf.bd p (by omega)
      show ub p ≠ FR ∧ ub p ≠ NB ∧ ub p ≠ WB ∧ ub p ≠ MB ∧ ub p ≠ UB
      omega
    · exact nf.inj p q (by omega) (by omega) e
  · have hblk : ∀ b, b < V.heap.size → b ≠ UB → wr.heap[b]? = V.heap[b]? := fun b hb hne => nf.un.block b hb hne
    refine ⟨?_, ?_, f3.mb.block (hblk _ f3.mb.lt (by omega)), fun r hr => Pt.nil _ _ _ _, fun p hp => nf.rows p (by omega), ?_, h.len⟩
    · show wr.rowIs NB _ c.regs.length _
      rw [e1]
      exact f3.nb.of_block (hblk _ f3.nb.lt (by omega))
    · show wr.rowIs WB _ c.regs.length _
      rw [e1]
      exact f3.wb.of_block (hblk _ f3.wb.lt (by omega))
    · have hs := (h.slots.mono hmut).below hbw
      exact ⟨hs.row, hs.sp, hs.le, hs.whole, hs.pats⟩

set_option maxRecDepth 100000 in
set_option maxHeartbeats 8000000 in
theorem newFrame_any {T : Nat → Prop} {B : Nat} (w : World) (R : Nat) (a : Lay) (X : Nat → Value) (c : Cd) (l : List Hd) (h : RunAt T B w R a X c l) (hg : Good c) (hT : ∀ b, T b → b < w.heap.size) (hnm : ∀ p ∈ c.sign, p.name.size ≤ 140737488351232) (gv pv : Value) (G P : List (List Int)) (hgv : VsT T w gv G) (hpv : VsT T w pv P) :
    Calls Tryz.prog 29 #[.pointer (some ⟨R, 0, none⟩), gv, pv] w fun e w' => ∃ FR NB WB MB UB ub E', e = .returned (.pointer (some ⟨FR, 0, none⟩)) ∧ FX T w.heap.size E' { a with FR := FR, NB := NB, WB := WB, MB := MB, UB := UB, ub := ub, gv := gv, pv := pv } c G P w' ∧ FV T w.heap.size E' { a with FR := FR, NB := NB, WB := WB, MB := MB, UB := UB, ub := ub, gv := gv, pv := pv } c w' X 0 (fun _ => none) ⟨fun _ => 0, fun _ => 0, fun _ => [], l, fun _ _ => 0⟩ ∧ Below w.heap.size w w' := by
  have r0 : w.cell? ⟨R, 0, none⟩ = some (.pointer (some ⟨a.C, 0, none⟩)) := h.run.at 0 rfl
  have r1 : w.cell? ⟨R, 1, none⟩ = some (.slice a.sp c.slots.length a.sc) := h.run.at 1 rfl
  have c0 := h.code.c0
  have c1 := h.code.c1
  obtain ⟨p0, q0, hv0⟩ : ∃ p q, a.v0 = .slice p c.sign.length q := by obtain ⟨p, q, e, _⟩ := h.code.sign; exact ⟨p, q, e⟩
  obtain ⟨p1, q1, hv1⟩ : ∃ p q, a.v1 = .slice p c.regs.length q := by obtain ⟨p, q, e, _⟩ := h.code.regs; exact ⟨p, q, e⟩
  obtain ⟨gp, gq, hgp⟩ : ∃ p q, gv = .slice p G.length q := by obtain ⟨p, q, e, _⟩ := hgv; exact ⟨p, q, e⟩
  obtain ⟨pp, pq, hpp⟩ : ∃ p q, pv = .slice p P.length q := by obtain ⟨p, q, e, _⟩ := hpv; exact ⟨p, q, e⟩
  subst hgp hpp
  rw [hv0] at c0
  rw [hv1] at c1
  have hN1 := hg.regsL
  have hN0 := hg.signL
  have HH : Hid (RunAt T B w R a X c l) := h
  have HG : Hid (Good c ∧ (∀ b, T b → b < w.heap.size) ∧ VsT T w (.slice gp G.length gq) G ∧ VsT T w (.slice pp P.length pq) P ∧ ∀ p ∈ c.sign, p.name.size ≤ 140737488351232) := ⟨hg, hT, hgv, hpv, hnm⟩
  have HV0 : Hid (a.v0 = .slice p0 c.sign.length q0) := hv0
  obtain ⟨N0, hN0'⟩ : ∃ N, c.sign.length = N := ⟨_, rfl⟩
  obtain ⟨N1, hN1'⟩ : ∃ N, c.regs.length = N := ⟨_, rfl⟩
  obtain ⟨N2, hN2'⟩ : ∃ N, c.slots.length = N := ⟨_, rfl⟩
  obtain ⟨C, hC⟩ : ∃ C, a.C = C := ⟨_, rfl⟩
  obtain ⟨sp, hsp⟩ : ∃ sp, a.sp = sp := ⟨_, rfl⟩
  obtain ⟨sc, hsc⟩ : ∃ sc, a.sc = sc := ⟨_, rfl⟩
  obtain ⟨gl, hgl⟩ : ∃ gl, G.length = gl := ⟨_, rfl⟩
  obtain ⟨pl, hpl⟩ : ∃ pl, P.length = pl := ⟨_, rfl⟩
  rw [hN0', hC] at c0
  rw [hN1', hC] at c1
  rw [hC] at r0
  rw [hsp, hsc, hN2'] at r1
  rw [hN0'] at hN0
  rw [hN1'] at hN1
  have HE : Hid (c.sign.length = N0 ∧ c.regs.length = N1 ∧ c.slots.length = N2 ∧ a.C = C ∧ a.sp = sp ∧ a.sc = sc ∧ G.length = gl ∧ P.length = pl) := ⟨hN0', hN1', hN2', hC, hsp, hsc, hgl, hpl⟩
  rw [hgl, hpl]
  have mk1 := make_F N1 (by omega)
  have mk2 := make_I N1 (by omega)
  have mk3 := make_L N0 (by omega)
  clear h hg hT hgv hpv hnm hv0 hv1 hN0' hN1' hN2' hC hsp hsc hgl hpl
  go_enter Tryz.func29, Tryz.ntmps29
  go_wp2
  refine wp_region_held_drew (S := (fun v => v.cell? ⟨R, 0, none⟩ = some (.pointer (some ⟨C, 0, none⟩)) ∧ v.cell? ⟨R, 1, none⟩ = some (.slice sp N2 sc))) (by kernel_rfl) ?_ (fun hHeld => ?_)
  · ((try dsimp only); go_keep)
  refine tkH (i := 0) (v := ?_) (hy := .inl ⟨by rfl, ?_⟩) (h := ?_)
  rotate_left 1
  · (intro wS hSw; (try dsimp only at hSw); go_simp; try (with_reducible rfl))
  try simp only [Act.put, List.setIfInBounds_toArray, List.set_cons_zero, List.set_cons_succ]
  refine tkH (i := 1) (v := ?_) (hy := .inl ⟨by rfl, ?_⟩) (h := ?_)
  rotate_left 1
  · (intro wS hSw; (try dsimp only at hSw); go_simp; try (with_reducible rfl))
  try simp only [Act.put, List.setIfInBounds_toArray, List.set_cons_zero, List.set_cons_succ]
  refine tkH (i := 2) (v := ?_) (hy := .inl ⟨by rfl, ?_⟩) (h := ?_)
  rotate_left 1
  · (intro wS hSw; (try dsimp only at hSw); go_simp; try (with_reducible rfl))
  try simp only [Act.put, List.setIfInBounds_toArray, List.set_cons_zero, List.set_cons_succ]
  refine tkH (i := 3) (v := ?_) (hy := .inl ⟨by rfl, ?_⟩) (h := ?_)
  rotate_left 1
  · (intro wS hSw; (try dsimp only at hSw); go_simp; try (with_reducible rfl))
  try simp only [Act.put, List.setIfInBounds_toArray, List.set_cons_zero, List.set_cons_succ]
  refine tkH (i := 4) (v := ?_) (hy := .inl ⟨by rfl, ?_⟩) (h := ?_)
  rotate_left 1
  · (intro wS hSw; (try dsimp only at hSw); go_simp; try (with_reducible rfl))
  try simp only [Act.put, List.setIfInBounds_toArray, List.set_cons_zero, List.set_cons_succ]
  refine tkH (i := 5) (v := ?_) (hy := .inl ⟨by rfl, ?_⟩) (h := ?_)
  rotate_left 1
  · (intro wS hSw; (try dsimp only at hSw); go_simp; try (with_reducible rfl))
  try simp only [Act.put, List.setIfInBounds_toArray, List.set_cons_zero, List.set_cons_succ]
  refine tkH (i := 6) (v := ?_) (hy := .inl ⟨by rfl, ?_⟩) (h := ?_)
  rotate_left 1
  · (intro wS hSw; (try dsimp only at hSw); go_simp; try (with_reducible rfl))
  try simp only [Act.put, List.setIfInBounds_toArray, List.set_cons_zero, List.set_cons_succ]
  refine tkH (i := 7) (v := ?_) (hy := .inl ⟨by rfl, ?_⟩) (h := ?_)
  rotate_left 1
  · (intro wS hSw; (try dsimp only at hSw); go_simp; try (with_reducible rfl))
  try simp only [Act.put, List.setIfInBounds_toArray, List.set_cons_zero, List.set_cons_succ]
  refine tkH (i := 8) (v := ?_) (hy := .inl ⟨by rfl, ?_⟩) (h := ?_)
  rotate_left 1
  · (intro wS hSw; (try dsimp only at hSw); go_simp; try (with_reducible rfl))
  try simp only [Act.put, List.setIfInBounds_toArray, List.set_cons_zero, List.set_cons_succ]
  refine tkH (i := 9) (v := ?_) (hy := .inl ⟨by rfl, ?_⟩) (h := ?_)
  rotate_left 1
  · (intro wS hSw; (try dsimp only at hSw); go_simp; try (with_reducible rfl))
  try simp only [Act.put, List.setIfInBounds_toArray, List.set_cons_zero, List.set_cons_succ]
  refine tkH (i := 10) (v := ?_) (hy := .inl ⟨by rfl, ?_⟩) (h := ?_)
  rotate_left 1
  · (intro wS hSw; (try dsimp only at hSw); go_simp; try (with_reducible rfl))
  try simp only [Act.put, List.setIfInBounds_toArray, List.set_cons_zero, List.set_cons_succ]
  clear hHeld
  refine wpAnyH_ready (rs := [11]) (by kernel_rfl) (by simp) ?_
  refine AllReadyH.cons (i := 11) (by simp only [List.getElem?_toArray, List.getElem?_cons_succ, List.getElem?_cons_zero]; rfl) (fun K hK => ?_) AllReadyH.nil
  go_simp
  refine hK.out _ _ ?_ (fun hHeld => ?_)
  · ((try dsimp only); go_keep)
  clear hK K
  try simp only [Act.put, List.setIfInBounds_toArray, List.set_cons_zero, List.set_cons_succ]
  refine tkH (i := 12) (v := ?_) (hy := .inl ⟨by rfl, ?_⟩) (h := ?_)
  rotate_left 1
  · (intro wS hSw; (try dsimp only at hSw); go_simp; try (with_reducible rfl))
  try simp only [Act.put, List.setIfInBounds_toArray, List.set_cons_zero, List.set_cons_succ]
  refine wpAnyH_done (by kernel_rfl) ?_ _
  go_wp2
  obtain ⟨W1, hW1⟩ : ∃ W1, (w.alloc (.cells #[.pointer (some ⟨C, 0, none⟩), .slice sp N2 sc, .slice none 0 0, .slice none 0 0, .map none, .slice gp gl gq, .slice pp pl pq, .slice none 0 0] 95)).drew = W1 := ⟨_, rfl⟩
  have hb1 : Below w.heap.size w W1 := by rw [← hW1]; exact bel (bel_alloc _ _) (bel_drew _)
  have hrow : W1.rowIs w.heap.size 95 8 (frV C (.slice sp N2 sc) (.slice none 0 0) (.slice none 0 0) (.map none) (.slice gp gl gq) (.slice pp pl pq) (.slice none 0 0)) := by
    rw [← hW1]
    refine World.rowIs.drew ?_
    refine World.rowIs_alloc w _ 95 _ fun j hj => ?_
    have hj' : j < 8 := hj
    obtain rfl | rfl | rfl | rfl | rfl | rfl | rfl | rfl : j = 0 ∨ j = 1 ∨ j = 2 ∨ j = 3 ∨ j = 4 ∨ j = 5 ∨ j = 6 ∨ j = 7 := by omega
    all_goals rfl
  have hs1 : W1.heap.size = w.heap.size + 1 := by rw [← hW1]; simp
  rw [hW1]
  clear hW1 hHeld
  have g0 := kc hb1 r0
  have g1 := kc hb1 c1
  have g2 := hrow.cell (i := 2) (by decide)
  have g3 := hrow.cell (i := 3) (by decide)
  have q2 := hrow.frozen 2
  have q3 := hrow.frozen 3
  simp only [frV] at g2 g3
  have k2a : ∀ o, (W1.alloc o).cell? ⟨w.heap.size, 2, none⟩ = some (.slice none 0 0) := fun o => kc (bel_alloc _ _) g2
  have k3a : ∀ o, (W1.alloc o).cell? ⟨w.heap.size, 3, none⟩ = some (.slice none 0 0) := fun o => kc (bel_alloc _ _) g3
  have k2b : ∀ o o', ((W1.alloc o).alloc o').cell? ⟨w.heap.size, 2, none⟩ = some (.slice none 0 0) := fun o o' => kc (bel_alloc _ _) (k2a o)
  have k3b : ∀ o o', ((W1.alloc o).alloc o').cell? ⟨w.heap.size, 3, none⟩ = some (.slice none 0 0) := fun o o' => kc (bel_alloc _ _) (k3a o)
  have f2a : ∀ o, (W1.alloc o).frozen? ⟨w.heap.size, 2, none⟩ = false := fun o => kf (bel_alloc _ _) g2 q2
  have f3a : ∀ o, (W1.alloc o).frozen? ⟨w.heap.size, 3, none⟩ = false := fun o => kf (bel_alloc _ _) g3 q3
  have f2b : ∀ o o', ((W1.alloc o).alloc o').frozen? ⟨w.heap.size, 2, none⟩ = false := fun o o' => kf (bel_alloc _ _) (k2a o) (f2a o)
  have f3b : ∀ o o', ((W1.alloc o).alloc o').frozen? ⟨w.heap.size, 3, none⟩ = false := fun o o' => kf (bel_alloc _ _) (k3a o) (f3a o)
  have k3c : ∀ o o' v, (((W1.alloc o).setCell ⟨w.heap.size, 2, none⟩ v).alloc o').cell? ⟨w.heap.size, 3, none⟩ = some (.slice none 0 0) := fun o o' v => (((hrow.alloc o).set 2 v).alloc o').cell (i := 3) (by decide)
  have f3c : ∀ o o' v, (((W1.alloc o).setCell ⟨w.heap.size, 2, none⟩ v).alloc o').frozen? ⟨w.heap.size, 3, none⟩ = false := fun o o' v => (((hrow.alloc o).set 2 v).alloc o').frozen 3
  have HFa := hidM (F2_a (n := N1) hb1 hrow hs1 rfl)
  have HFb := hidM (F2_b (n := N1) hb1 hrow hs1 rfl)
  have HFc := hidM (F2_c (n := N1) hb1 hrow hs1 rfl)
  obtain ⟨Va, hVa⟩ : ∃ Va, ((((W1.alloc (.cells (madeCells #[.int .u32 0] N1) 43)).alloc (.cells (madeCells #[.int .i64 0] N1) 3)).setCell ⟨w.heap.size, 2, none⟩ (.slice (some ⟨W1.heap.size, 0, none⟩) N1 N1)).setCell ⟨w.heap.size, 3, none⟩ (.slice (some ⟨W1.heap.size + 1, 0, none⟩) N1 N1)).drew = Va := ⟨_, rfl⟩
  obtain ⟨Vb, hVb⟩ : ∃ Vb, ((((W1.alloc (.cells (madeCells #[.int .u32 0] N1) 43)).setCell ⟨w.heap.size, 2, none⟩ (.slice (some ⟨W1.heap.size, 0, none⟩) N1 N1)).alloc (.cells (madeCells #[.int .i64 0] N1) 3)).setCell ⟨w.heap.size, 3, none⟩ (.slice (some ⟨W1.heap.size + 1, 0, none⟩) N1 N1)).drew = Vb := ⟨_, rfl⟩
  obtain ⟨Vc, hVc⟩ : ∃ Vc, ((((W1.alloc (.cells (madeCells #[.int .i64 0] N1) 3)).alloc (.cells (madeCells #[.int .u32 0] N1) 43)).setCell ⟨w.heap.size, 2, none⟩ (.slice (some ⟨W1.heap.size + 1, 0, none⟩) N1 N1)).setCell ⟨w.heap.size, 3, none⟩ (.slice (some ⟨W1.heap.size, 0, none⟩) N1 N1)).drew = Vc := ⟨_, rfl⟩
  rw [hVa] at HFa
  rw [hVb] at HFb
  rw [hVc] at HFc
  have m1 : w.heap.size ≠ R := by have := mcell_lt r0; simp at this; omega
  have m2 : w.heap.size ≠ C := by have := mcell_lt c1; simp at this; omega
  have m3 : w.heap.size ≠ W1.heap.size := by omega
  have HB1 := hidM hb1
  have HRow := hidM hrow
  have HS1 := hidM hs1
  have HR0 := hidM r0
  have HC0 := hidM c0
  obtain ⟨FR, hFR⟩ : ∃ FR, w.heap.size = FR := ⟨_, rfl⟩
  have HFR := hidM hFR
  simp only [hFR] at g2 g3 q2 q3 m1 m2 m3 HRow HS1 k2a k3a k2b k3b f2a f3a f2b f3b k3c f3c hVa hVb hVc HFa HFb HFc ⊢
  have HVa := hidM hVa
  have HVb := hidM hVb
  have HVc := hidM hVc
  clear r0 r1 c0 c1 hb1 hrow hs1 hFR hVa hVb hVc
  refine wp_region_held_drew (S := (fun v => v.cell? ⟨R, 0, none⟩ = some (.pointer (some ⟨C, 0, none⟩)) ∧ v.cell? ⟨C, 1, none⟩ = some (.slice p1 N1 q1))) (by kernel_rfl) ?_ (fun hHeld => ?_)
  · ((try dsimp only); go_keep)
  refine tkH (i := 0) (v := ?_) (hy := .inl ⟨by rfl, ?_⟩) (h := ?_)
  rotate_left 1
  · (intro wS hSw; (try dsimp only at hSw); go_simp; try (with_reducible rfl))
  try simp only [Act.put, List.setIfInBounds_toArray, List.set_cons_zero, List.set_cons_succ]
  refine tkH (i := 1) (v := ?_) (hy := .inl ⟨by rfl, ?_⟩) (h := ?_)
  rotate_left 1
  · (intro wS hSw; (try dsimp only at hSw); go_simp; try (with_reducible rfl))
  try simp only [Act.put, List.setIfInBounds_toArray, List.set_cons_zero, List.set_cons_succ]
  refine tkH (i := 2) (v := ?_) (hy := .inl ⟨by rfl, ?_⟩) (h := ?_)
  rotate_left 1
  · (intro wS hSw; (try dsimp only at hSw); go_simp; try (with_reducible rfl))
  try simp only [Act.put, List.setIfInBounds_toArray, List.set_cons_zero, List.set_cons_succ]
  refine tkH (i := 3) (v := ?_) (hy := .inl ⟨by rfl, ?_⟩) (h := ?_)
  rotate_left 1
  · (intro wS hSw; (try dsimp only at hSw); go_simp; try (with_reducible rfl))
  try simp only [Act.put, List.setIfInBounds_toArray, List.set_cons_zero, List.set_cons_succ]
  refine tkH (i := 4) (v := ?_) (hy := .inl ⟨by rfl, ?_⟩) (h := ?_)
  rotate_left 1
  · (intro wS hSw; (try dsimp only at hSw); go_simp; try (with_reducible rfl))
  try simp only [Act.put, List.setIfInBounds_toArray, List.set_cons_zero, List.set_cons_succ]
  refine tkH (i := 5) (v := ?_) (hy := .inl ⟨by rfl, ?_⟩) (h := ?_)
  rotate_left 1
  · (intro wS hSw; (try dsimp only at hSw); go_simp; try (with_reducible rfl))
  try simp only [Act.put, List.setIfInBounds_toArray, List.set_cons_zero, List.set_cons_succ]
  refine tkH (i := 6) (v := ?_) (hy := .inl ⟨by rfl, ?_⟩) (h := ?_)
  rotate_left 1
  · (intro wS hSw; (try dsimp only at hSw); go_simp; try (with_reducible rfl))
  try simp only [Act.put, List.setIfInBounds_toArray, List.set_cons_zero, List.set_cons_succ]
  refine tkH (i := 7) (v := ?_) (hy := .inl ⟨by rfl, ?_⟩) (h := ?_)
  rotate_left 1
  · (intro wS hSw; (try dsimp only at hSw); go_simp; try (with_reducible rfl))
  try simp only [Act.put, List.setIfInBounds_toArray, List.set_cons_zero, List.set_cons_succ]
  refine tkH (i := 8) (v := ?_) (hy := .inl ⟨by rfl, ?_⟩) (h := ?_)
  rotate_left 1
  · (intro wS hSw; (try dsimp only at hSw); go_simp; try (with_reducible rfl))
  try simp only [Act.put, List.setIfInBounds_toArray, List.set_cons_zero, List.set_cons_succ]
  refine tkH (i := 9) (v := ?_) (hy := .inl ⟨by rfl, ?_⟩) (h := ?_)
  rotate_left 1
  · (intro wS hSw; (try dsimp only at hSw); go_simp; try (with_reducible rfl))
  try simp only [Act.put, List.setIfInBounds_toArray, List.set_cons_zero, List.set_cons_succ]
  refine tkH (i := 11) (v := ?_) (hy := .inl ⟨by rfl, ?_⟩) (h := ?_)
  rotate_left 1
  · (intro wS hSw; (try dsimp only at hSw); go_simp; try (with_reducible rfl))
  try simp only [Act.put, List.setIfInBounds_toArray, List.set_cons_zero, List.set_cons_succ]
  refine tkH (i := 12) (v := ?_) (hy := .inl ⟨by rfl, ?_⟩) (h := ?_)
  rotate_left 1
  · (intro wS hSw; (try dsimp only at hSw); go_simp; try (with_reducible rfl))
  try simp only [Act.put, List.setIfInBounds_toArray, List.set_cons_zero, List.set_cons_succ]
  refine tkH (i := 13) (v := ?_) (hy := .inl ⟨by rfl, ?_⟩) (h := ?_)
  rotate_left 1
  · (intro wS hSw; (try dsimp only at hSw); go_simp; try (with_reducible rfl))
  try simp only [Act.put, List.setIfInBounds_toArray, List.set_cons_zero, List.set_cons_succ]
  refine tkH (i := 14) (v := ?_) (hy := .inl ⟨by rfl, ?_⟩) (h := ?_)
  rotate_left 1
  · (intro wS hSw; (try dsimp only at hSw); go_simp; try (with_reducible rfl))
  try simp only [Act.put, List.setIfInBounds_toArray, List.set_cons_zero, List.set_cons_succ]
  refine tkH (i := 15) (v := ?_) (hy := .inl ⟨by rfl, ?_⟩) (h := ?_)
  rotate_left 1
  · (intro wS hSw; (try dsimp only at hSw); go_simp; try (with_reducible rfl))
  try simp only [Act.put, List.setIfInBounds_toArray, List.set_cons_zero, List.set_cons_succ]
  refine tkH (i := 16) (v := ?_) (hy := .inl ⟨by rfl, ?_⟩) (h := ?_)
  rotate_left 1
  · (intro wS hSw; (try dsimp only at hSw); go_simp; try (with_reducible rfl))
  try simp only [Act.put, List.setIfInBounds_toArray, List.set_cons_zero, List.set_cons_succ]
  refine tkH (i := 17) (v := ?_) (hy := .inl ⟨by rfl, ?_⟩) (h := ?_)
  rotate_left 1
  · (intro wS hSw; (try dsimp only at hSw); go_simp; try (with_reducible rfl))
  try simp only [Act.put, List.setIfInBounds_toArray, List.set_cons_zero, List.set_cons_succ]
  refine tkH (i := 18) (v := ?_) (hy := .inl ⟨by rfl, ?_⟩) (h := ?_)
  rotate_left 1
  · (intro wS hSw; (try dsimp only at hSw); go_simp; try (with_reducible rfl))
  try simp only [Act.put, List.setIfInBounds_toArray, List.set_cons_zero, List.set_cons_succ]
  clear hHeld
  refine wpAnyH_ready (rs := [10, 19]) (by kernel_rfl) (by simp) ?_
  refine AllReadyH.cons (i := 10) (by simp only [List.getElem?_toArray, List.getElem?_cons_succ, List.getElem?_cons_zero]; rfl) (fun K hK => ?_) ?_
  · go_simp
    refine hK.out _ _ ?_ (fun hHeld => ?_)
    · ((try dsimp only); go_keep)
    clear hK K
    try simp only [Act.put, List.setIfInBounds_toArray, List.set_cons_zero, List.set_cons_succ]
    refine tkH (i := 20) (v := ?_) (hy := .inl ⟨by rfl, ?_⟩) (h := ?_)
    rotate_left 1
    · (intro wS hSw; (try dsimp only at hSw); go_simp; try (with_reducible rfl))
    try simp only [Act.put, List.setIfInBounds_toArray, List.set_cons_zero, List.set_cons_succ]
    refine tkH (i := 21) (v := ?_) (hy := .inl ⟨by rfl, ?_⟩) (h := ?_)
    rotate_left 1
    · (intro wS hSw; (try dsimp only at hSw); go_simp; try (with_reducible rfl))
    try simp only [Act.put, List.setIfInBounds_toArray, List.set_cons_zero, List.set_cons_succ]
    clear hHeld
    refine wpAnyH_ready (rs := [19, 22]) (by kernel_rfl) (by simp) ?_
    refine AllReadyH.cons (i := 19) (by simp only [List.getElem?_toArray, List.getElem?_cons_succ, List.getElem?_cons_zero]; rfl) (fun K hK => ?_) ?_
    · go_simp
      refine hK.out _ _ ?_ (fun hHeld => ?_)
      · ((try dsimp only); go_keep)
      clear hK K
      try simp only [Act.put, List.setIfInBounds_toArray, List.set_cons_zero, List.set_cons_succ]
      clear hHeld
      refine wpAnyH_ready (rs := [22]) (by kernel_rfl) (by simp) ?_
      refine AllReadyH.cons (i := 22) (by simp only [List.getElem?_toArray, List.getElem?_cons_succ, List.getElem?_cons_zero]; rfl) (fun K hK => ?_) AllReadyH.nil
      go_simp
      refine hK.out _ _ ?_ (fun hHeld => ?_)
      · ((try dsimp only); go_keep)
      clear hK K
      try simp only [Act.put, List.setIfInBounds_toArray, List.set_cons_zero, List.set_cons_succ]
      refine tkH (i := 23) (v := ?_) (hy := .inl ⟨by rfl, ?_⟩) (h := ?_)
      rotate_left 1
      · (intro wS hSw; (try dsimp only at hSw); go_simp; try (with_reducible rfl))
      try simp only [Act.put, List.setIfInBounds_toArray, List.set_cons_zero, List.set_cons_succ]
      refine tkH (i := 24) (v := ?_) (hy := .inl ⟨by rfl, ?_⟩) (h := ?_)
      rotate_left 1
      · (intro wS hSw; (try dsimp only at hSw); go_simp; try (with_reducible rfl))
      try simp only [Act.put, List.setIfInBounds_toArray, List.set_cons_zero, List.set_cons_succ]
      clear hHeld
      refine wpAnyH_ready (rs := [25]) (by kernel_rfl) (by simp) ?_
      refine AllReadyH.cons (i := 25) (by simp only [List.getElem?_toArray, List.getElem?_cons_succ, List.getElem?_cons_zero]; rfl) (fun K hK => ?_) AllReadyH.nil
      go_simp
      refine hK.out _ _ ?_ (fun hHeld => ?_)
      · ((try dsimp only); go_keep)
      clear hK K
      try simp only [Act.put, List.setIfInBounds_toArray, List.set_cons_zero, List.set_cons_succ]
      refine wpAnyH_done (by kernel_rfl) ?_ _
      first
        | (rw [HVa.out]; obtain ⟨V, hVV, NB, WB, HF⟩ : ∃ V, Va = V ∧ ∃ NB WB, Hid (F2 w V FR NB WB N1 C (.slice sp N2 sc) (.slice gp gl gq) (.slice pp pl pq)) := ⟨_, rfl, _, _, HFa⟩; rw [hVV]; clear hVV)
        | (rw [HVb.out]; obtain ⟨V, hVV, NB, WB, HF⟩ : ∃ V, Vb = V ∧ ∃ NB WB, Hid (F2 w V FR NB WB N1 C (.slice sp N2 sc) (.slice gp gl gq) (.slice pp pl pq)) := ⟨_, rfl, _, _, HFb⟩; rw [hVV]; clear hVV)
        | (rw [HVc.out]; obtain ⟨V, hVV, NB, WB, HF⟩ : ∃ V, Vc = V ∧ ∃ NB WB, Hid (F2 w V FR NB WB N1 C (.slice sp N2 sc) (.slice gp gl gq) (.slice pp pl pq)) := ⟨_, rfl, _, _, HFc⟩; rw [hVV]; clear hVV)
      have hmm := @run_makeMap Tryz.prog
      have f4 := HF.out.row.cell (i := 4) (by decide)
      have f7 := HF.out.row.cell (i := 7) (by decide)
      simp only [frV] at f4 f7
      have y4 : ∀ o, (V.alloc o).cell? ⟨FR, 4, none⟩ = some (.map none) := fun o => kc (bel_alloc _ _) f4
      have u4 : ∀ o, (V.alloc o).frozen? ⟨FR, 4, none⟩ = false := fun o => kf (bel_alloc _ _) f4 (HF.out.row.frozen 4)
      obtain ⟨X1, hX1⟩ : ∃ X1, (V.alloc (.map #[] 0)).setCell ⟨FR, 4, none⟩ (.map (some V.heap.size)) = X1 := ⟨_, rfl⟩
      have hrX := (HF.out.row.alloc (.map #[] 0)).set 4 (.map (some V.heap.size))
      rw [hX1] at hrX
      have x7 := hrX.cell (i := 7) (by decide)
      simp only [frV] at x7
      have y7 : ∀ o, (X1.alloc o).cell? ⟨FR, 7, none⟩ = some (.slice none 0 0) := fun o => kc (bel_alloc _ _) x7
      have u7 : ∀ o, (X1.alloc o).frozen? ⟨FR, 7, none⟩ = false := fun o => kf (bel_alloc _ _) x7 (hrX.frozen 7)
      have hsX : X1.heap.size = V.heap.size + 1 := by rw [← hX1]; simp [World.setCell]
      have HF3 := hidM (HF.out.three N0)
      rw [hX1, ← hsX] at HF3
      obtain ⟨V2, hV2⟩ : ∃ V2, (X1.alloc (.cells (madeCells #[.slice none 0 0] N0) 57)).setCell ⟨FR, 7, none⟩ (.slice (some ⟨X1.heap.size, 0, none⟩) N0 N0) = V2 := ⟨_, rfl⟩
      rw [hV2] at HF3
      have hbX : ∀ {a : Addr} {u : Value}, a.block < FR → w.cell? a = some u → X1.cell? a = some u := fun {a u} ha hu => by
        rw [← hX1]
        exact ((((Below.refl FR V).alloc (by have := HF.out.size; omega) _).setCell (p := ⟨FR, 4, none⟩) (by show FR ≤ FR; omega) (.map (some V.heap.size))).cell ha).trans (kc HF.out.bel hu)
      have x0 := hbX (by show R < FR; have := mcell_lt HR0.out; simp at this; rw [← HFR.out]; exact this) HR0.out
      have xc := hbX (by show C < FR; have := mcell_lt HC0.out; simp at this; rw [← HFR.out]; exact this) HC0.out
      have v0 : V2.cell? ⟨R, 0, none⟩ = some (.pointer (some ⟨C, 0, none⟩)) := kc HF3.out.bel HR0.out
      have vc : V2.cell? ⟨C, 0, none⟩ = some (.slice p0 N0 q0) := kc HF3.out.bel HC0.out
      have hmx := mk3 X1
      clear HFa HFb HFc HVa HVb HVc g0 g1 g2 g3 q2 q3 k2a k3a k2b k3b f2a f3a f2b f3b k3c f3c m3 HRow HS1 HB1 hbX hrX f4 f7 x7 hsX hHeld mk2 mk3
      go_wp2
      clear hX1 hV2 hmx x0 xc y4 u4 y7 u7 hmm
      obtain ⟨MB, hMB⟩ : ∃ MB, V.heap.size = MB := ⟨_, rfl⟩
      obtain ⟨UB, hUB⟩ : ∃ UB, X1.heap.size = UB := ⟨_, rfl⟩
      have HMU := hidM (And.intro hMB hUB)
      rw [hMB, hUB] at HF3
      clear hMB hUB HMU
      go_loopw [70] (fun iv wr => ∃ j : Nat, j ≤ N0 ∧ iv = .int .i64 j ∧ Hid (∃ ub, NFI V2 wr FR UB N0 c j ub)) (fun iv _ => N0 - (intOf iv).toNat)
      case atStart => exact ⟨0, Nat.zero_le _, rfl, fun _ => 0, Un.refl _ _, HF3.out.ub.congr fun p _ => by rw [if_neg (Nat.not_lt_zero _)], fun p hp => absurd hp (Nat.not_lt_zero _), fun p hp => absurd hp (Nat.not_lt_zero _), fun p q hp => absurd hp (Nat.not_lt_zero _)⟩
      case round =>
        clear v0 vc
        obtain ⟨j, hj, rfl, HR⟩ := hrel
        obtain ⟨ub, hnf⟩ := HR.out
        have HNF := hidM hnf
        have hUBlt : UB < FR + 5 := by have := HF3.out.n7; omega
        have hbw : Below w.heap.size w wr := HF3.out.bel.trans (HNF.out.un.below HF3.out.bel.size (fun b e => by have := HF3.out.n7; have := HF3.out.fr; omega))
        have HBW := hidM hbw
        have hrF := HF3.out.row.of_block (HNF.out.un.block FR HF3.out.row.lt (by show ¬ FR = UB; have := HF3.out.n7; omega))
        have HRF := hidM hrF
        by_cases hlt : j < N0
        · have hjc : j < c.sign.length := by rw [HE.out.1]; exact hlt
          have hcd := HH.out.code.sign.row.below hbw
          rw [HV0.out] at hcd
          obtain ⟨sb, so, hq, hcj⟩ := hcd.at hjc
          subst hq
          have hmayj := HG.out.1.kind _ (List.getElem_mem hjc)
          have hnmj := HG.out.2.2.2.2 _ (List.getElem_mem hjc)
          have hnumj : numP c.sign[j] = ((numAt c j : Nat) : Int) := by
            unfold numAt
            rw [List.getElem?_eq_getElem hjc]
            show _ = ((numL c.sign[j] : Nat) : Int)
            unfold numL
            have : 0 ≤ numP c.sign[j] := by unfold numP; rw [hmayj]; have := (HG.out.1.len _ (List.getElem_mem hjc)).1; simp only [if_true]; split <;> omega
            omega
          have hnl : numAt c j ≤ 8192 := by
            obtain ⟨e1, e2, e3, e4, e5⟩ := numAt_eq HG.out.1 hjc
            rw [e1, e2]
            rcases e5 with e | e <;> rw [e] <;> omega
          obtain ⟨sj, hsj⟩ : ∃ sj, c.sign[j] = sj := ⟨_, rfl⟩
          rw [hsj] at hcj hnumj hnmj
          have KN : ∀ v, Calls Tryz.prog 47 #[Go.Proofs.YtholhpmnicibgaaGreat.pv sj] v fun e w' => e = .returned (.int .i64 (numAt c j : Nat)) ∧ Below v.heap.size v w' := fun v => by have := sNumbers_any sj hnmj v; rw [hnumj] at this; exact this
          obtain ⟨nj, hnj⟩ : ∃ nj, numAt c j = nj := ⟨_, rfl⟩
          have HNJ := hidM hnj
          rw [hnj] at KN hnl
          have mkj := make_F nj (by omega)
          obtain ⟨nm, kd, ln⟩ := sj
          unfold Go.Proofs.YtholhpmnicibgaaGreat.pv at KN
          unfold parCells at hcj
          simp only at KN hcj
          have HKN : Hid (∀ v, Calls Tryz.prog 47 #[.agg #[.string nm, .int .i64 kd, .int .i64 ln]] v fun e w' => e = .returned (.int .i64 (nj : Int)) ∧ Below v.heap.size v w') := KN
          have y0 := hcj.at 0 (v := .string nm) rfl
          rw [Nat.add_zero] at y0
          have y1 := hcj.at 1 (v := .int .i64 kd) rfl
          have y2 := hcj.at 2 (v := .int .i64 ln) rfl
          have r7 := hrF.cell (i := 7) (by decide)
          simp only [frV] at r7
          have x0 := HNF.out.row.cell hlt
          have x2 := HNF.out.row.frozen j
          rw [if_neg (by omega)] at x0
          have szU : UB < wr.heap.size := HNF.out.row.lt
          have szF : FR < wr.heap.size := hrF.lt
          have n1 : UB ≠ wr.heap.size := by omega
          have n2 : UB ≠ FR := by have := HF3.out.n7; omega
          obtain ⟨V3, hV3⟩ : ∃ V3, wr.alloc (.cells #[.string nm, .int .i64 kd, .int .i64 ln] 72) = V3 := ⟨_, rfl⟩
          have HB5 : Hid (Below wr.heap.size wr V3) := by rw [← hV3]; exact bel_alloc _ _
          have HC5 : Hid (∀ v, Below V3.heap.size V3 v → v.cell? ⟨FR, 7, none⟩ = some (.slice (some ⟨UB, 0, none⟩) N0 N0) ∧ v.cell? ⟨wr.heap.size, 0, none⟩ = some (.string nm) ∧ v.cell? ⟨wr.heap.size, 1, none⟩ = some (.int .i64 kd) ∧ v.cell? ⟨wr.heap.size, 2, none⟩ = some (.int .i64 ln) ∧ v.cell? ⟨UB, j, none⟩ = some (.slice none 0 0) ∧ v.frozen? ⟨UB, j, none⟩ = false) := by
            intro v hv
            have hv2 := bel HB5.out hv
            rw [← hV3] at hv
            exact ⟨kc hv2 r7, kc hv (by simp [go_sem]), kc hv (by simp [go_sem]), kc hv (by simp [go_sem]), kc hv2 x0, kf hv2 x0 x2⟩
          obtain ⟨a0, a1, a2, a3, a4, a5⟩ := HC5.out V3 (bel0 _)
          clear KN hcd hcj hsj hmayj hnmj hnumj hnj hrF hbw hnf r7 x0 x2 mk1
          go_wp2
          clear hV3
          refine wp_region_held_drew (S := (fun v => v.cell? ⟨FR, 7, none⟩ = some (.slice (some ⟨UB, 0, none⟩) N0 N0) ∧ v.cell? ⟨wr.heap.size, 0, none⟩ = some (.string nm) ∧ v.cell? ⟨wr.heap.size, 1, none⟩ = some (.int .i64 kd) ∧ v.cell? ⟨wr.heap.size, 2, none⟩ = some (.int .i64 ln))) (by kernel_rfl) ?_ (fun hHeld => ?_)
          · ((try dsimp only); go_keep)
          refine tkH (i := 0) (v := ?_) (hy := .inl ⟨by rfl, ?_⟩) (h := ?_)
          rotate_left 1
          · (intro wS hSw; (try dsimp only at hSw); go_simp; try (with_reducible rfl))
          try simp only [Act.put, List.setIfInBounds_toArray, List.set_cons_zero, List.set_cons_succ]
          refine tkH (i := 1) (v := ?_) (hy := .inl ⟨by rfl, ?_⟩) (h := ?_)
          rotate_left 1
          · (intro wS hSw; (try dsimp only at hSw); go_simp; try (with_reducible rfl))
          try simp only [Act.put, List.setIfInBounds_toArray, List.set_cons_zero, List.set_cons_succ]
          refine tkH (i := 2) (v := ?_) (hy := .inl ⟨by rfl, ?_⟩) (h := ?_)
          rotate_left 1
          · (intro wS hSw; (try dsimp only at hSw); go_simp; try (with_reducible rfl))
          try simp only [Act.put, List.setIfInBounds_toArray, List.set_cons_zero, List.set_cons_succ]
          refine tkH (i := 3) (v := ?_) (hy := .inl ⟨by rfl, ?_⟩) (h := ?_)
          rotate_left 1
          · (intro wS hSw; (try dsimp only at hSw); go_simp; try (with_reducible rfl))
          try simp only [Act.put, List.setIfInBounds_toArray, List.set_cons_zero, List.set_cons_succ]
          refine tkH (i := 4) (v := ?_) (hy := .inl ⟨by rfl, ?_⟩) (h := ?_)
          rotate_left 1
          · (intro wS hSw; (try dsimp only at hSw); go_simp; try (with_reducible rfl))
          try simp only [Act.put, List.setIfInBounds_toArray, List.set_cons_zero, List.set_cons_succ]
          refine tkH (i := 5) (v := ?_) (hy := .inl ⟨by rfl, ?_⟩) (h := ?_)
          rotate_left 1
          · (intro wS hSw; (try dsimp only at hSw); go_simp; try (with_reducible rfl))
          try simp only [Act.put, List.setIfInBounds_toArray, List.set_cons_zero, List.set_cons_succ]
          clear hHeld
          refine wpAnyH_ready (rs := [6]) (by kernel_rfl) (by simp) ?_
          refine AllReadyH.cons (i := 6) (by simp only [List.getElem?_toArray, List.getElem?_cons_succ, List.getElem?_cons_zero]; rfl) (fun K hK => ?_) AllReadyH.nil
          go_simp
          (go_at_call 47; refine (HKN.out _).mono ?_; rintro e v2 ⟨rfl, hb6⟩; have HB6 : Hid (Below V3.heap.size V3 v2) := bel (bel_drew _) hb6; obtain ⟨a0, a1, a2, a3, a4, a5⟩ := HC5.out v2 HB6.out; have b4 : ∀ o, (v2.alloc o).cell? ⟨UB, j, none⟩ = some (.slice none 0 0) := fun o => kc (bel_alloc _ _) a4; have b5 : ∀ o, (v2.alloc o).frozen? ⟨UB, j, none⟩ = false := fun o => kf (bel_alloc _ _) a4 a5; clear hb6)
          try (go_wp2_with fail)
          refine hK.out _ _ ?_ (fun hHeld => ?_)
          · ((try dsimp only); go_keep)
          clear hK K
          try simp only [Act.put, List.setIfInBounds_toArray, List.set_cons_zero, List.set_cons_succ]
          clear hHeld
          refine wpAnyH_ready (rs := [7]) (by kernel_rfl) (by simp) ?_
          refine AllReadyH.cons (i := 7) (by simp only [List.getElem?_toArray, List.getElem?_cons_succ, List.getElem?_cons_zero]; rfl) (fun K hK => ?_) AllReadyH.nil
          go_simp
          refine hK.out _ _ ?_ (fun hHeld => ?_)
          · ((try dsimp only); go_keep)
          clear hK K
          try simp only [Act.put, List.setIfInBounds_toArray, List.set_cons_zero, List.set_cons_succ]
          refine tkH (i := 8) (v := ?_) (hy := .inl ⟨by rfl, ?_⟩) (h := ?_)
          rotate_left 1
          · (intro wS hSw; (try dsimp only at hSw); go_simp; try (with_reducible rfl))
          try simp only [Act.put, List.setIfInBounds_toArray, List.set_cons_zero, List.set_cons_succ]
          clear hHeld
          refine wpAnyH_ready (rs := [9]) (by kernel_rfl) (by simp) ?_
          refine AllReadyH.cons (i := 9) (by simp only [List.getElem?_toArray, List.getElem?_cons_succ, List.getElem?_cons_zero]; rfl) (fun K hK => ?_) AllReadyH.nil
          go_simp
          refine hK.out _ _ ?_ (fun hHeld => ?_)
          · ((try dsimp only); go_keep)
          clear hK K
          try simp only [Act.put, List.setIfInBounds_toArray, List.set_cons_zero, List.set_cons_succ]
          refine wpAnyH_done (by kernel_rfl) ?_ _
          go_wp2
          go_roundw
          case rel =>
            have hnx := HNF.out.next (v2 := v2) (by have := HF3.out.size; omega) hUBlt (bel HB5.out HB6.out)
            rw [HNJ.out] at hnx
            exact ⟨j + 1, by omega, by go_num, _, hnx⟩
          case measure => simp [intOf]; omega
        · have hjN : j = N0 := by omega
          subst hjN
          clear hrF hbw hnf
          go_wp2
          go_ret
          exact newFrame_end HH.out HG.out.1 HG.out.2.1 HG.out.2.2.1 HG.out.2.2.2.1 HE.out HF3.out HNF.out HBW.out HRF.out
    refine AllReadyH.cons (i := 22) (by simp only [List.getElem?_toArray, List.getElem?_cons_succ, List.getElem?_cons_zero]; rfl) (fun K hK => ?_) AllReadyH.nil
    go_simp
    refine hK.out _ _ ?_ (fun hHeld => ?_)
    · ((try dsimp only); go_keep)
    clear hK K
    try simp only [Act.put, List.setIfInBounds_toArray, List.set_cons_zero, List.set_cons_succ]
    clear hHeld
    refine wpAnyH_ready (rs := [19]) (by kernel_rfl) (by simp) ?_
    refine AllReadyH.cons (i := 19) (by simp only [List.getElem?_toArray, List.getElem?_cons_succ, List.getElem?_cons_zero]; rfl) (fun K hK => ?_) AllReadyH.nil
    go_simp
    refine hK.out _ _ ?_ (fun hHeld => ?_)
    · ((try dsimp only); go_keep)
    clear hK K
    try simp only [Act.put, List.setIfInBounds_toArray, List.set_cons_zero, List.set_cons_succ]
    refine tkH (i := 23) (v := ?_) (hy := .inl ⟨by rfl, ?_⟩) (h := ?_)
    rotate_left 1
    · (intro wS hSw; (try dsimp only at hSw); go_simp; try (with_reducible rfl))
    try simp only [Act.put, List.setIfInBounds_toArray, List.set_cons_zero, List.set_cons_succ]
    refine tkH (i := 24) (v := ?_) (hy := .inl ⟨by rfl, ?_⟩) (h := ?_)
    rotate_left 1
    · (intro wS hSw; (try dsimp only at hSw); go_simp; try (with_reducible rfl))
    try simp only [Act.put, List.setIfInBounds_toArray, List.set_cons_zero, List.set_cons_succ]
    clear hHeld
    refine wpAnyH_ready (rs := [25]) (by kernel_rfl) (by simp) ?_
    refine AllReadyH.cons (i := 25) (by simp only [List.getElem?_toArray, List.getElem?_cons_succ, List.getElem?_cons_zero]; rfl) (fun K hK => ?_) AllReadyH.nil
    go_simp
    refine hK.out _ _ ?_ (fun hHeld => ?_)
    · ((try dsimp only); go_keep)
    clear hK K
    try simp only [Act.put, List.setIfInBounds_toArray, List.set_cons_zero, List.set_cons_succ]
    refine wpAnyH_done (by kernel_rfl) ?_ _
    first
      | (rw [HVa.out]; obtain ⟨V, hVV, NB, WB, HF⟩ : ∃ V, Va = V ∧ ∃ NB WB, Hid (F2 w V FR NB WB N1 C (.slice sp N2 sc) (.slice gp gl gq) (.slice pp pl pq)) := ⟨_, rfl, _, _, HFa⟩; rw [hVV]; clear hVV)
      | (rw [HVb.out]; obtain ⟨V, hVV, NB, WB, HF⟩ : ∃ V, Vb = V ∧ ∃ NB WB, Hid (F2 w V FR NB WB N1 C (.slice sp N2 sc) (.slice gp gl gq) (.slice pp pl pq)) := ⟨_, rfl, _, _, HFb⟩; rw [hVV]; clear hVV)
      | (rw [HVc.out]; obtain ⟨V, hVV, NB, WB, HF⟩ : ∃ V, Vc = V ∧ ∃ NB WB, Hid (F2 w V FR NB WB N1 C (.slice sp N2 sc) (.slice gp gl gq) (.slice pp pl pq)) := ⟨_, rfl, _, _, HFc⟩; rw [hVV]; clear hVV)
    have hmm := @run_makeMap Tryz.prog
    have f4 := HF.out.row.cell (i := 4) (by decide)
    have f7 := HF.out.row.cell (i := 7) (by decide)
    simp only [frV] at f4 f7
    have y4 : ∀ o, (V.alloc o).cell? ⟨FR, 4, none⟩ = some (.map none) := fun o => kc (bel_alloc _ _) f4
    have u4 : ∀ o, (V.alloc o).frozen? ⟨FR, 4, none⟩ = false := fun o => kf (bel_alloc _ _) f4 (HF.out.row.frozen 4)
    obtain ⟨X1, hX1⟩ : ∃ X1, (V.alloc (.map #[] 0)).setCell ⟨FR, 4, none⟩ (.map (some V.heap.size)) = X1 := ⟨_, rfl⟩
    have hrX := (HF.out.row.alloc (.map #[] 0)).set 4 (.map (some V.heap.size))
    rw [hX1] at hrX
    have x7 := hrX.cell (i := 7) (by decide)
    simp only [frV] at x7
    have y7 : ∀ o, (X1.alloc o).cell? ⟨FR, 7, none⟩ = some (.slice none 0 0) := fun o => kc (bel_alloc _ _) x7
    have u7 : ∀ o, (X1.alloc o).frozen? ⟨FR, 7, none⟩ = false := fun o => kf (bel_alloc _ _) x7 (hrX.frozen 7)
    have hsX : X1.heap.size = V.heap.size + 1 := by rw [← hX1]; simp [World.setCell]
    have HF3 := hidM (HF.out.three N0)
    rw [hX1, ← hsX] at HF3
    obtain ⟨V2, hV2⟩ : ∃ V2, (X1.alloc (.cells (madeCells #[.slice none 0 0] N0) 57)).setCell ⟨FR, 7, none⟩ (.slice (some ⟨X1.heap.size, 0, none⟩) N0 N0) = V2 := ⟨_, rfl⟩
    rw [hV2] at HF3
    have hbX : ∀ {a : Addr} {u : Value}, a.block < FR → w.cell? a = some u → X1.cell? a = some u := fun {a u} ha hu => by
      rw [← hX1]
      exact ((((Below.refl FR V).alloc (by have := HF.out.size; omega) _).setCell (p := ⟨FR, 4, none⟩) (by show FR ≤ FR; omega) (.map (some V.heap.size))).cell ha).trans (kc HF.out.bel hu)
    have x0 := hbX (by show R < FR; have := mcell_lt HR0.out; simp at this; rw [← HFR.out]; exact this) HR0.out
    have xc := hbX (by show C < FR; have := mcell_lt HC0.out; simp at this; rw [← HFR.out]; exact this) HC0.out
    have v0 : V2.cell? ⟨R, 0, none⟩ = some (.pointer (some ⟨C, 0, none⟩)) := kc HF3.out.bel HR0.out
    have vc : V2.cell? ⟨C, 0, none⟩ = some (.slice p0 N0 q0) := kc HF3.out.bel HC0.out
    have hmx := mk3 X1
    clear HFa HFb HFc HVa HVb HVc g0 g1 g2 g3 q2 q3 k2a k3a k2b k3b f2a f3a f2b f3b k3c f3c m3 HRow HS1 HB1 hbX hrX f4 f7 x7 hsX hHeld mk2 mk3
    go_wp2
    clear hX1 hV2 hmx x0 xc y4 u4 y7 u7 hmm
    obtain ⟨MB, hMB⟩ : ∃ MB, V.heap.size = MB := ⟨_, rfl⟩
    obtain ⟨UB, hUB⟩ : ∃ UB, X1.heap.size = UB := ⟨_, rfl⟩
    have HMU := hidM (And.intro hMB hUB)
    rw [hMB, hUB] at HF3
    clear hMB hUB HMU
    go_loopw [70] (fun iv wr => ∃ j : Nat, j ≤ N0 ∧ iv = .int .i64 j ∧ Hid (∃ ub, NFI V2 wr FR UB N0 c j ub)) (fun iv _ => N0 - (intOf iv).toNat)
    case atStart => exact ⟨0, Nat.zero_le _, rfl, fun _ => 0, Un.refl _ _, HF3.out.ub.congr fun p _ => by rw [if_neg (Nat.not_lt_zero _)], fun p hp => absurd hp (Nat.not_lt_zero _), fun p hp => absurd hp (Nat.not_lt_zero _), fun p q hp => absurd hp (Nat.not_lt_zero _)⟩
    case round =>
      clear v0 vc
      obtain ⟨j, hj, rfl, HR⟩ := hrel
      obtain ⟨ub, hnf⟩ := HR.out
      have HNF := hidM hnf
      have hUBlt : UB < FR + 5 := by have := HF3.out.n7; omega
      have hbw : Below w.heap.size w wr := HF3.out.bel.trans (HNF.out.un.below HF3.out.bel.size (fun b e => by have := HF3.out.n7; have := HF3.out.fr; omega))
      have HBW := hidM hbw
      have hrF := HF3.out.row.of_block (HNF.out.un.block FR HF3.out.row.lt (by show ¬ FR = UB; have := HF3.out.n7; omega))
      have HRF := hidM hrF
      by_cases hlt : j < N0
      · have hjc : j < c.sign.length := by rw [HE.out.1]; exact hlt
        have hcd := HH.out.code.sign.row.below hbw
        rw [HV0.out] at hcd
        obtain ⟨sb, so, hq, hcj⟩ := hcd.at hjc
        subst hq
        have hmayj := HG.out.1.kind _ (List.getElem_mem hjc)
        have hnmj := HG.out.2.2.2.2 _ (List.getElem_mem hjc)
        have hnumj : numP c.sign[j] = ((numAt c j : Nat) : Int) := by
          unfold numAt
          rw [List.getElem?_eq_getElem hjc]
          show _ = ((numL c.sign[j] : Nat) : Int)
          unfold numL
          have : 0 ≤ numP c.sign[j] := by unfold numP; rw [hmayj]; have := (HG.out.1.len _ (List.getElem_mem hjc)).1; simp only [if_true]; split <;> omega
          omega
        have hnl : numAt c j ≤ 8192 := by
          obtain ⟨e1, e2, e3, e4, e5⟩ := numAt_eq HG.out.1 hjc
          rw [e1, e2]
          rcases e5 with e | e <;> rw [e] <;> omega
        obtain ⟨sj, hsj⟩ : ∃ sj, c.sign[j] = sj := ⟨_, rfl⟩
        rw [hsj] at hcj hnumj hnmj
        have KN : ∀ v, Calls Tryz.prog 47 #[Go.Proofs.YtholhpmnicibgaaGreat.pv sj] v fun e w' => e = .returned (.int .i64 (numAt c j : Nat)) ∧ Below v.heap.size v w' := fun v => by have := sNumbers_any sj hnmj v; rw [hnumj] at this; exact this
        obtain ⟨nj, hnj⟩ : ∃ nj, numAt c j = nj := ⟨_, rfl⟩
        have HNJ := hidM hnj
        rw [hnj] at KN hnl
        have mkj := make_F nj (by omega)
        obtain ⟨nm, kd, ln⟩ := sj
        unfold Go.Proofs.YtholhpmnicibgaaGreat.pv at KN
        unfold parCells at hcj
        simp only at KN hcj
        have HKN : Hid (∀ v, Calls Tryz.prog 47 #[.agg #[.string nm, .int .i64 kd, .int .i64 ln]] v fun e w' => e = .returned (.int .i64 (nj : Int)) ∧ Below v.heap.size v w') := KN
        have y0 := hcj.at 0 (v := .string nm) rfl
        rw [Nat.add_zero] at y0
        have y1 := hcj.at 1 (v := .int .i64 kd) rfl
        have y2 := hcj.at 2 (v := .int .i64 ln) rfl
        have r7 := hrF.cell (i := 7) (by decide)
        simp only [frV] at r7
        have x0 := HNF.out.row.cell hlt
        have x2 := HNF.out.row.frozen j
        rw [if_neg (by omega)] at x0
        have szU : UB < wr.heap.size := HNF.out.row.lt
        have szF : FR < wr.heap.size := hrF.lt
        have n1 : UB ≠ wr.heap.size := by omega
        have n2 : UB ≠ FR := by have := HF3.out.n7; omega
        obtain ⟨V3, hV3⟩ : ∃ V3, wr.alloc (.cells #[.string nm, .int .i64 kd, .int .i64 ln] 72) = V3 := ⟨_, rfl⟩
        have HB5 : Hid (Below wr.heap.size wr V3) := by rw [← hV3]; exact bel_alloc _ _
        have HC5 : Hid (∀ v, Below V3.heap.size V3 v → v.cell? ⟨FR, 7, none⟩ = some (.slice (some ⟨UB, 0, none⟩) N0 N0) ∧ v.cell? ⟨wr.heap.size, 0, none⟩ = some (.string nm) ∧ v.cell? ⟨wr.heap.size, 1, none⟩ = some (.int .i64 kd) ∧ v.cell? ⟨wr.heap.size, 2, none⟩ = some (.int .i64 ln) ∧ v.cell? ⟨UB, j, none⟩ = some (.slice none 0 0) ∧ v.frozen? ⟨UB, j, none⟩ = false) := by
          intro v hv
          have hv2 := bel HB5.out hv
          rw [← hV3] at hv
          exact ⟨kc hv2 r7, kc hv (by simp [go_sem]), kc hv (by simp [go_sem]), kc hv (by simp [go_sem]), kc hv2 x0, kf hv2 x0 x2⟩
        obtain ⟨a0, a1, a2, a3, a4, a5⟩ := HC5.out V3 (bel0 _)
        clear KN hcd hcj hsj hmayj hnmj hnumj hnj hrF hbw hnf r7 x0 x2 mk1
        go_wp2
        clear hV3
        refine wp_region_held_drew (S := (fun v => v.cell? ⟨FR, 7, none⟩ = some (.slice (some ⟨UB, 0, none⟩) N0 N0) ∧ v.cell? ⟨wr.heap.size, 0, none⟩ = some (.string nm) ∧ v.cell? ⟨wr.heap.size, 1, none⟩ = some (.int .i64 kd) ∧ v.cell? ⟨wr.heap.size, 2, none⟩ = some (.int .i64 ln))) (by kernel_rfl) ?_ (fun hHeld => ?_)
        · ((try dsimp only); go_keep)
        refine tkH (i := 0) (v := ?_) (hy := .inl ⟨by rfl, ?_⟩) (h := ?_)
        rotate_left 1
        · (intro wS hSw; (try dsimp only at hSw); go_simp; try (with_reducible rfl))
        try simp only [Act.put, List.setIfInBounds_toArray, List.set_cons_zero, List.set_cons_succ]
        refine tkH (i := 1) (v := ?_) (hy := .inl ⟨by rfl, ?_⟩) (h := ?_)
        rotate_left 1
        · (intro wS hSw; (try dsimp only at hSw); go_simp; try (with_reducible rfl))
        try simp only [Act.put, List.setIfInBounds_toArray, List.set_cons_zero, List.set_cons_succ]
        refine tkH (i := 2) (v := ?_) (hy := .inl ⟨by rfl, ?_⟩) (h := ?_)
        rotate_left 1
        · (intro wS hSw; (try dsimp only at hSw); go_simp; try (with_reducible rfl))
        try simp only [Act.put, List.setIfInBounds_toArray, List.set_cons_zero, List.set_cons_succ]
        refine tkH (i := 3) (v := ?_) (hy := .inl ⟨by rfl, ?_⟩) (h := ?_)
        rotate_left 1
        · (intro wS hSw; (try dsimp only at hSw); go_simp; try (with_reducible rfl))
        try simp only [Act.put, List.setIfInBounds_toArray, List.set_cons_zero, List.set_cons_succ]
        refine tkH (i := 4) (v := ?_) (hy := .inl ⟨by rfl, ?_⟩) (h := ?_)
        rotate_left 1
        · (intro wS hSw; (try dsimp only at hSw); go_simp; try (with_reducible rfl))
        try simp only [Act.put, List.setIfInBounds_toArray, List.set_cons_zero, List.set_cons_succ]
        refine tkH (i := 5) (v := ?_) (hy := .inl ⟨by rfl, ?_⟩) (h := ?_)
        rotate_left 1
        · (intro wS hSw; (try dsimp only at hSw); go_simp; try (with_reducible rfl))
        try simp only [Act.put, List.setIfInBounds_toArray, List.set_cons_zero, List.set_cons_succ]
        clear hHeld
        refine wpAnyH_ready (rs := [6]) (by kernel_rfl) (by simp) ?_
        refine AllReadyH.cons (i := 6) (by simp only [List.getElem?_toArray, List.getElem?_cons_succ, List.getElem?_cons_zero]; rfl) (fun K hK => ?_) AllReadyH.nil
        go_simp
        (go_at_call 47; refine (HKN.out _).mono ?_; rintro e v2 ⟨rfl, hb6⟩; have HB6 : Hid (Below V3.heap.size V3 v2) := bel (bel_drew _) hb6; obtain ⟨a0, a1, a2, a3, a4, a5⟩ := HC5.out v2 HB6.out; have b4 : ∀ o, (v2.alloc o).cell? ⟨UB, j, none⟩ = some (.slice none 0 0) := fun o => kc (bel_alloc _ _) a4; have b5 : ∀ o, (v2.alloc o).frozen? ⟨UB, j, none⟩ = false := fun o => kf (bel_alloc _ _) a4 a5; clear hb6)
        try (go_wp2_with fail)
        refine hK.out _ _ ?_ (fun hHeld => ?_)
        · ((try dsimp only); go_keep)
        clear hK K
        try simp only [Act.put, List.setIfInBounds_toArray, List.set_cons_zero, List.set_cons_succ]
        clear hHeld
        refine wpAnyH_ready (rs := [7]) (by kernel_rfl) (by simp) ?_
        refine AllReadyH.cons (i := 7) (by simp only [List.getElem?_toArray, List.getElem?_cons_succ, List.getElem?_cons_zero]; rfl) (fun K hK => ?_) AllReadyH.nil
        go_simp
        refine hK.out _ _ ?_ (fun hHeld => ?_)
        · ((try dsimp only); go_keep)
        clear hK K
        try simp only [Act.put, List.setIfInBounds_toArray, List.set_cons_zero, List.set_cons_succ]
        refine tkH (i := 8) (v := ?_) (hy := .inl ⟨by rfl, ?_⟩) (h := ?_)
        rotate_left 1
        · (intro wS hSw; (try dsimp only at hSw); go_simp; try (with_reducible rfl))
        try simp only [Act.put, List.setIfInBounds_toArray, List.set_cons_zero, List.set_cons_succ]
        clear hHeld
        refine wpAnyH_ready (rs := [9]) (by kernel_rfl) (by simp) ?_
        refine AllReadyH.cons (i := 9) (by simp only [List.getElem?_toArray, List.getElem?_cons_succ, List.getElem?_cons_zero]; rfl) (fun K hK => ?_) AllReadyH.nil
        go_simp
        refine hK.out _ _ ?_ (fun hHeld => ?_)
        · ((try dsimp only); go_keep)
        clear hK K
        try simp only [Act.put, List.setIfInBounds_toArray, List.set_cons_zero, List.set_cons_succ]
        refine wpAnyH_done (by kernel_rfl) ?_ _
        go_wp2
        go_roundw
        case rel =>
          have hnx := HNF.out.next (v2 := v2) (by have := HF3.out.size; omega) hUBlt (bel HB5.out HB6.out)
          rw [HNJ.out] at hnx
          exact ⟨j + 1, by omega, by go_num, _, hnx⟩
        case measure => simp [intOf]; omega
      · have hjN : j = N0 := by omega
        subst hjN
        clear hrF hbw hnf
        go_wp2
        go_ret
        exact newFrame_end HH.out HG.out.1 HG.out.2.1 HG.out.2.2.1 HG.out.2.2.2.1 HE.out HF3.out HNF.out HBW.out HRF.out
  refine AllReadyH.cons (i := 19) (by simp only [List.getElem?_toArray, List.getElem?_cons_succ, List.getElem?_cons_zero]; rfl) (fun K hK => ?_) AllReadyH.nil
  go_simp
  refine hK.out _ _ ?_ (fun hHeld => ?_)
  · ((try dsimp only); go_keep)
  clear hK K
  try simp only [Act.put, List.setIfInBounds_toArray, List.set_cons_zero, List.set_cons_succ]
  clear hHeld
  refine wpAnyH_ready (rs := [10]) (by kernel_rfl) (by simp) ?_
  refine AllReadyH.cons (i := 10) (by simp only [List.getElem?_toArray, List.getElem?_cons_succ, List.getElem?_cons_zero]; rfl) (fun K hK => ?_) AllReadyH.nil
  go_simp
  refine hK.out _ _ ?_ (fun hHeld => ?_)
  · ((try dsimp only); go_keep)
  clear hK K
  try simp only [Act.put, List.setIfInBounds_toArray, List.set_cons_zero, List.set_cons_succ]
  refine tkH (i := 20) (v := ?_) (hy := .inl ⟨by rfl, ?_⟩) (h := ?_)
  rotate_left 1
  · (intro wS hSw; (try dsimp only at hSw); go_simp; try (with_reducible rfl))
  try simp only [Act.put, List.setIfInBounds_toArray, List.set_cons_zero, List.set_cons_succ]
  refine tkH (i := 21) (v := ?_) (hy := .inl ⟨by rfl, ?_⟩) (h := ?_)
  rotate_left 1
  · (intro wS hSw; (try dsimp only at hSw); go_simp; try (with_reducible rfl))
  try simp only [Act.put, List.setIfInBounds_toArray, List.set_cons_zero, List.set_cons_succ]
  clear hHeld
  refine wpAnyH_ready (rs := [22]) (by kernel_rfl) (by simp) ?_
  refine AllReadyH.cons (i := 22) (by simp only [List.getElem?_toArray, List.getElem?_cons_succ, List.getElem?_cons_zero]; rfl) (fun K hK => ?_) AllReadyH.nil
  go_simp
  refine hK.out _ _ ?_ (fun hHeld => ?_)
  · ((try dsimp only); go_keep)
  clear hK K
  try simp only [Act.put, List.setIfInBounds_toArray, List.set_cons_zero, List.set_cons_succ]
  refine tkH (i := 23) (v := ?_) (hy := .inl ⟨by rfl, ?_⟩) (h := ?_)
  rotate_left 1
  · (intro wS hSw; (try dsimp only at hSw); go_simp; try (with_reducible rfl))
  try simp only [Act.put, List.setIfInBounds_toArray, List.set_cons_zero, List.set_cons_succ]
  refine tkH (i := 24) (v := ?_) (hy := .inl ⟨by rfl, ?_⟩) (h := ?_)
  rotate_left 1
  · (intro wS hSw; (try dsimp only at hSw); go_simp; try (with_reducible rfl))
  try simp only [Act.put, List.setIfInBounds_toArray, List.set_cons_zero, List.set_cons_succ]
  clear hHeld
  refine wpAnyH_ready (rs := [25]) (by kernel_rfl) (by simp) ?_
  refine AllReadyH.cons (i := 25) (by simp only [List.getElem?_toArray, List.getElem?_cons_succ, List.getElem?_cons_zero]; rfl) (fun K hK => ?_) AllReadyH.nil
  go_simp
  refine hK.out _ _ ?_ (fun hHeld => ?_)
  · ((try dsimp only); go_keep)
  clear hK K
  try simp only [Act.put, List.setIfInBounds_toArray, List.set_cons_zero, List.set_cons_succ]
  refine wpAnyH_done (by kernel_rfl) ?_ _
  first
    | (rw [HVa.out]; obtain ⟨V, hVV, NB, WB, HF⟩ : ∃ V, Va = V ∧ ∃ NB WB, Hid (F2 w V FR NB WB N1 C (.slice sp N2 sc) (.slice gp gl gq) (.slice pp pl pq)) := ⟨_, rfl, _, _, HFa⟩; rw [hVV]; clear hVV)
    | (rw [HVb.out]; obtain ⟨V, hVV, NB, WB, HF⟩ : ∃ V, Vb = V ∧ ∃ NB WB, Hid (F2 w V FR NB WB N1 C (.slice sp N2 sc) (.slice gp gl gq) (.slice pp pl pq)) := ⟨_, rfl, _, _, HFb⟩; rw [hVV]; clear hVV)
    | (rw [HVc.out]; obtain ⟨V, hVV, NB, WB, HF⟩ : ∃ V, Vc = V ∧ ∃ NB WB, Hid (F2 w V FR NB WB N1 C (.slice sp N2 sc) (.slice gp gl gq) (.slice pp pl pq)) := ⟨_, rfl, _, _, HFc⟩; rw [hVV]; clear hVV)
  have hmm := @run_makeMap Tryz.prog
  have f4 := HF.out.row.cell (i := 4) (by decide)
  have f7 := HF.out.row.cell (i := 7) (by decide)
  simp only [frV] at f4 f7
  have y4 : ∀ o, (V.alloc o).cell? ⟨FR, 4, none⟩ = some (.map none) := fun o => kc (bel_alloc _ _) f4
  have u4 : ∀ o, (V.alloc o).frozen? ⟨FR, 4, none⟩ = false := fun o => kf (bel_alloc _ _) f4 (HF.out.row.frozen 4)
  obtain ⟨X1, hX1⟩ : ∃ X1, (V.alloc (.map #[] 0)).setCell ⟨FR, 4, none⟩ (.map (some V.heap.size)) = X1 := ⟨_, rfl⟩
  have hrX := (HF.out.row.alloc (.map #[] 0)).set 4 (.map (some V.heap.size))
  rw [hX1] at hrX
  have x7 := hrX.cell (i := 7) (by decide)
  simp only [frV] at x7
  have y7 : ∀ o, (X1.alloc o).cell? ⟨FR, 7, none⟩ = some (.slice none 0 0) := fun o => kc (bel_alloc _ _) x7
  have u7 : ∀ o, (X1.alloc o).frozen? ⟨FR, 7, none⟩ = false := fun o => kf (bel_alloc _ _) x7 (hrX.frozen 7)
  have hsX : X1.heap.size = V.heap.size + 1 := by rw [← hX1]; simp [World.setCell]
  have HF3 := hidM (HF.out.three N0)
  rw [hX1, ← hsX] at HF3
  obtain ⟨V2, hV2⟩ : ∃ V2, (X1.alloc (.cells (madeCells #[.slice none 0 0] N0) 57)).setCell ⟨FR, 7, none⟩ (.slice (some ⟨X1.heap.size, 0, none⟩) N0 N0) = V2 := ⟨_, rfl⟩
  rw [hV2] at HF3
  have hbX : ∀ {a : Addr} {u : Value}, a.block < FR → w.cell? a = some u → X1.cell? a = some u := fun {a u} ha hu => by
    rw [← hX1]
    exact ((((Below.refl FR V).alloc (by have := HF.out.size; omega) _).setCell (p := ⟨FR, 4, none⟩) (by show FR ≤ FR; omega) (.map (some V.heap.size))).cell ha).trans (kc HF.out.bel hu)
  have x0 := hbX (by show R < FR; have := mcell_lt HR0.out; simp at this; rw [← HFR.out]; exact this) HR0.out
  have xc := hbX (by show C < FR; have := mcell_lt HC0.out; simp at this; rw [← HFR.out]; exact this) HC0.out
  have v0 : V2.cell? ⟨R, 0, none⟩ = some (.pointer (some ⟨C, 0, none⟩)) := kc HF3.out.bel HR0.out
  have vc : V2.cell? ⟨C, 0, none⟩ = some (.slice p0 N0 q0) := kc HF3.out.bel HC0.out
  have hmx := mk3 X1
  clear HFa HFb HFc HVa HVb HVc g0 g1 g2 g3 q2 q3 k2a k3a k2b k3b f2a f3a f2b f3b k3c f3c m3 HRow HS1 HB1 hbX hrX f4 f7 x7 hsX hHeld mk2 mk3
  go_wp2
  clear hX1 hV2 hmx x0 xc y4 u4 y7 u7 hmm
  obtain ⟨MB, hMB⟩ : ∃ MB, V.heap.size = MB := ⟨_, rfl⟩
  obtain ⟨UB, hUB⟩ : ∃ UB, X1.heap.size = UB := ⟨_, rfl⟩
  have HMU := hidM (And.intro hMB hUB)
  rw [hMB, hUB] at HF3
  clear hMB hUB HMU
  go_loopw [70] (fun iv wr => ∃ j : Nat, j ≤ N0 ∧ iv = .int .i64 j ∧ Hid (∃ ub, NFI V2 wr FR UB N0 c j ub)) (fun iv _ => N0 - (intOf iv).toNat)
  case atStart => exact ⟨0, Nat.zero_le _, rfl, fun _ => 0, Un.refl _ _, HF3.out.ub.congr fun p _ => by rw [if_neg (Nat.not_lt_zero _)], fun p hp => absurd hp (Nat.not_lt_zero _), fun p hp => absurd hp (Nat.not_lt_zero _), fun p q hp => absurd hp (Nat.not_lt_zero _)⟩
  case round =>
    clear v0 vc
    obtain ⟨j, hj, rfl, HR⟩ := hrel
    obtain ⟨ub, hnf⟩ := HR.out
    have HNF := hidM hnf
    have hUBlt : UB < FR + 5 := by have := HF3.out.n7; omega
    have hbw : Below w.heap.size w wr := HF3.out.bel.trans (HNF.out.un.below HF3.out.bel.size (fun b e => by have := HF3.out.n7; have := HF3.out.fr; omega))
    have HBW := hidM hbw
    have hrF := HF3.out.row.of_block (HNF.out.un.block FR HF3.out.row.lt (by show ¬ FR = UB; have := HF3.out.n7; omega))
    have HRF := hidM hrF
    by_cases hlt : j < N0
    · have hjc : j < c.sign.length := by rw [HE.out.1]; exact hlt
      have hcd := HH.out.code.sign.row.below hbw
      rw [HV0.out] at hcd
      obtain ⟨sb, so, hq, hcj⟩ := hcd.at hjc
      subst hq
      have hmayj := HG.out.1.kind _ (List.getElem_mem hjc)
      have hnmj := HG.out.2.2.2.2 _ (List.getElem_mem hjc)
      have hnumj : numP c.sign[j] = ((numAt c j : Nat) : Int) := by
        unfold numAt
        rw [List.getElem?_eq_getElem hjc]
        show _ = ((numL c.sign[j] : Nat) : Int)
        unfold numL
        have : 0 ≤ numP c.sign[j] := by unfold numP; rw [hmayj]; have := (HG.out.1.len _ (List.getElem_mem hjc)).1; simp only [if_true]; split <;> omega
        omega
      have hnl : numAt c j ≤ 8192 := by
        obtain ⟨e1, e2, e3, e4, e5⟩ := numAt_eq HG.out.1 hjc
        rw [e1, e2]
        rcases e5 with e | e <;> rw [e] <;> omega
      obtain ⟨sj, hsj⟩ : ∃ sj, c.sign[j] = sj := ⟨_, rfl⟩
      rw [hsj] at hcj hnumj hnmj
      have KN : ∀ v, Calls Tryz.prog 47 #[Go.Proofs.YtholhpmnicibgaaGreat.pv sj] v fun e w' => e = .returned (.int .i64 (numAt c j : Nat)) ∧ Below v.heap.size v w' := fun v => by have := sNumbers_any sj hnmj v; rw [hnumj] at this; exact this
      obtain ⟨nj, hnj⟩ : ∃ nj, numAt c j = nj := ⟨_, rfl⟩
      have HNJ := hidM hnj
      rw [hnj] at KN hnl
      have mkj := make_F nj (by omega)
      obtain ⟨nm, kd, ln⟩ := sj
      unfold Go.Proofs.YtholhpmnicibgaaGreat.pv at KN
      unfold parCells at hcj
      simp only at KN hcj
      have HKN : Hid (∀ v, Calls Tryz.prog 47 #[.agg #[.string nm, .int .i64 kd, .int .i64 ln]] v fun e w' => e = .returned (.int .i64 (nj : Int)) ∧ Below v.heap.size v w') := KN
      have y0 := hcj.at 0 (v := .string nm) rfl
      rw [Nat.add_zero] at y0
      have y1 := hcj.at 1 (v := .int .i64 kd) rfl
      have y2 := hcj.at 2 (v := .int .i64 ln) rfl
      have r7 := hrF.cell (i := 7) (by decide)
      simp only [frV] at r7
      have x0 := HNF.out.row.cell hlt
      have x2 := HNF.out.row.frozen j
      rw [if_neg (by omega)] at x0
      have szU : UB < wr.heap.size := HNF.out.row.lt
      have szF : FR < wr.heap.size := hrF.lt
      have n1 : UB ≠ wr.heap.size := by omega
      have n2 : UB ≠ FR := by have := HF3.out.n7; omega
      obtain ⟨V3, hV3⟩ : ∃ V3, wr.alloc (.cells #[.string nm, .int .i64 kd, .int .i64 ln] 72) = V3 := ⟨_, rfl⟩
      have HB5 : Hid (Below wr.heap.size wr V3) := by rw [← hV3]; exact bel_alloc _ _
      have HC5 : Hid (∀ v, Below V3.heap.size V3 v → v.cell? ⟨FR, 7, none⟩ = some (.slice (some ⟨UB, 0, none⟩) N0 N0) ∧ v.cell? ⟨wr.heap.size, 0, none⟩ = some (.string nm) ∧ v.cell? ⟨wr.heap.size, 1, none⟩ = some (.int .i64 kd) ∧ v.cell? ⟨wr.heap.size, 2, none⟩ = some (.int .i64 ln) ∧ v.cell? ⟨UB, j, none⟩ = some (.slice none 0 0) ∧ v.frozen? ⟨UB, j, none⟩ = false) := by
        intro v hv
        have hv2 := bel HB5.out hv
        rw [← hV3] at hv
        exact ⟨kc hv2 r7, kc hv (by simp [go_sem]), kc hv (by simp [go_sem]), kc hv (by simp [go_sem]), kc hv2 x0, kf hv2 x0 x2⟩
      obtain ⟨a0, a1, a2, a3, a4, a5⟩ := HC5.out V3 (bel0 _)
      clear KN hcd hcj hsj hmayj hnmj hnumj hnj hrF hbw hnf r7 x0 x2 mk1
      go_wp2
      clear hV3
      refine wp_region_held_drew (S := (fun v => v.cell? ⟨FR, 7, none⟩ = some (.slice (some ⟨UB, 0, none⟩) N0 N0) ∧ v.cell? ⟨wr.heap.size, 0, none⟩ = some (.string nm) ∧ v.cell? ⟨wr.heap.size, 1, none⟩ = some (.int .i64 kd) ∧ v.cell? ⟨wr.heap.size, 2, none⟩ = some (.int .i64 ln))) (by kernel_rfl) ?_ (fun hHeld => ?_)
      · ((try dsimp only); go_keep)
      refine tkH (i := 0) (v := ?_) (hy := .inl ⟨by rfl, ?_⟩) (h := ?_)
      rotate_left 1
      · (intro wS hSw; (try dsimp only at hSw); go_simp; try (with_reducible rfl))
      try simp only [Act.put, List.setIfInBounds_toArray, List.set_cons_zero, List.set_cons_succ]
      refine tkH (i := 1) (v := ?_) (hy := .inl ⟨by rfl, ?_⟩) (h := ?_)
      rotate_left 1
      · (intro wS hSw; (try dsimp only at hSw); go_simp; try (with_reducible rfl))
      try simp only [Act.put, List.setIfInBounds_toArray, List.set_cons_zero, List.set_cons_succ]
      refine tkH (i := 2) (v := ?_) (hy := .inl ⟨by rfl, ?_⟩) (h := ?_)
      rotate_left 1
      · (intro wS hSw; (try dsimp only at hSw); go_simp; try (with_reducible rfl))
      try simp only [Act.put, List.setIfInBounds_toArray, List.set_cons_zero, List.set_cons_succ]
      refine tkH (i := 3) (v := ?_) (hy := .inl ⟨by rfl, ?_⟩) (h := ?_)
      rotate_left 1
      · (intro wS hSw; (try dsimp only at hSw); go_simp; try (with_reducible rfl))
      try simp only [Act.put, List.setIfInBounds_toArray, List.set_cons_zero, List.set_cons_succ]
      refine tkH (i := 4) (v := ?_) (hy := .inl ⟨by rfl, ?_⟩) (h := ?_)
      rotate_left 1
      · (intro wS hSw; (try dsimp only at hSw); go_simp; try (with_reducible rfl))
      try simp only [Act.put, List.setIfInBounds_toArray, List.set_cons_zero, List.set_cons_succ]
      refine tkH (i := 5) (v := ?_) (hy := .inl ⟨by rfl, ?_⟩) (h := ?_)
      rotate_left 1
      · (intro wS hSw; (try dsimp only at hSw); go_simp; try (with_reducible rfl))
      try simp only [Act.put, List.setIfInBounds_toArray, List.set_cons_zero, List.set_cons_succ]
      clear hHeld
      refine wpAnyH_ready (rs := [6]) (by kernel_rfl) (by simp) ?_
      refine AllReadyH.cons (i := 6) (by simp only [List.getElem?_toArray, List.getElem?_cons_succ, List.getElem?_cons_zero]; rfl) (fun K hK => ?_) AllReadyH.nil
      go_simp
      (go_at_call 47; refine (HKN.out _).mono ?_; rintro e v2 ⟨rfl, hb6⟩; have HB6 : Hid (Below V3.heap.size V3 v2) := bel (bel_drew _) hb6; obtain ⟨a0, a1, a2, a3, a4, a5⟩ := HC5.out v2 HB6.out; have b4 : ∀ o, (v2.alloc o).cell? ⟨UB, j, none⟩ = some (.slice none 0 0) := fun o => kc (bel_alloc _ _) a4; have b5 : ∀ o, (v2.alloc o).frozen? ⟨UB, j, none⟩ = false := fun o => kf (bel_alloc _ _) a4 a5; clear hb6)
      try (go_wp2_with fail)
      refine hK.out _ _ ?_ (fun hHeld => ?_)
      · ((try dsimp only); go_keep)
      clear hK K
      try simp only [Act.put, List.setIfInBounds_toArray, List.set_cons_zero, List.set_cons_succ]
      clear hHeld
      refine wpAnyH_ready (rs := [7]) (by kernel_rfl) (by simp) ?_
      refine AllReadyH.cons (i := 7) (by simp only [List.getElem?_toArray, List.getElem?_cons_succ, List.getElem?_cons_zero]; rfl) (fun K hK => ?_) AllReadyH.nil
      go_simp
      refine hK.out _ _ ?_ (fun hHeld => ?_)
      · ((try dsimp only); go_keep)
      clear hK K
      try simp only [Act.put, List.setIfInBounds_toArray, List.set_cons_zero, List.set_cons_succ]
      refine tkH (i := 8) (v := ?_) (hy := .inl ⟨by rfl, ?_⟩) (h := ?_)
      rotate_left 1
      · (intro wS hSw; (try dsimp only at hSw); go_simp; try (with_reducible rfl))
      try simp only [Act.put, List.setIfInBounds_toArray, List.set_cons_zero, List.set_cons_succ]
      clear hHeld
      refine wpAnyH_ready (rs := [9]) (by kernel_rfl) (by simp) ?_
      refine AllReadyH.cons (i := 9) (by simp only [List.getElem?_toArray, List.getElem?_cons_succ, List.getElem?_cons_zero]; rfl) (fun K hK => ?_) AllReadyH.nil
      go_simp
      refine hK.out _ _ ?_ (fun hHeld => ?_)
      · ((try dsimp only); go_keep)
      clear hK K
      try simp only [Act.put, List.setIfInBounds_toArray, List.set_cons_zero, List.set_cons_succ]
      refine wpAnyH_done (by kernel_rfl) ?_ _
      go_wp2
      go_roundw
      case rel =>
        have hnx := HNF.out.next (v2 := v2) (by have := HF3.out.size; omega) hUBlt (bel HB5.out HB6.out)
        rw [HNJ.out] at hnx
        exact ⟨j + 1, by omega, by go_num, _, hnx⟩
      case measure => simp [intOf]; omega
    · have hjN : j = N0 := by omega
      subst hjN
      clear hrF hbw hnf
      go_wp2
      go_ret
      exact newFrame_end HH.out HG.out.1 HG.out.2.1 HG.out.2.2.1 HG.out.2.2.2.1 HE.out HF3.out HNF.out HBW.out HRF.out

end Go.Proofs.YtholhpmnicibgaaGreat
