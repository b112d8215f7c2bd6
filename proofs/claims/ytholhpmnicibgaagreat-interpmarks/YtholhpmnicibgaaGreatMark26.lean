import Derived.Test.YtholhpmnicibgaaGreatMark25
import Derived.Test.YtholhpmnicibgaaGreatMark10
import Derived.Test.YtholhpmnicibgaaGreatMark21
import Derived.Test.YtholhpmnicibgaaGreatMark1
import Derived.Test.YtholhpmnicibgaaGreatRows
import Derived.WalkKit
import Derived.ProofKit
import Derived.OpenShut
import Derived.JoinedCond
import Derived.Deep.Slices
import Derived.Deep.Strs
import Derived.SizedLaws
/- The statements' own half, walked. -/
namespace Go.Proofs.YtholhpmnicibgaaGreat
open Go.RowKit
set_option linter.unusedVariables false
set_option linter.unusedSimpArgs false

/-- The four lists of half. -/
structure HalfAt (w : World) (g : Nat) : Prop where
  sign : w.rowIs g 72 3 (fun j => if j = 0 then .string hName else if j = 1 then .int .i64 1 else .int .i64 2)
  regs : RowG 2 tyC w (.slice (some ⟨g + 1, 0, none⟩) 3 3) (halfC 4).regs
  slots : w.rowIs (g + 2) 65 5 (fun j => if j = 0 then .int .i64 2 else if j = 1 then .int .i64 0 else if j = 2 then .bool true else if j = 3 then .int .u32 0 else .int .i64 4)
  list : RowG 7 inC w (.slice (some ⟨g + 3, 0, none⟩) 7 7) (halfC 4).list

theorem rowG_new {α : Type} {k : Nat} {f : α → List Value} (hf : ∀ x, (f x).length = k) {l : List α} (w : World) (cs : Array Value) (t : TypeId) (h : cs.toList = flat f l) (c : Nat) : RowG k f (w.alloc (.cells cs t)) (.slice (some ⟨w.heap.size, 0, none⟩) l.length c) l := by
  refine ⟨_, _, rfl, .inr ⟨w.heap.size, 0, rfl, fun i hi j hj => ?_⟩⟩
  have hj' : j < k := by rw [← hf l[i]]; exact hj
  have h1 := flat_at hf l i j hi hj'
  rw [← h] at h1
  have h2 : cs[0 + i * k + j]? = some (f l[i])[j] := by
    rw [Nat.zero_add, ← Array.getElem?_toList, h1, List.getElem?_eq_getElem hj]
  have h3 : (w.alloc (.cells cs t)).heap[w.heap.size]? = some (.cells cs t (0, 0)) := heap_alloc_new w _
  unfold World.cell?
  simp only [h3]
  exact h2

set_option maxRecDepth 100000 in
set_option maxHeartbeats 4000000 in
theorem half_any (w : World) : Calls Tryz.prog 18 #[] w fun e w' => e = .returned (.agg #[.slice (some ⟨w.heap.size + 1, 0, none⟩) 1 1, .slice (some ⟨w.heap.size + 2, 0, none⟩) 3 3, .slice (some ⟨w.heap.size + 3, 0, none⟩) 1 1, .slice (some ⟨w.heap.size + 4, 0, none⟩) 7 7]) ∧ Below w.heap.size w w' ∧ HalfAt w' (w.heap.size + 1) ∧ w'.heap.size = w.heap.size + 5 := by
  go_enter Tryz.func18, Tryz.ntmps18
  go_wp2
  refine bodyPost_ret (by simp [results, Tryz.results18, go_sem]; try rfl) rfl ?_
  refine ⟨rfl, by go_grown, ?_, by simp⟩
  obtain ⟨W0, hW0⟩ : ∃ W0, w.alloc (.cells #[.slice (some ⟨w.heap.size + 1, 0, none⟩) 1 1, .slice (some ⟨w.heap.size + 1 + 1, 0, none⟩) 3 3, .slice (some ⟨w.heap.size + 1 + 1 + 1, 0, none⟩) 1 1, .slice (some ⟨w.heap.size + 1 + 1 + 1 + 1, 0, none⟩) 7 7] 27) = W0 := ⟨_, rfl⟩
  have hs : W0.heap.size = w.heap.size + 1 := by rw [← hW0]; simp
  rw [hW0, ← hs]
  clear hW0
  have e1 : ∀ o, (W0.alloc o).heap.size = W0.heap.size + 1 := fun o => by simp
  have e2 : ∀ o o', ((W0.alloc o).alloc o').heap.size = W0.heap.size + 2 := fun o o' => by simp
  have e3 : ∀ o o' o'', (((W0.alloc o).alloc o').alloc o'').heap.size = W0.heap.size + 3 := fun o o' o'' => by simp
  refine ⟨?_, ?_, ?_, ?_⟩
  · refine World.rowIs.alloc (World.rowIs.alloc (World.rowIs.alloc (World.rowIs_alloc W0 #[.string hName, .int .i64 1, .int .i64 2] 72 _ fun i hi => ?_) _) _) _
    have hi' : i < 3 := hi
    obtain rfl | rfl | rfl : i = 0 ∨ i = 1 ∨ i = 2 := by omega
    all_goals rfl
  · rw [← e1 (.cells #[.string hName, .int .i64 1, .int .i64 2] 72)]
    exact ((rowG_new (l := (halfC 4).regs) tyC_len _ _ _ (by rfl) 3).below (bel_alloc _ _)).below (bel_alloc _ _)
  · rw [← e2 (.cells #[.string hName, .int .i64 1, .int .i64 2] 72) (.cells #[.int .i64 3, .int .i64 0, .int .i64 1, .int .i64 0, .int .i64 2, .int .i64 0] 63)]
    refine World.rowIs.alloc (World.rowIs_alloc _ #[.int .i64 2, .int .i64 0, .bool true, .int .u32 0, .int .i64 4] 65 _ fun i hi => ?_) _
    have hi' : i < 5 := hi
    obtain rfl | rfl | rfl | rfl | rfl : i = 0 ∨ i = 1 ∨ i = 2 ∨ i = 3 ∨ i = 4 := by omega
    all_goals rfl
  · rw [← e3 (.cells #[.string hName, .int .i64 1, .int .i64 2] 72) (.cells #[.int .i64 3, .int .i64 0, .int .i64 1, .int .i64 0, .int .i64 2, .int .i64 0] 63) (.cells #[.int .i64 2, .int .i64 0, .bool true, .int .u32 0, .int .i64 4] 65)]
    exact rowG_new (l := (halfC 4).list) inC_len _ _ _ (by rfl) 7
/-- Half, its slot counting from k on, as code in memory. -/
theorem half_code {w : World} {g : Nat} (h : HalfAt w g) {k : Int} {v : World} (hb : ∀ b, b ≠ g + 2 → b < w.heap.size → v.heap[b]? = w.heap[b]?) (hs : v.rowIs (g + 2) 65 5 (fun j => if j = 0 then .int .i64 2 else if j = 1 then .int .i64 0 else if j = 2 then .bool true else if j = 3 then .int .u32 0 else .int .i64 k)) :
    CdV v (.slice (some ⟨g, 0, none⟩) 1 1) (.slice (some ⟨g + 1, 0, none⟩) 3 3) (.slice (some ⟨g + 2, 0, none⟩) 1 1) (.slice (some ⟨g + 3, 0, none⟩) 7 7) (halfC k) := by
  have keep : ∀ {k n : Nat} {α : Type} {f : α → List Value} {l : List α} {b : Nat}, b ≠ g + 2 → RowG k f w (.slice (some ⟨b, 0, none⟩) n n) l → RowG k f v (.slice (some ⟨b, 0, none⟩) n n) l := by
    intro k n α f l b hne hr
    obtain ⟨p, c, hv, hh⟩ := hr
    refine ⟨p, c, hv, ?_⟩
    rcases hh with e | ⟨b', o', hp, hc⟩
    · exact .inl e
    · refine .inr ⟨b', o', hp, fun i hi j hj => ?_⟩
      simp only [Value.slice.injEq] at hv
      obtain ⟨rfl, -, -⟩ := hv
      simp only [Option.some.injEq, Addr.mk.injEq] at hp
      obtain ⟨rfl, rfl, -⟩ := hp
      have h1 := hc i hi j hj
      have h2 := mcell_lt h1
      exact (World.cell?_of_block (hb _ hne h2)).trans h1
  have hsg := h.sign.of_block (hb g (by omega) h.sign.lt)
  refine ⟨?_, keep (by omega) h.regs, ?_, keep (by omega) h.list⟩
  · refine ⟨_, _, rfl, .inr ⟨g, 0, rfl, fun i hi j hj => ?_⟩⟩
    have hi0 : i = 0 := by have : i < 1 := hi; omega
    subst hi0
    have hj' : j < 3 := hj
    have := hsg.cell hj'
    obtain rfl | rfl | rfl : j = 0 ∨ j = 1 ∨ j = 2 := by omega
    all_goals exact this
  · refine ⟨_, _, rfl, .inr ⟨g + 2, 0, rfl, fun i hi j hj => ?_⟩⟩
    have hi0 : i = 0 := by have : i < 1 := hi; omega
    subst hi0
    have hj' : j < 5 := hj
    have := hs.cell hj'
    obtain rfl | rfl | rfl | rfl | rfl : j = 0 ∨ j = 1 ∨ j = 2 ∨ j = 3 ∨ j = 4 := by omega
    all_goals exact this

end Go.Proofs.YtholhpmnicibgaaGreat
/- What IrBegins makes of lists: beginnings, tails, appends. -/
namespace Go.Proofs.YtholhpmnicibgaaGreat
open Go.RowKit
set_option linter.unusedVariables false
set_option linter.unusedSimpArgs false

set_option maxRecDepth 100000 in
theorem app_none (p : Option Addr) (n c : Nat) (x : Option Addr) (d : Nat) (hn : n ≤ c) (hm : n ≤ 140737488351232) (ty : TypeId) (w : World) : (Builtin.append_ #[25, 25] ty #[.slice p n c, .slice x 0 d]).run Tryz.prog w = .ok (.slice p n c) w := by
  obtain ⟨i0, hi0, hz0, hz1, hz2⟩ := info_parts info_Inst
  have h1 : ¬ c < n := by omega
  cases x with
  | none => cases p <;> simp [Builtin.append_, run_underlying Tryz.underlying25, sizeOf, typeInfo, hi0, Builtin.lenOf, Builtin.firstCells, storeCells, loadCells, loadCellsFrom, hn, h1]
  | some a => cases p <;> simp [Builtin.append_, run_underlying Tryz.underlying25, sizeOf, typeInfo, hi0, Builtin.lenOf, Builtin.firstCells, storeCells, loadCells, loadCellsFrom, hn, h1]

end Go.Proofs.YtholhpmnicibgaaGreat
/- The worlds of IrBegins' walk. -/
namespace Go.Proofs.YtholhpmnicibgaaGreat
open Go.RowKit
set_option linter.unusedVariables false
set_option linter.unusedSimpArgs false

end Go.Proofs.YtholhpmnicibgaaGreat
/- Layer 16, plainly: the ways through a code's blocks. No program in it. -/
namespace Go.Proofs.YtholhpmnicibgaaGreat
set_option linter.unusedVariables false
set_option linter.unusedSimpArgs false

def upd (f : Nat → Bool) (n : Nat) (b : Bool) (m : Nat) : Bool := if m = n then b else f m
end Go.Proofs.YtholhpmnicibgaaGreat
/- The worlds of lathelaw16.preamble. -/
namespace Go.Proofs.YtholhpmnicibgaaGreat
open Go.RowKit
set_option linter.unusedVariables false
set_option linter.unusedSimpArgs false

/-- A row put behind an own one. -/
theorem app_on {B : Nat} {V : World} {p : Option Addr} {q : Nat} {l m : List Ins} {x : Option Addr} {d : Nat} (ho : V.ownsRow B 45 7 (.slice p l.length q) l.length (flat inC l)) (hr : RowG 7 inC V (.slice x m.length d) m) (hB : B ≤ V.heap.size) (hl : (l.length + m.length) * 56 ≤ 140737488351232) :
    ∃ p' c' w', (Builtin.append_ #[25, 25] 25 #[.slice p l.length q, .slice x m.length d]).run Tryz.prog V = .ok (.slice p' (l.length + m.length) c') w' ∧ Below B V w' ∧ w'.ownsRow B 45 7 (.slice p' (l.length + m.length) c') (l ++ m).length (flat inC (l ++ m)) ∧ ∀ b, b < V.heap.size → (Value.slice p l.length q).ownBlock ≠ some b → w'.heap[b]? = V.heap[b]? := by
  by_cases h0 : m = []
  · subst h0
    refine ⟨p, q, V, ?_, Below.refl B V, ?_, fun b _ _ => rfl⟩
    · simp only [List.length_nil, Nat.add_zero]
      exact app_none p l.length q x d (own_cap ho) (by omega) _ _
    · simp only [List.length_nil, Nat.add_zero, List.append_nil]
      exact ho
  · obtain ⟨i0, hi0, hz0, hz1, hz2⟩ := info_parts info_Inst
    obtain ⟨p', c', hv, h⟩ := hr
    simp only [Value.slice.injEq] at hv
    obtain ⟨rfl, -, rfl⟩ := hv
    obtain ⟨b, o, rfl, h2⟩ := h.resolve_left h0
    have hpos : 0 < m.length := List.length_pos_iff.2 h0
    obtain ⟨g, cap, w', hr, hown, hg, hat, hlt⟩ := run_append_lies (P := Tryz.prog) V 25 25 B 45 i0 _ 7 56 Tryz.underlying25 hi0 hz0 hz1 hz2 rfl (by decide) (.slice p l.length q) l.length (flat inC l) ho ⟨b, o, none⟩ m.length d (flat inC m) (flat_len inC_len m) (fun j u hu => row_cells (w := V) (by decide) inC_len h2 j u hu) (by intro u hu; obtain ⟨y, _, hy⟩ := List.mem_flatMap.1 hu; exact inC_one y u hy) hpos (by unfold maxLen; omega) (by omega) hB V.heap.size rfl
    refine ⟨some ⟨g, 0, none⟩, cap, w', hr, ?_, ?_, fun k hk hne => ?_⟩
    · exact (Below.refl B V).grown hg hB (fun k e => (ho.lt k e).1)
    · rw [List.length_append, flat_append]; exact hown
    · exact hg.block k hk (Ne.symm hne)

end Go.Proofs.YtholhpmnicibgaaGreat
/- lathelaw17.plain: code without its loops' marks. -/
namespace Go.Proofs.YtholhpmnicibgaaGreat
open Go.RowKit
set_option linter.unusedVariables false
set_option linter.unusedSimpArgs false

theorem noMark_succ {l : List Ins} {j : Nat} (hj : j < l.length) : noMark (l.take (j + 1)) = if isMark l[j] then noMark (l.take j) else noMark (l.take j) ++ [l[j]] := by
  unfold noMark
  rw [List.take_succ_eq_append_getElem hj, List.filter_append]
  cases h : isMark l[j] <;> simp [h]
/-- The code under way: its box at D, its list so far. -/
structure PlW (W : World) (D : Nat) (u0 u1 u2 dv : Value) (l : List Ins) (v : World) : Prop where
  bel : Below D W v
  box : v.rowIs D 27 4 (f4 u0 u1 u2 dv)
  own : v.ownsRow (D + 1) 45 7 dv l.length (flat inC l)
/-- 'append' in a region that draws its order. -/
theorem ready_app {P : Program} {w w' : World} {o : Oper} {a : Act} {K : Act → World → Prop} {Q : Exit → Act → World → Prop} (s x : Operand) (t : TypeId)
    (ho : o.op = .call { callee := .builtin .append, args := #[s, x], argTypes := #[t, t] }) (v v2 v' : Value) (hs : a.eval s = v) (hx : a.eval x = v2) (hr : (Builtin.append_ #[t, t] o.type #[v, v2]).run P w = .ok v' w')
    (h : K (a.put o.dst v') w') (y' : Bool) (hy : y' = true) : if y' = true then Oper.wp P o a w K Q else K (a.put o.dst undef) w := by
  rw [if_pos hy]
  unfold Oper.wp execOp
  simp only [ho, resolve, invoke, builtin, Sem.run_bind, Sem.run_pure, Result.andThen_ok, List.map_toArray, List.map_cons, List.map_nil, hs, hx, hr]
  exact h
theorem plW_more {W : World} {D : Nat} {u0 u1 u2 : Value} {p : Option Addr} {q : Nat} {l : List Ins} {v : World} (h : PlW W D u0 u1 u2 (.slice p l.length q) l v) (hW : D ≤ W.heap.size) (i : Ins) (hl : l.length ≤ 40000) :
    ∃ p' c' w', (Builtin.append_ #[25, 25] 25 #[.slice p l.length q, .slice (some ⟨v.heap.size, 0, none⟩) 1 1]).run Tryz.prog (v.alloc (.cells #[.int .i64 i.op, .int .i64 i.d, .int .i64 i.a, .int .i64 i.b, .int .i64 i.c, .int .i64 i.n, .int .u32 i.bits] 45)).drew = .ok (.slice p' (l.length + 1) c') w' ∧ w'.cell? ⟨D, 3, none⟩ = some (.slice p l.length q) ∧ w'.frozen? ⟨D, 3, none⟩ = false ∧ (∀ b, b < D → w'.heap[b]? = v.heap[b]?) ∧ PlW W D u0 u1 u2 (.slice p' (l.length + 1) c') (l ++ [i]) (w'.setCell ⟨D, 3, none⟩ (.slice p' (l.length + 1) c')) := by
  have hb0 : Below v.heap.size v (v.alloc (.cells #[.int .i64 i.op, .int .i64 i.d, .int .i64 i.a, .int .i64 i.b, .int .i64 i.c, .int .i64 i.n, .int .u32 i.bits] 45)).drew := bel (bel_alloc _ _) (bel_drew _)
  have hsz : D < v.heap.size := h.box.lt
  have hr : RowG 7 inC (v.alloc (.cells #[.int .i64 i.op, .int .i64 i.d, .int .i64 i.a, .int .i64 i.b, .int .i64 i.c, .int .i64 i.n, .int .u32 i.bits] 45)).drew (.slice (some ⟨v.heap.size, 0, none⟩) [i].length 1) [i] := (rowG_new (l := [i]) inC_len v _ _ (by rfl) 1).below (bel_drew _)
  have ho := own_below h.own hb0
  obtain ⟨p', c', w', hrun, hb, hown, hoth⟩ := app_on ho hr (by have := hb0.size; omega) (by show (l.length + 1) * 56 ≤ _; omega)
  have hbox : w'.rowIs D 27 4 (f4 u0 u1 u2 (.slice p l.length q)) := (h.box.of_block (hb0.block _ hsz)).of_block (hoth D (by have := hb0.size; omega) (fun e => by have := (ho.lt D e).1; omega))
  have hlow : ∀ b, b < D → w'.heap[b]? = v.heap[b]? := fun b hbD => (hb.block b (by omega)).trans (hb0.block b (by omega))
  have hsz2 : v.heap.size ≤ w'.heap.size := Nat.le_trans hb0.size hb.size
  refine ⟨p', c', w', hrun, hbox.cell (i := 3) (by decide), hbox.frozen 3, hlow, ?_, (hbox.set 3 _).congr fun j hj => ?_, ?_⟩
  · refine ⟨hb.os.trans (hb0.os.trans h.bel.os), hb.tape.trans (hb0.tape.trans h.bel.tape), hb.output.trans (hb0.output.trans h.bel.output), by simp [World.setCell]; exact Nat.le_trans h.bel.size hsz2, fun b hbD => ?_⟩
    rw [Below.heap_setCell _ _ _ _ (by show b ≠ D; omega), hlow b hbD]
    exact h.bel.block b hbD
  · obtain rfl | rfl | rfl | rfl : j = 0 ∨ j = 1 ∨ j = 2 ∨ j = 3 := by omega
    all_goals rfl
  · exact own_keep (w := w') hown fun g hg => by
      have := (hown.lt g hg).1
      exact Below.heap_setCell _ _ _ _ (by show g ≠ D; omega)

set_option maxRecDepth 100000 in
set_option maxHeartbeats 4000000 in
theorem plain_any (v0 v1 v2 v3 : Value) (c : Cd) (hz : CdSz c) (hL : c.list.length ≤ 32768) (w : World) (hv : CdV w v0 v1 v2 v3 c) :
    Calls Tryz.prog 17 #[.agg #[v0, v1, v2, v3]] w fun e w' => ∃ u0 u1 u2 u3, e = .returned (.agg #[u0, u1, u2, u3]) ∧ CdV w' u0 u1 u2 u3 { c with list := noMark c.list } ∧ Below w.heap.size w w' := by
  have KT := hidM (fun (v : World) (h : Below w.heap.size w v) => twin_any v0 v1 v2 v3 c hz v (hv.below h))
  obtain ⟨p0, q0, rfl⟩ : ∃ p q, v0 = .slice p c.sign.length q := by obtain ⟨p, q, e, _⟩ := hv.sign; exact ⟨p, q, e⟩
  obtain ⟨p1, q1, rfl⟩ : ∃ p q, v1 = .slice p c.regs.length q := by obtain ⟨p, q, e, _⟩ := hv.regs; exact ⟨p, q, e⟩
  obtain ⟨p2, q2, rfl⟩ : ∃ p q, v2 = .slice p c.slots.length q := by obtain ⟨p, q, e, _⟩ := hv.slots; exact ⟨p, q, e⟩
  obtain ⟨p3, q3, rfl⟩ : ∃ p q, v3 = .slice p c.list.length q := by obtain ⟨p, q, e, _⟩ := hv.list; exact ⟨p, q, e⟩
  have HV := hidM hv
  obtain ⟨N0, hN0⟩ : ∃ N, c.sign.length = N := ⟨_, rfl⟩
  obtain ⟨N1, hN1⟩ : ∃ N, c.regs.length = N := ⟨_, rfl⟩
  obtain ⟨N2, hN2⟩ : ∃ N, c.slots.length = N := ⟨_, rfl⟩
  obtain ⟨N3, hN3⟩ : ∃ N, c.list.length = N := ⟨_, rfl⟩
  have HN : Hid (c.list.length = N3) := hN3
  simp only [hN0, hN1, hN2, hN3] at KT HV hL ⊢
  have hb0 : Below w.heap.size w ((w.alloc (.cells #[.slice p0 N0 q0, .slice p1 N1 q1, .slice p2 N2 q2, .slice p3 N3 q3] 27)).alloc (.cells #[.slice none 0 0, .slice none 0 0, .slice none 0 0, .slice none 0 0] 27)) := bel (bel_alloc _ _) (bel_alloc _ _)
  obtain ⟨W0, hW0⟩ : ∃ W0, (w.alloc (.cells #[.slice p0 N0 q0, .slice p1 N1 q1, .slice p2 N2 q2, .slice p3 N3 q3] 27)).alloc (.cells #[.slice none 0 0, .slice none 0 0, .slice none 0 0, .slice none 0 0] 27) = W0 := ⟨_, rfl⟩
  have hs0 : W0.heap.size = w.heap.size + 2 := by rw [← hW0]; simp
  have HC : Hid (CellsAt W0 w.heap.size 0 [.slice p0 N0 q0, .slice p1 N1 q1, .slice p2 N2 q2, .slice p3 N3 q3]) := by
    intro j hj
    have hj' : j < 4 := hj
    rw [← hW0]
    refine kc (bel_alloc _ _) ?_
    obtain rfl | rfl | rfl | rfl : j = 0 ∨ j = 1 ∨ j = 2 ∨ j = 3 := by omega
    all_goals simp [go_sem]
  have HRB : Hid (W0.rowIs (w.heap.size + 1) 27 4 (f4 (.slice none 0 0) (.slice none 0 0) (.slice none 0 0) (.slice none 0 0))) := by
    rw [← hW0]
    have := World.rowIs_alloc (w.alloc (.cells #[.slice p0 N0 q0, .slice p1 N1 q1, .slice p2 N2 q2, .slice p3 N3 q3] 27)) #[.slice none 0 0, .slice none 0 0, .slice none 0 0, .slice none 0 0] 27 (f4 (.slice none 0 0) (.slice none 0 0) (.slice none 0 0) (.slice none 0 0)) (fun i hi => by
      have hi' : i < 4 := hi
      obtain rfl | rfl | rfl | rfl : i = 0 ∨ i = 1 ∨ i = 2 ∨ i = 3 := by omega
      all_goals rfl)
    rw [show (w.alloc (.cells #[.slice p0 N0 q0, .slice p1 N1 q1, .slice p2 N2 q2, .slice p3 N3 q3] 27)).heap.size = w.heap.size + 1 by simp] at this
    exact this
  rw [hW0] at hb0
  have HB0 := hidM hb0
  have HS0 := hidM hs0
  have k0 : W0.cell? ⟨w.heap.size, 0, none⟩ = some (.slice p0 N0 q0) := HC.out.at 0 rfl
  have k1 : W0.cell? ⟨w.heap.size, 1, none⟩ = some (.slice p1 N1 q1) := HC.out.at 1 rfl
  have k2 : W0.cell? ⟨w.heap.size, 2, none⟩ = some (.slice p2 N2 q2) := HC.out.at 2 rfl
  have k3 : W0.cell? ⟨w.heap.size, 3, none⟩ = some (.slice p3 N3 q3) := HC.out.at 3 rfl
  clear hv hz hb0 hs0 hN0 hN1 hN2 hN3
  go_enter Tryz.func17, Tryz.ntmps17
  go_wp2_with (go_at_call 7; (with_reducible refine (KT.out _ HB0.out).mono ?_); rintro e w1 ⟨u0, u1, u2, u3, rfl, hcd, hown, hb1⟩; have HOWN := hidM hown; have HCD := hidM hcd; have HB1 := hidM hb1; obtain ⟨a0, e0, rfl⟩ : ∃ p q, u0 = .slice p c.sign.length q := (by obtain ⟨p, q, e, _⟩ := hcd.sign; exact ⟨p, q, e⟩); obtain ⟨a1, e1, rfl⟩ : ∃ p q, u1 = .slice p c.regs.length q := (by obtain ⟨p, q, e, _⟩ := hcd.regs; exact ⟨p, q, e⟩); obtain ⟨a2, e2, rfl⟩ : ∃ p q, u2 = .slice p c.slots.length q := (by obtain ⟨p, q, e, _⟩ := hcd.slots; exact ⟨p, q, e⟩); obtain ⟨a3, e3, rfl⟩ : ∃ p q, u3 = .slice p c.list.length q := (by obtain ⟨p, q, e, _⟩ := hcd.list; exact ⟨p, q, e⟩); clear hcd hb1 hown)
  obtain ⟨M0, hM0⟩ : ∃ N, c.sign.length = N := ⟨_, rfl⟩
  obtain ⟨M1, hM1⟩ : ∃ N, c.regs.length = N := ⟨_, rfl⟩
  obtain ⟨M2, hM2⟩ : ∃ N, c.slots.length = N := ⟨_, rfl⟩
  rw [hM0, hM1, hM2]
  obtain ⟨W2, hW2⟩ : ∃ W2, w1.alloc (.cells #[.slice a0 M0 e0, .slice a1 M1 e1, .slice a2 M2 e2, .slice none 0 0] 27) = W2 := ⟨_, rfl⟩
  have hrow2 : W2.rowIs w1.heap.size 27 4 (f4 (.slice a0 M0 e0) (.slice a1 M1 e1) (.slice a2 M2 e2) (.slice none 0 0)) := by
    rw [← hW2]
    refine World.rowIs_alloc w1 _ 27 _ fun i hi => ?_
    have hi' : i < 4 := hi
    obtain rfl | rfl | rfl | rfl : i = 0 ∨ i = 1 ∨ i = 2 ∨ i = 3 := by omega
    all_goals rfl
  have hb2 : Below w1.heap.size w1 W2 := by rw [← hW2]; exact bel_alloc _ _
  have hs1 := HB1.out.size
  have hs0 := HS0.out
  obtain ⟨D, hD⟩ : ∃ D, w1.heap.size = D := ⟨_, rfl⟩
  have HPW : Hid (PlW W2 D (.slice a0 M0 e0) (.slice a1 M1 e1) (.slice a2 M2 e2) (.slice none 0 0) [] W2) := by
    rw [← hD]
    exact ⟨Below.refl _ _, hrow2, World.ownsRow_nil _ _ _ _⟩
  have HW2 : Hid (Below w.heap.size w W2 ∧ Below W0.heap.size W0 W2) := ⟨bel HB0.out (bel HB1.out hb2), bel HB1.out hb2⟩
  have HKP : Hid (∀ V : World, (∀ b, w.heap.size + 2 ≤ b → b < D → V.heap[b]? = W2.heap[b]?) → RowG 3 parCells V (.slice a0 M0 e0) c.sign ∧ RowG 2 tyC V (.slice a1 M1 e1) c.regs ∧ RowG 5 slC V (.slice a2 M2 e2) c.slots) := by
    intro V hV
    subst hM0 hM1 hM2 hD
    have ho := HOWN.out
    rw [hs0] at ho
    exact ⟨own_row parC_len (own_keep ho.sign fun g hg => (hV g (ho.sign.lt g hg).1 (ho.sign.lt g hg).2).trans (hb2.block g (ho.sign.lt g hg).2)), own_row tyC_len (own_keep ho.regs fun g hg => (hV g (ho.regs.lt g hg).1 (ho.regs.lt g hg).2).trans (hb2.block g (ho.regs.lt g hg).2)), own_row slC_len (own_keep ho.slots fun g hg => (hV g (ho.slots.lt g hg).1 (ho.slots.lt g hg).2).trans (hb2.block g (ho.slots.lt g hg).2))⟩
  have HD2 : Hid (w.heap.size + 2 ≤ D ∧ D < W2.heap.size) := by rw [← hD]; exact ⟨by omega, hrow2.lt⟩
  rw [hW2, hD]
  clear hW2 hrow2 hb2 hs1 hs0 hD k0 k1 k2 k3 KT hW0
  go_wp2
  go_loopw [4] (fun iv wr => ∃ j : Nat, j ≤ N3 ∧ iv = .int .i64 j ∧ Hid (∃ dv, PlW W2 D (.slice a0 M0 e0) (.slice a1 M1 e1) (.slice a2 M2 e2) dv (noMark (c.list.take j)) wr)) (fun iv _ => N3 - (intOf iv).toNat)
  case atStart => exact ⟨0, Nat.zero_le _, rfl, _, HPW.out⟩
  case round =>
    obtain ⟨j, hj, rfl, HR⟩ := hrel
    obtain ⟨dv, hpw⟩ := HR.out
    obtain ⟨dp, dq, hdv⟩ := own_len hpw.own
    subst hdv
    have HPWR := hidM hpw
    have hlowW : ∀ {a : Addr} {u : Value}, a.block < D → W2.cell? a = some u → wr.cell? a = some u := fun {a u} ha hu => (World.cell?_of_block (hpw.bel.block a.block ha)).trans hu
    have b3 : wr.cell? ⟨w.heap.size, 3, none⟩ = some (.slice p3 N3 q3) := hlowW (by have := HD2.out.1; show w.heap.size < D; omega) (kc HW2.out.2 (HC.out.at 3 rfl))
    have hNl : (noMark (c.list.take j)).length ≤ 40000 := by
      have h1 : (noMark (c.list.take j)).length ≤ (c.list.take j).length := List.length_filter_le _ _
      have h2 : (c.list.take j).length ≤ j := List.length_take_le _ _
      omega
    by_cases hlt : j < N3
    · have hjc : j < c.list.length := by rw [HN.out]; exact hlt
      have hrow := HV.out.list
      rw [← HN.out] at hrow
      obtain ⟨lb, lo, rfl, hcj⟩ := hrow.at hjc
      have hlb : lb < w.heap.size := by have := mcell_lt (hcj.at 0 rfl); exact this
      have HMORE := hidM (fun (hh : True) => plW_more hpw (by have := HD2.out.2; omega) c.list[j] hNl)
      have HNX := hidM (noMark_succ hjc)
      obtain ⟨i, hi⟩ : ∃ i, c.list[j] = i := ⟨_, rfl⟩
      rw [hi] at hcj HMORE HNX
      have hY : ∀ k {u : Value}, (inC i)[k]? = some u → wr.cell? ⟨lb, lo + j * 7 + k, none⟩ = some u := fun k u hu => hlowW (by have := HD2.out.1; show lb < D; omega) (kc HW2.out.1 (hcj.at k hu))
      obtain ⟨io, iD, iA, iB, iC, iN, iT⟩ := i
      have y0 : wr.cell? ⟨lb, lo + j * 7, none⟩ = some (.int .i64 io) := hY 0 rfl
      have y1 : wr.cell? ⟨lb, lo + j * 7 + 1, none⟩ = some (.int .i64 iD) := hY 1 rfl
      have y2 : wr.cell? ⟨lb, lo + j * 7 + 2, none⟩ = some (.int .i64 iA) := hY 2 rfl
      have y3 : wr.cell? ⟨lb, lo + j * 7 + 3, none⟩ = some (.int .i64 iB) := hY 3 rfl
      have y4 : wr.cell? ⟨lb, lo + j * 7 + 4, none⟩ = some (.int .i64 iC) := hY 4 rfl
      have y5 : wr.cell? ⟨lb, lo + j * 7 + 5, none⟩ = some (.int .i64 iN) := hY 5 rfl
      have y6 : wr.cell? ⟨lb, lo + j * 7 + 6, none⟩ = some (.int .u32 iT) := hY 6 rfl
      have d3 : wr.cell? ⟨D, 3, none⟩ = some (.slice dp (noMark (c.list.take j)).length dq) := hpw.box.cell (i := 3) (by decide)
      obtain ⟨L, hL9⟩ : ∃ L, (noMark (c.list.take j)).length = L := ⟨_, rfl⟩
      clear hcj hrow hlowW hY hi hjc
      by_cases hmk : io = 36 ∨ io = 37
      · have hm : isMark ⟨io, iD, iA, iB, iC, iN, iT⟩ = true := by unfold isMark; simpa using hmk
        have HM := hidM hm
        clear HMORE
        rcases hmk with rfl | rfl
        all_goals
          clear hm hpw
          go_wp2
          go_roundw
          case rel =>
            refine ⟨j + 1, by omega, by go_num, .slice dp (noMark (c.list.take j)).length dq, ?_⟩
            rw [HNX.out, if_pos HM.out]
            exact HPWR.out
          case measure => simp [intOf]; omega
      · have hm : isMark ⟨io, iD, iA, iB, iC, iN, iT⟩ = false := by unfold isMark; simp; omega
        have HM := hidM hm
        have n36 : (io != 36) = true := by simp; omega
        have n37 : (io != 37) = true := by simp; omega
        have m36 : (io == 36) = false := by simp; omega
        have m37 : (io == 37) = false := by simp; omega
        obtain ⟨p', c', w3, hrun, hd3, hf3, hlow, hpw3⟩ := HMORE.out trivial
        have HPW3 := hidM hpw3
        rw [hL9] at hrun hd3 d3
        have hDw := HD2.out.1
        have nD1 : D ≠ w.heap.size := by omega
        have nD2 : D ≠ lb := by omega
        have g3 := (World.cell?_of_block (hlow w.heap.size (by omega))).trans b3
        have l0 := (World.cell?_of_block (hlow lb (by omega))).trans y0
        have l1 := (World.cell?_of_block (hlow lb (by omega))).trans y1
        have l2 := (World.cell?_of_block (hlow lb (by omega))).trans y2
        have l3 := (World.cell?_of_block (hlow lb (by omega))).trans y3
        have l4 := (World.cell?_of_block (hlow lb (by omega))).trans y4
        have l5 := (World.cell?_of_block (hlow lb (by omega))).trans y5
        have l6 := (World.cell?_of_block (hlow lb (by omega))).trans y6
        have HL9 := hidM hL9
        clear hm hpw hpw3 hmk hlow HMORE hL9
        go_wp2
        have d3b : (wr.alloc (.cells #[.int .i64 io, .int .i64 iD, .int .i64 iA, .int .i64 iB, .int .i64 iC, .int .i64 iN, .int .u32 iT] 45)).drew.cell? ⟨D, 3, none⟩ = some (.slice dp L dq) := kc (bel (bel_alloc _ _) (bel_drew _)) d3
        refine wp_region_held_drew (S := (fun v => v.cell? ⟨w.heap.size, 3, none⟩ = some (.slice (some ⟨lb, lo, none⟩) N3 q3) ∧ v.cell? ⟨lb, lo + j * 7, none⟩ = some (.int .i64 io) ∧ v.cell? ⟨lb, lo + j * 7 + 1, none⟩ = some (.int .i64 iD) ∧ v.cell? ⟨lb, lo + j * 7 + 2, none⟩ = some (.int .i64 iA) ∧ v.cell? ⟨lb, lo + j * 7 + 3, none⟩ = some (.int .i64 iB) ∧ v.cell? ⟨lb, lo + j * 7 + 4, none⟩ = some (.int .i64 iC) ∧ v.cell? ⟨lb, lo + j * 7 + 5, none⟩ = some (.int .i64 iN) ∧ v.cell? ⟨lb, lo + j * 7 + 6, none⟩ = some (.int .u32 iT))) (by kernel_rfl) ?_ (fun hHeld => ?_)
        · ((try dsimp only); go_keep)
        refine tkH (i := 0) (v := ?_) (hy := .inl ⟨by rfl, ?_⟩) (h := ?_)
        rotate_left 1
        · (intro wS hSw; (try dsimp only at hSw); go_simp; try (with_reducible rfl))
        try simp only [Act.put, List.setIfInBounds_toArray, List.set_cons_zero, List.set_cons_succ]
        refine tkH (i := 2) (v := ?_) (hy := .inl ⟨by rfl, ?_⟩) (h := ?_)
        rotate_left 1
        · (intro wS hSw; (try dsimp only at hSw); go_simp; try (with_reducible rfl))
        try simp only [Act.put, List.setIfInBounds_toArray, List.set_cons_zero, List.set_cons_succ]
        refine tkH (i := 3) (v := ?_) (hy := .inl ⟨by rfl, ?_⟩) (h := ?_)
        rotate_left 1
        · (intro wS hSw; (try dsimp only at hSw); go_simp; try (with_reducible rfl))
        try simp only [Act.put, List.setIfInBounds_toArray, List.set_cons_zero, List.set_cons_succ]
        refine tkH (i := 4) (v := ?_) (hy := .inl ⟨by rfl, ?_⟩) (h := ?_)
        rotate_left 1
        · (intro wS hSw; (try dsimp only at hSw); go_simp; try (with_reducible rfl))
        try simp only [Act.put, List.setIfInBounds_toArray, List.set_cons_zero, List.set_cons_succ]
        refine tkH (i := 5) (v := ?_) (hy := .inl ⟨by rfl, ?_⟩) (h := ?_)
        rotate_left 1
        · (intro wS hSw; (try dsimp only at hSw); go_simp; try (with_reducible rfl))
        try simp only [Act.put, List.setIfInBounds_toArray, List.set_cons_zero, List.set_cons_succ]
        refine tkH (i := 6) (v := ?_) (hy := .inl ⟨by rfl, ?_⟩) (h := ?_)
        rotate_left 1
        · (intro wS hSw; (try dsimp only at hSw); go_simp; try (with_reducible rfl))
        try simp only [Act.put, List.setIfInBounds_toArray, List.set_cons_zero, List.set_cons_succ]
        clear hHeld
        refine wpAnyH_ready (rs := [1, 7]) (by kernel_rfl) (by simp) ?_
        refine AllReadyH.cons (i := 1) (by simp only [List.getElem?_toArray, List.getElem?_cons_succ, List.getElem?_cons_zero]; rfl) (fun K hK => ?_) ?_
        · go_simp
          refine hK.out _ _ ?_ (fun hHeld => ?_)
          · ((try dsimp only); go_keep)
          clear hK K
          try simp only [Act.put, List.setIfInBounds_toArray, List.set_cons_zero, List.set_cons_succ]
          clear hHeld
          refine wpAnyH_ready (rs := [7]) (by kernel_rfl) (by simp) ?_
          refine AllReadyH.cons (i := 7) (by simp only [List.getElem?_toArray, List.getElem?_cons_succ, List.getElem?_cons_zero]; rfl) (fun K hK => ?_) AllReadyH.nil
          go_simp
          refine hK.out _ _ ?_ (fun hHeld => ?_)
          · ((try dsimp only); go_keep)
          clear hK K
          try simp only [Act.put, List.setIfInBounds_toArray, List.set_cons_zero, List.set_cons_succ]
          clear hHeld
          refine wpAnyH_ready (rs := [8]) (by kernel_rfl) (by simp) ?_
          refine AllReadyH.cons (i := 8) (by simp only [List.getElem?_toArray, List.getElem?_cons_succ, List.getElem?_cons_zero]; rfl) (fun K hK => ?_) AllReadyH.nil
          refine ready_app _ _ _ (by rfl) _ _ _ (by rfl) (by rfl) hrun ?_ _ (by rfl)
          refine hK.out _ _ ?_ (fun hHeld => ?_)
          · ((try dsimp only); go_keep)
          clear hK K
          try simp only [Act.put, List.setIfInBounds_toArray, List.set_cons_zero, List.set_cons_succ]
          refine tkH (i := 9) (v := ?_) (hy := .inl ⟨by rfl, ?_⟩) (h := ?_)
          rotate_left 1
          · (intro wS hSw; (try dsimp only at hSw); go_simp; try (with_reducible rfl))
          try simp only [Act.put, List.setIfInBounds_toArray, List.set_cons_zero, List.set_cons_succ]
          clear hHeld
          refine wpAnyH_ready (rs := [10]) (by kernel_rfl) (by simp) ?_
          refine AllReadyH.cons (i := 10) (by simp only [List.getElem?_toArray, List.getElem?_cons_succ, List.getElem?_cons_zero]; rfl) (fun K hK => ?_) AllReadyH.nil
          go_simp
          refine hK.out _ _ ?_ (fun hHeld => ?_)
          · ((try dsimp only); go_keep)
          clear hK K
          try simp only [Act.put, List.setIfInBounds_toArray, List.set_cons_zero, List.set_cons_succ]
          refine wpAnyH_done (by kernel_rfl) ?_ _
          go_wp2
          go_roundw
          case rel =>
            refine ⟨j + 1, by omega, by go_num, .slice p' (L + 1) c', ?_⟩
            rw [HNX.out, if_neg (by rw [HM.out]; decide)]
            have := HPW3.out
            rw [HL9.out] at this
            exact this
          case measure => simp [intOf]; omega
        refine AllReadyH.cons (i := 7) (by simp only [List.getElem?_toArray, List.getElem?_cons_succ, List.getElem?_cons_zero]; rfl) (fun K hK => ?_) AllReadyH.nil
        go_simp
        refine hK.out _ _ ?_ (fun hHeld => ?_)
        · ((try dsimp only); go_keep)
        clear hK K
        try simp only [Act.put, List.setIfInBounds_toArray, List.set_cons_zero, List.set_cons_succ]
        clear hHeld
        refine wpAnyH_ready (rs := [1]) (by kernel_rfl) (by simp) ?_
        refine AllReadyH.cons (i := 1) (by simp only [List.getElem?_toArray, List.getElem?_cons_succ, List.getElem?_cons_zero]; rfl) (fun K hK => ?_) AllReadyH.nil
        go_simp
        refine hK.out _ _ ?_ (fun hHeld => ?_)
        · ((try dsimp only); go_keep)
        clear hK K
        try simp only [Act.put, List.setIfInBounds_toArray, List.set_cons_zero, List.set_cons_succ]
        clear hHeld
        refine wpAnyH_ready (rs := [8]) (by kernel_rfl) (by simp) ?_
        refine AllReadyH.cons (i := 8) (by simp only [List.getElem?_toArray, List.getElem?_cons_succ, List.getElem?_cons_zero]; rfl) (fun K hK => ?_) AllReadyH.nil
        refine ready_app _ _ _ (by rfl) _ _ _ (by rfl) (by rfl) hrun ?_ _ (by rfl)
        refine hK.out _ _ ?_ (fun hHeld => ?_)
        · ((try dsimp only); go_keep)
        clear hK K
        try simp only [Act.put, List.setIfInBounds_toArray, List.set_cons_zero, List.set_cons_succ]
        refine tkH (i := 9) (v := ?_) (hy := .inl ⟨by rfl, ?_⟩) (h := ?_)
        rotate_left 1
        · (intro wS hSw; (try dsimp only at hSw); go_simp; try (with_reducible rfl))
        try simp only [Act.put, List.setIfInBounds_toArray, List.set_cons_zero, List.set_cons_succ]
        clear hHeld
        refine wpAnyH_ready (rs := [10]) (by kernel_rfl) (by simp) ?_
        refine AllReadyH.cons (i := 10) (by simp only [List.getElem?_toArray, List.getElem?_cons_succ, List.getElem?_cons_zero]; rfl) (fun K hK => ?_) AllReadyH.nil
        go_simp
        refine hK.out _ _ ?_ (fun hHeld => ?_)
        · ((try dsimp only); go_keep)
        clear hK K
        try simp only [Act.put, List.setIfInBounds_toArray, List.set_cons_zero, List.set_cons_succ]
        refine wpAnyH_done (by kernel_rfl) ?_ _
        go_wp2
        go_roundw
        case rel =>
          refine ⟨j + 1, by omega, by go_num, .slice p' (L + 1) c', ?_⟩
          rw [HNX.out, if_neg (by rw [HM.out]; decide)]
          have := HPW3.out
          rw [HL9.out] at this
          exact this
        case measure => simp [intOf]; omega
    · have hjN : j = N3 := by omega
      subst hjN
      have hDw := HD2.out.1
      have hbx := hpw.box
      have b0 : wr.cell? ⟨D, 0, none⟩ = some (.slice a0 M0 e0) := hbx.cell (i := 0) (by decide)
      have b1 : wr.cell? ⟨D, 1, none⟩ = some (.slice a1 M1 e1) := hbx.cell (i := 1) (by decide)
      have b2 : wr.cell? ⟨D, 2, none⟩ = some (.slice a2 M2 e2) := hbx.cell (i := 2) (by decide)
      have b4 : wr.cell? ⟨D, 3, none⟩ = some (.slice dp (noMark (c.list.take j)).length dq) := hbx.cell (i := 3) (by decide)
      have hrb : wr.rowIs (w.heap.size + 1) 27 4 (f4 (.slice none 0 0) (.slice none 0 0) (.slice none 0 0) (.slice none 0 0)) := (HRB.out.of_block (HW2.out.2.block _ HRB.out.lt)).of_block (hpw.bel.block _ (by omega))
      have r0 : wr.cell? ⟨w.heap.size + 1, 0, none⟩ = some (.slice none 0 0) := hrb.cell (i := 0) (by decide)
      have r1 : wr.cell? ⟨w.heap.size + 1, 1, none⟩ = some (.slice none 0 0) := hrb.cell (i := 1) (by decide)
      have r2 : wr.cell? ⟨w.heap.size + 1, 2, none⟩ = some (.slice none 0 0) := hrb.cell (i := 2) (by decide)
      have r3 : wr.cell? ⟨w.heap.size + 1, 3, none⟩ = some (.slice none 0 0) := hrb.cell (i := 3) (by decide)
      have z0 := hrb.frozen 0
      have z1 := hrb.frozen 1
      have z2 := hrb.frozen 2
      have z3 := hrb.frozen 3
      have nD : D ≠ w.heap.size + 1 := by omega
      have nE : w.heap.size ≠ w.heap.size + 1 := by omega
      have htk : c.list.take j = c.list := List.take_of_length_le (by rw [HN.out]; exact Nat.le_refl _)
      have HF : Hid (CdV ((((wr.setCell ⟨w.heap.size + 1, 0, none⟩ (.slice a0 M0 e0)).setCell ⟨w.heap.size + 1, 1, none⟩ (.slice a1 M1 e1)).setCell ⟨w.heap.size + 1, 2, none⟩ (.slice a2 M2 e2)).setCell ⟨w.heap.size + 1, 3, none⟩ (.slice dp (noMark (c.list.take j)).length dq)) (.slice a0 M0 e0) (.slice a1 M1 e1) (.slice a2 M2 e2) (.slice dp (noMark (c.list.take j)).length dq) { c with list := noMark c.list } ∧ Below w.heap.size w ((((wr.setCell ⟨w.heap.size + 1, 0, none⟩ (.slice a0 M0 e0)).setCell ⟨w.heap.size + 1, 1, none⟩ (.slice a1 M1 e1)).setCell ⟨w.heap.size + 1, 2, none⟩ (.slice a2 M2 e2)).setCell ⟨w.heap.size + 1, 3, none⟩ (.slice dp (noMark (c.list.take j)).length dq))) := by
        have U5 : Up (w.heap.size + 2) wr ((((wr.setCell ⟨w.heap.size + 1, 0, none⟩ (.slice a0 M0 e0)).setCell ⟨w.heap.size + 1, 1, none⟩ (.slice a1 M1 e1)).setCell ⟨w.heap.size + 1, 2, none⟩ (.slice a2 M2 e2)).setCell ⟨w.heap.size + 1, 3, none⟩ (.slice dp (noMark (c.list.take j)).length dq)) := (((Up.set _ (by omega) _ _).trans (Up.set _ (by omega) _ _)).trans (Up.set _ (by omega) _ _)).trans (Up.set _ (by omega) _ _)
        have hDs : D < wr.heap.size := hbx.lt
        obtain ⟨q0, q1, q2⟩ := HKP.out _ fun b hb1 hb2 => (U5.2 b hb1 (by omega)).trans (hpw.bel.block b hb2)
        have ho := U5.own hpw.own (by omega)
        have hb : Below w.heap.size w wr := by
          have hbw := hpw.bel
          have hbv := HW2.out.1
          exact ⟨hbw.os.trans hbv.os, hbw.tape.trans hbv.tape, hbw.output.trans hbv.output, Nat.le_trans hbv.size hbw.size, fun b hb => (hbw.block b (by omega)).trans (hbv.block b hb)⟩
        refine ⟨⟨q0, q1, q2, ?_⟩, (((hb.setCell (by show w.heap.size ≤ w.heap.size + 1; omega) _).setCell (by show w.heap.size ≤ w.heap.size + 1; omega) _).setCell (by show w.heap.size ≤ w.heap.size + 1; omega) _).setCell (by show w.heap.size ≤ w.heap.size + 1; omega) _⟩
        have := own_row inC_len ho
        rw [htk] at this ⊢
        exact this
      obtain ⟨L, hL9⟩ : ∃ L, (noMark (c.list.take j)).length = L := ⟨_, rfl⟩
      rw [hL9] at b4 HF
      clear hpw hbx hrb htk hL9 hlowW HPWR hNl
      go_wp2
      refine bodyPost_ret (by simp [results, Tryz.results17, go_sem, *]; try rfl) rfl ?_
      exact ⟨_, _, _, _, rfl, HF.out.1, HF.out.2⟩

end Go.Proofs.YtholhpmnicibgaaGreat
/- Arguments opened: an instruction; code. -/
namespace Go.Proofs.YtholhpmnicibgaaGreat
open Go.ChangeShapes Go.WideShapes Go.ChangeAt Go.RowKit
set_option linter.unusedVariables false
set_option maxRecDepth 100000

theorem cells_Inst : Tryz.prog.cellsOf 45 = 7 := by kernel_rfl
theorem cells_Param : Tryz.prog.cellsOf 72 = 3 := by kernel_rfl
theorem cells_Type : Tryz.prog.cellsOf 63 = 2 := by kernel_rfl
theorem cells_Slot : Tryz.prog.cellsOf 65 = 5 := by kernel_rfl
theorem cells_Code : Tryz.prog.cellsOf 27 = 4 := by kernel_rfl
theorem bytes_Inst : Tryz.prog.bytesOf 45 = 56 := by kernel_rfl
theorem bytes_Param : Tryz.prog.bytesOf 72 = 32 := by kernel_rfl
theorem bytes_Type : Tryz.prog.bytesOf 63 = 16 := by kernel_rfl
theorem bytes_Slot : Tryz.prog.bytesOf 65 = 32 := by kernel_rfl
theorem weights_mem_all {H : Type} {P : Program} {e : TypeId} : ∀ {l : List (DataW H)} {d : DataW H}, d ∈ l → ∀ n ∈ d.weights P e, n ∈ DataW.weightsAll P e l
  | [], d, h, n, hn => by cases h
  | x :: r, d, h, n, hn => by
    simp only [DataW.weightsAll, List.mem_append]
    rcases List.mem_cons.1 h with rfl | h
    · exact .inl hn
    · exact .inr (weights_mem_all h n hn)

section
variable {H : Type} {enc : TypeId × Value → H} {w : World} {base : Nat} {held : Bool}

def InsOk (i : Ins) : Prop := 0 ≤ i.bits ∧ i.bits < 4294967296
theorem open_Ins {fuel : Nat} {cs : List Value} {x : DataW H × List MemPlace} (h : DataW.trod enc Tryz.prog w base (fun _ => true) held fuel 45 cs = some x) : ∃ i : Ins, cs = inC i ∧ InsOk i := by
  obtain ⟨xs, n, hfn, hx, hl, hxl, hf⟩ := DataW.trod_struct Tryz.underlying45 h
  rw [cells_Inst] at hl
  match cs, hl with
  | [v0, v1, v2, v3, v4, v5, v6], _ =>
  match xs, hxl with
  | [y0, y1, y2, y3, y4, y5, y6], _ =>
    have e0 : DataW.trod enc Tryz.prog w base (fun _ => true) held n 3 [v0] = some y0 := hf 0 _ rfl
    have e1 : DataW.trod enc Tryz.prog w base (fun _ => true) held n 3 [v1] = some y1 := hf 1 _ rfl
    have e2 : DataW.trod enc Tryz.prog w base (fun _ => true) held n 3 [v2] = some y2 := hf 2 _ rfl
    have e3 : DataW.trod enc Tryz.prog w base (fun _ => true) held n 3 [v3] = some y3 := hf 3 _ rfl
    have e4 : DataW.trod enc Tryz.prog w base (fun _ => true) held n 3 [v4] = some y4 := hf 4 _ rfl
    have e5 : DataW.trod enc Tryz.prog w base (fun _ => true) held n 3 [v5] = some y5 := hf 5 _ rfl
    have e6 : DataW.trod enc Tryz.prog w base (fun _ => true) held n 43 [v6] = some y6 := hf 6 _ rfl
    obtain ⟨a0, c0, -, w0⟩ := DataW.trod_int Tryz.underlying3 e0
    obtain ⟨a1, c1, -, w1⟩ := DataW.trod_int Tryz.underlying3 e1
    obtain ⟨a2, c2, -, w2⟩ := DataW.trod_int Tryz.underlying3 e2
    obtain ⟨a3, c3, -, w3⟩ := DataW.trod_int Tryz.underlying3 e3
    obtain ⟨a4, c4, -, w4⟩ := DataW.trod_int Tryz.underlying3 e4
    obtain ⟨a5, c5, -, w5⟩ := DataW.trod_int Tryz.underlying3 e5
    obtain ⟨a6, c6, -, w6⟩ := DataW.trod_int Tryz.underlying43 e6
    simp only [List.cons.injEq, and_true] at c0 c1 c2 c3 c4 c5 c6
    subst c0 c1 c2 c3 c4 c5 c6
    exact ⟨⟨a0, a1, a2, a3, a4, a5, a6⟩, rfl, (bounds_u32 w6).1, Int.lt_add_one_of_le (bounds_u32 w6).2⟩
theorem open_Par {fuel : Nat} {cs : List Value} {x : DataW H × List MemPlace} (h : DataW.trod enc Tryz.prog w base (fun _ => true) held fuel 72 cs = some x) (hw : ∀ n ∈ x.1.weights Tryz.prog 72, n ≤ reachBytes) :
    ∃ p : Par, cs = parCells p ∧ p.name.size ≤ 140737488351232 := by
  obtain ⟨xs, n, hfn, hx, hl, hxl, hf⟩ := DataW.trod_struct Tryz.underlying72 h
  rw [cells_Param] at hl
  match cs, hl with
  | [v0, v1, v2], _ =>
  match xs, hxl with
  | [y0, y1, y2], _ =>
    have e0 : DataW.trod enc Tryz.prog w base (fun _ => true) held n 9 [v0] = some y0 := hf 0 _ rfl
    have e1 : DataW.trod enc Tryz.prog w base (fun _ => true) held n 3 [v1] = some y1 := hf 1 _ rfl
    have e2 : DataW.trod enc Tryz.prog w base (fun _ => true) held n 3 [v2] = some y2 := hf 2 _ rfl
    obtain ⟨a0, c0, hd0, w0⟩ := DataW.trod_string Tryz.underlying9 e0
    obtain ⟨a1, c1, hd1, w1⟩ := DataW.trod_int Tryz.underlying3 e1
    obtain ⟨a2, c2, hd2, w2⟩ := DataW.trod_int Tryz.underlying3 e2
    simp only [List.cons.injEq, and_true] at c0 c1 c2
    subst c0 c1 c2
    subst hx
    have hws : ∀ (j : Nat) (t : TypeId) (d : DataW H), [9, 3, 3][j]? = some t → [y0.1, y1.1, y2.1][j]? = some d → ∀ n ∈ d.weights Tryz.prog t, n ≤ reachBytes := fun j t d ht hd n hn => by
      refine hw n ?_
      show n ∈ DataW.weights Tryz.prog 72 (.agg [y0.1, y1.1, y2.1])
      rw [DataW.weights, Tryz.underlying72]
      exact DataW.weights_mem_each (ts := [9, 3, 3]) ht hd n hn
    have s1 : a0.size ≤ 140737488351232 := by
      have := hws 0 _ _ rfl rfl a0.data.toList.length (by rw [hd0]; simp [DataW.weights])
      simpa [reachBytes] using this
    exact ⟨⟨a0, a1, a2⟩, rfl, s1⟩
theorem open_Ty {fuel : Nat} {cs : List Value} {x : DataW H × List MemPlace} (h : DataW.trod enc Tryz.prog w base (fun _ => true) held fuel 63 cs = some x) : ∃ t : Ty, cs = tyC t ∧ True := by
  obtain ⟨xs, n, hfn, hx, hl, hxl, hf⟩ := DataW.trod_struct Tryz.underlying63 h
  rw [cells_Type] at hl
  match cs, hl with
  | [v0, v1], _ =>
  match xs, hxl with
  | [y0, y1], _ =>
    have e0 : DataW.trod enc Tryz.prog w base (fun _ => true) held n 3 [v0] = some y0 := hf 0 _ rfl
    have e1 : DataW.trod enc Tryz.prog w base (fun _ => true) held n 3 [v1] = some y1 := hf 1 _ rfl
    obtain ⟨a0, c0, -, w0⟩ := DataW.trod_int Tryz.underlying3 e0
    obtain ⟨a1, c1, -, w1⟩ := DataW.trod_int Tryz.underlying3 e1
    simp only [List.cons.injEq, and_true] at c0 c1
    subst c0 c1
    exact ⟨⟨a0, a1⟩, rfl, trivial⟩
def SlOk (s : Sl) : Prop := 0 ≤ s.bits ∧ s.bits < 4294967296
theorem open_Sl {fuel : Nat} {cs : List Value} {x : DataW H × List MemPlace} (h : DataW.trod enc Tryz.prog w base (fun _ => true) held fuel 65 cs = some x) : ∃ s : Sl, cs = slC s ∧ SlOk s := by
  obtain ⟨xs, n, hfn, hx, hl, hxl, hf⟩ := DataW.trod_struct Tryz.underlying65 h
  rw [cells_Slot] at hl
  match cs, hl with
  | [v0, v1, v2, v3, v4], _ =>
  match xs, hxl with
  | [y0, y1, y2, y3], _ =>
    have e0 : DataW.trod enc Tryz.prog w base (fun _ => true) held n 63 [v0, v1] = some y0 := hf 0 _ rfl
    have e1 : DataW.trod enc Tryz.prog w base (fun _ => true) held n 4 [v2] = some y1 := hf 1 _ rfl
    have e2 : DataW.trod enc Tryz.prog w base (fun _ => true) held n 43 [v3] = some y2 := hf 2 _ rfl
    have e3 : DataW.trod enc Tryz.prog w base (fun _ => true) held n 3 [v4] = some y3 := hf 3 _ rfl
    obtain ⟨t, ht, -⟩ := open_Ty e0
    obtain ⟨a1, c1, -⟩ := DataW.trod_bool Tryz.underlying4 e1
    obtain ⟨a2, c2, -, w2⟩ := DataW.trod_int Tryz.underlying43 e2
    obtain ⟨a3, c3, -, w3⟩ := DataW.trod_int Tryz.underlying3 e3
    obtain ⟨K, P⟩ := t
    simp only [tyC, List.cons.injEq, and_true] at ht c1 c2 c3
    obtain ⟨rfl, rfl⟩ := ht
    subst c1 c2 c3
    exact ⟨⟨⟨K, P⟩, a1, a2, a3⟩, rfl, (bounds_u32 w2).1, Int.lt_add_one_of_le (bounds_u32 w2).2⟩

/-- A slice of structs, told by how one of them is opened. -/
theorem open_rowG {α : Type} [Inhabited α] {f : α → List Value} {k bytes : Nat} {t e : TypeId} {Good : α → Prop} (hk : 0 < k) (hf : ∀ x, (f x).length = k) (ht : Tryz.prog.underlying t = some (.slice e)) (hce : Tryz.prog.cellsOf e = k) (hby : Tryz.prog.bytesOf e = bytes) (hb0 : 0 < bytes)
    (hop : ∀ {fuel : Nat} {cs : List Value} {x : DataW H × List MemPlace}, DataW.trod enc Tryz.prog w base (fun _ => true) held fuel e cs = some x → (∀ n ∈ x.1.weights Tryz.prog e, n ≤ reachBytes) → ∃ a : α, cs = f a ∧ Good a)
    {fuel : Nat} {v : Value} {x : DataW H × List MemPlace} (h : DataW.trod enc Tryz.prog w base (fun _ => true) held fuel t [v] = some x) (hw : ∀ n ∈ x.1.weights Tryz.prog t, n ≤ reachBytes) :
    ∃ l : List α, RowG k f w v l ∧ l.length * bytes ≤ 140737488351232 ∧ ∀ a ∈ l, Good a := by
  rcases DataW.trod_slice ht h with ⟨hcs, hx⟩ | ⟨a, len, cap, elems, rest, m, hm, hcs, hx, _, hl, _, hel, hread, _, _⟩
  · simp only [List.cons.injEq, and_true] at hcs
    subst hcs
    exact ⟨[], ⟨none, 0, rfl, .inl rfl⟩, by simp, fun a h => by cases h⟩
  · simp only [List.cons.injEq, and_true] at hcs
    subst hcs
    subst hx
    have key : ∀ i, i < len → ∃ q : α, (∀ j, j < k → w.cell? (a.add (i * k + j)) = (f q)[j]?) ∧ Good q := by
      intro i hi
      have h1 := hread i hi
      rw [hce] at h1
      have hie : i < elems.length := by omega
      rw [List.getElem?_eq_getElem hie] at h1
      obtain ⟨cs', h2, h3⟩ := Option.bind_eq_some_iff.1 h1
      obtain ⟨_, hlen3, hcell⟩ := World.cells?_some h2
      obtain ⟨q, hcs, hok⟩ := hop h3 (fun n hn => hw n (by
        rw [DataW.weights, ht]
        exact List.mem_cons_of_mem _ (List.mem_append_left _ (weights_mem_all (List.mem_map.2 ⟨elems[i], List.getElem_mem hie, rfl⟩) n hn))))
      refine ⟨q, fun j hj => ?_, hok⟩
      have := hcell j hj
      rw [Go.Deep.add_add, hcs] at this
      exact this
    obtain ⟨g, hg⟩ := Go.Deep.choose_lt key
    have hTl : ((List.range len).map g).length = len := by simp
    have hbig : len * bytes ≤ 140737488351232 := by
      have := hw _ (by rw [DataW.weights, ht]; exact List.mem_cons_self)
      rw [hby] at this
      simp only [List.length_map, reachBytes] at this
      have hln : elems.length = len := by omega
      simp only [hln] at this
      exact Nat.le_trans (Nat.mul_le_mul_right _ (Nat.le_add_right _ _)) this
    refine ⟨(List.range len).map g, ?_, by rw [hTl]; exact hbig, ?_⟩
    · refine ⟨some a, cap, by rw [hTl], ?_⟩
      by_cases hl0 : len = 0
      · left; simp [hl0]
      · obtain ⟨b, off, spot⟩ := a
        have hne : 0 < (f (g 0)).length := by rw [hf]; exact hk
        have hspot : spot = none := by
          have := (hg 0 (by omega)).1 0 hk
          rw [List.getElem?_eq_getElem hne] at this
          simpa [Addr.add] using World.cell?_spot this
        subst hspot
        refine .inr ⟨b, off, rfl, fun i hi j hj => ?_⟩
        have hi' : i < len := by rw [hTl] at hi; exact hi
        obtain ⟨q, -⟩ := hg i hi'
        have e : ((List.range len).map g)[i] = g i := by simp
        have hj2 : j < (f (g i)).length := by simpa [e] using hj
        have hj3 : j < k := by rw [← hf (g i)]; exact hj2
        have q' := q j hj3
        rw [add_none, ← Nat.add_assoc] at q'
        rw [q', List.getElem?_eq_getElem hj2]
        congr 1
        simp [e]
    · intro q hq
      obtain ⟨i, hi, rfl⟩ := List.mem_map.1 hq
      exact (hg i (List.mem_range.1 hi)).2

instance : Inhabited Ins := ⟨⟨0, 0, 0, 0, 0, 0, 0⟩⟩
instance : Inhabited Ty := ⟨⟨0, 0⟩⟩
instance : Inhabited Sl := ⟨⟨⟨0, 0⟩, false, 0, 0⟩⟩
instance : Inhabited Par := ⟨⟨⟨#[]⟩, 0, 0⟩⟩

end

end Go.Proofs.YtholhpmnicibgaaGreat
/- A case opened: code, and steps of vectors. -/
namespace Go.Proofs.YtholhpmnicibgaaGreat
open Go.ChangeShapes Go.WideShapes Go.ChangeAt Go.RowKit
set_option linter.unusedVariables false
set_option maxRecDepth 100000

theorem icells_F : Tryz.prog.cellsOf 43 = 1 := by kernel_rfl
theorem icells_LF : Tryz.prog.cellsOf 57 = 1 := by kernel_rfl
theorem icells_Step : Tryz.prog.cellsOf 51 = 2 := by kernel_rfl
theorem icells_Case : Tryz.prog.cellsOf 30 = 5 := by kernel_rfl
theorem ibytes_F : Tryz.prog.bytesOf 43 = 4 := by kernel_rfl
theorem ibytes_LF : Tryz.prog.bytesOf 57 = 24 := by kernel_rfl
theorem ibytes_Step : Tryz.prog.bytesOf 51 = 48 := by kernel_rfl
/-- A step that came in. -/
structure St where
  gv : Value
  pv : Value
  G : List (List Int)
  P : List (List Int)
def stC (s : St) : List Value := [s.gv, s.pv]
structure VL where
  v : Value
  l : List Int
def vlC (x : VL) : List Value := [x.v]
instance : Inhabited St := ⟨⟨.slice none 0 0, .slice none 0 0, [], []⟩⟩
instance : Inhabited VL := ⟨⟨.slice none 0 0, []⟩⟩
def High (w : World) : Nat → Prop := fun b => w.heap.size ≤ b
def VLok (w : World) (x : VL) : Prop := Pt (High w) w x.v x.l ∧ x.l.length ≤ 140737488351232 ∧ ∀ y ∈ x.l, IsP y
def StOk (w : World) (s : St) : Prop := VsT (High w) w s.gv s.G ∧ VsT (High w) w s.pv s.P ∧ VsOk s.G ∧ VsOk s.P
theorem rowG_rowT {α : Type} {k : Nat} {f : α → List Value} {w : World} {v : Value} {l : List α} (hk : 0 < k) (hf : ∀ x, (f x).length = k) (h : RowG k f w v l) : RowT (High w) k f w v l := by
  obtain ⟨p, c, e, h⟩ := h
  by_cases h0 : l = []
  · exact ⟨p, c, e, .inl h0⟩
  · rcases h with h | ⟨b, o, hp, hc⟩
    · exact absurd h h0
    · have hl : 0 < l.length := List.length_pos_iff.2 h0
      have hb : b < w.heap.size := by
        have h1 := hc 0 hl
        have h2 : 0 < (f l[0]).length := by rw [hf]; exact hk
        exact mcell_lt (h1 0 h2)
      exact ⟨p, c, e, .inr ⟨b, o, hp, Nat.not_le.2 hb, hb, hc⟩⟩
section
variable {H : Type} {enc : TypeId × Value → H} {w : World} {base : Nat} {held : Bool}
theorem open_FP {fuel : Nat} {cs : List Value} {x : DataW H × List MemPlace} (h : DataW.trod enc Tryz.prog w base (fun _ => true) held fuel 43 cs = some x) : ∃ a : Int, cs = ptC a ∧ IsP a := by
  obtain ⟨a, c, -, w0⟩ := DataW.trod_int Tryz.underlying43 h
  exact ⟨a, c, (bounds_u32 w0).1, Int.lt_add_one_of_le (bounds_u32 w0).2⟩
theorem open_VL {fuel : Nat} {cs : List Value} {x : DataW H × List MemPlace} (h : DataW.trod enc Tryz.prog w base (fun _ => true) held fuel 57 cs = some x) (hw : ∀ n ∈ x.1.weights Tryz.prog 57, n ≤ reachBytes) : ∃ a : VL, cs = vlC a ∧ VLok w a := by
  obtain ⟨v, rfl⟩ : ∃ v, cs = [v] := by
    rcases DataW.trod_slice Tryz.underlying57 h with ⟨hcs, _⟩ | ⟨a, len, cap, elems, rest, m, hm, hcs, _⟩
    · exact ⟨_, hcs⟩
    · exact ⟨_, hcs⟩
  obtain ⟨l, hr, hlen, hg⟩ := open_rowG (f := ptC) (k := 1) (Good := IsP) (by decide) (fun _ => rfl) Tryz.underlying57 icells_F ibytes_F (by decide) (fun h _ => open_FP h) h hw
  exact ⟨⟨v, l⟩, rfl, rowG_rowT (by decide) (fun _ => rfl) hr, by show l.length ≤ _; omega, hg⟩
theorem open_VsT {fuel : Nat} {v : Value} {x : DataW H × List MemPlace} (h : DataW.trod enc Tryz.prog w base (fun _ => true) held fuel 47 [v] = some x) (hw : ∀ n ∈ x.1.weights Tryz.prog 47, n ≤ reachBytes) : ∃ L, VsT (High w) w v L ∧ VsOk L := by
  obtain ⟨l, hr, hlen, hg⟩ := open_rowG (f := vlC) (k := 1) (Good := VLok w) (by decide) (fun _ => rfl) Tryz.underlying47 icells_LF ibytes_LF (by decide) (fun h hw => open_VL h hw) h hw
  obtain ⟨p, c, rfl, hh⟩ := rowG_rowT (k := 1) (f := vlC) (by decide) (fun _ => rfl) hr
  refine ⟨l.map VL.l, ⟨p, c, by simp, ?_⟩, ⟨by simp; omega, ?_, ?_⟩⟩
  · rcases hh with rfl | ⟨b, o, hp, hT, hb, hc⟩
    · exact .inl rfl
    · refine .inr ⟨b, o, hp, hT, hb, fun i hi => ?_⟩
      have hi' : i < l.length := by simpa using hi
      refine ⟨(l[i]).v, ?_, ?_⟩
      · have := (hc i hi').at 0 rfl
        simpa using this
      · simpa using (hg l[i] (List.getElem_mem hi')).1
  · intro y hy
    obtain ⟨a, ha, rfl⟩ := List.mem_map.1 hy
    exact (hg a ha).2.1
  · intro y hy z hz
    obtain ⟨a, ha, rfl⟩ := List.mem_map.1 hy
    exact (hg a ha).2.2 z hz
theorem open_St {fuel : Nat} {cs : List Value} {x : DataW H × List MemPlace} (h : DataW.trod enc Tryz.prog w base (fun _ => true) held fuel 51 cs = some x) (hw : ∀ n ∈ x.1.weights Tryz.prog 51, n ≤ reachBytes) : ∃ s : St, cs = stC s ∧ StOk w s := by
  obtain ⟨xs, n, hfn, hx, hl, hxl, hf⟩ := DataW.trod_struct Tryz.underlying51 h
  rw [icells_Step] at hl
  match cs, hl with
  | [v0, v1], _ =>
  match xs, hxl with
  | [y0, y1], _ =>
    have e0 : DataW.trod enc Tryz.prog w base (fun _ => true) held n 47 [v0] = some y0 := hf 0 _ rfl
    have e1 : DataW.trod enc Tryz.prog w base (fun _ => true) held n 47 [v1] = some y1 := hf 1 _ rfl
    subst hx
    have hws : ∀ (j : Nat) (t : TypeId) (d : DataW H), [47, 47][j]? = some t → [y0.1, y1.1][j]? = some d → ∀ n ∈ d.weights Tryz.prog t, n ≤ reachBytes := fun j t d ht hd n hn => by
      refine hw n ?_
      show n ∈ DataW.weights Tryz.prog 51 (.agg [y0.1, y1.1])
      rw [DataW.weights, Tryz.underlying51]
      exact DataW.weights_mem_each (ts := [47, 47]) ht hd n hn
    obtain ⟨G, g1, g2⟩ := open_VsT e0 (hws 0 _ _ rfl rfl)
    obtain ⟨P, p1, p2⟩ := open_VsT e1 (hws 1 _ _ rfl rfl)
    exact ⟨⟨v0, v1, G, P⟩, rfl, g1, p1, g2, p2⟩
theorem open_CodeC {fuel : Nat} {cs : List Value} {x : DataW H × List MemPlace} (h : DataW.trod enc Tryz.prog w base (fun _ => true) held fuel 27 cs = some x) (hw : ∀ n ∈ x.1.weights Tryz.prog 27, n ≤ reachBytes) :
    ∃ (v0 v1 v2 v3 : Value) (c : Cd), cs = [v0, v1, v2, v3] ∧ CdV w v0 v1 v2 v3 c ∧ CdOk c ∧ CdSz c := by
  obtain ⟨xs, n, hfn, hx, hl, hxl, hf⟩ := DataW.trod_struct Tryz.underlying27 h
  rw [cells_Code] at hl
  match cs, hl with
  | [v0, v1, v2, v3], _ =>
  match xs, hxl with
  | [y0, y1, y2, y3], _ =>
    have e0 : DataW.trod enc Tryz.prog w base (fun _ => true) held n 22 [v0] = some y0 := hf 0 _ rfl
    have e1 : DataW.trod enc Tryz.prog w base (fun _ => true) held n 23 [v1] = some y1 := hf 1 _ rfl
    have e2 : DataW.trod enc Tryz.prog w base (fun _ => true) held n 24 [v2] = some y2 := hf 2 _ rfl
    have e3 : DataW.trod enc Tryz.prog w base (fun _ => true) held n 25 [v3] = some y3 := hf 3 _ rfl
    subst hx
    have hws : ∀ (j : Nat) (t : TypeId) (d : DataW H), [22, 23, 24, 25][j]? = some t → [y0.1, y1.1, y2.1, y3.1][j]? = some d → ∀ n ∈ d.weights Tryz.prog t, n ≤ reachBytes := fun j t d' ht hd' n hn => by
      refine hw n ?_
      show n ∈ DataW.weights Tryz.prog 27 (.agg [y0.1, y1.1, y2.1, y3.1])
      rw [DataW.weights, Tryz.underlying27]
      exact DataW.weights_mem_each (ts := [22, 23, 24, 25]) ht hd' n hn
    obtain ⟨l0, r0, s0, g0⟩ := open_rowG (Good := fun p : Par => p.name.size ≤ 140737488351232) (by decide) parC_len Tryz.underlying22 cells_Param bytes_Param (by decide) (fun h hw => open_Par h hw) e0 (hws 0 _ _ rfl rfl)
    obtain ⟨l1, r1, s1, g1⟩ := open_rowG (Good := fun _ : Ty => True) (by decide) tyC_len Tryz.underlying23 cells_Type bytes_Type (by decide) (fun h _ => open_Ty h) e1 (hws 1 _ _ rfl rfl)
    obtain ⟨l2, r2, s2, g2⟩ := open_rowG (Good := SlOk) (by decide) slC_len Tryz.underlying24 cells_Slot bytes_Slot (by decide) (fun h _ => open_Sl h) e2 (hws 2 _ _ rfl rfl)
    obtain ⟨l3, r3, s3, g3⟩ := open_rowG (Good := InsOk) (by decide) inC_len Tryz.underlying25 cells_Inst bytes_Inst (by decide) (fun h _ => open_Ins h) e3 (hws 3 _ _ rfl rfl)
    exact ⟨v0, v1, v2, v3, ⟨l0, l1, l2, l3⟩, rfl, ⟨r0, r1, r2, r3⟩, ⟨by show l0.length ≤ _; omega, g0, by show l1.length ≤ _; omega, by show l2.length ≤ _; omega, by show l3.length ≤ _; omega, g2, g3⟩, ⟨s0, s1, s2, s3⟩⟩
/-- A case that came in. -/
theorem open_Case {r : Reach} {b0 : Nat} {v : Value} {d : DataW H} {pl : List MemPlace} (hv : Value.okWide Tryz.prog w r b0 30 v) (h : DataW.Trod enc Tryz.prog w base (fun _ => true) held 30 v d pl) (hw : ∀ n ∈ d.weights Tryz.prog 30, n ≤ reachBytes) :
    ∃ (v0 v1 v2 v3 v4 : Value) (c : Cd) (l : List St), v = .agg #[v0, v1, v2, v3, v4] ∧ CdV w v0 v1 v2 v3 c ∧ CdOk c ∧ CdSz c ∧ RowG 2 stC w v4 l ∧ l.length ≤ 140737488351232 ∧ ∀ s ∈ l, StOk w s := by
  obtain ⟨cs, rfl, hsz⟩ := okWide_struct Tryz.underlying30 hv
  obtain ⟨fuel, hf0⟩ := h
  obtain ⟨xs, n, hfn, hx, hl, hxl, hf⟩ := DataW.trod_struct Tryz.underlying30 hf0
  rw [icells_Case] at hl
  obtain ⟨cl, hcl⟩ : ∃ cl, (Value.agg cs).cells.toList = cl := ⟨_, rfl⟩
  rw [hcl] at hl hf
  have hcs : cs.toList = cl := by rw [← hcl]; simp [Value.cells]
  match cl, hl with
  | [v0, v1, v2, v3, v4], _ =>
  match xs, hxl with
  | [y0, y1], _ =>
    have e0 : DataW.trod enc Tryz.prog w base (fun _ => true) held n 27 [v0, v1, v2, v3] = some y0 := hf 0 _ rfl
    have e1 : DataW.trod enc Tryz.prog w base (fun _ => true) held n 28 [v4] = some y1 := hf 1 _ rfl
    have hd : d = .agg [y0.1, y1.1] := congrArg Prod.fst hx
    have hws : ∀ (j : Nat) (t : TypeId) (d : DataW H), [27, 28][j]? = some t → [y0.1, y1.1][j]? = some d → ∀ n ∈ d.weights Tryz.prog t, n ≤ reachBytes := fun j t d' ht hd' n hn => by
      refine hw n ?_
      rw [hd]
      show n ∈ DataW.weights Tryz.prog 30 (.agg [y0.1, y1.1])
      rw [DataW.weights, Tryz.underlying30]
      exact DataW.weights_mem_each (ts := [27, 28]) ht hd' n hn
    obtain ⟨a0, a1, a2, a3, c, he, h1, h2, h3⟩ := open_CodeC e0 (hws 0 _ _ rfl rfl)
    obtain ⟨l, g1, g2, g3⟩ := open_rowG (f := stC) (k := 2) (Good := StOk w) (by decide) (fun _ => rfl) Tryz.underlying28 icells_Step ibytes_Step (by decide) (fun h hw => open_St h hw) e1 (hws 1 _ _ rfl rfl)
    simp only [List.cons.injEq, and_true] at he
    obtain ⟨rfl, rfl, rfl, rfl⟩ := he
    refine ⟨v0, v1, v2, v3, v4, c, l, ?_, h1, h2, h3, g1, by omega, g3⟩
    rw [Value.agg.injEq]
    apply Array.toList_inj.1
    exact hcs
end

end Go.Proofs.YtholhpmnicibgaaGreat
