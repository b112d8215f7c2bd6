import Derived.Test.YtpidjmgifglmiabTreeShelf
import Derived.Test.YtpidjmgifglmiabTreeAsk
import Derived.Deep.OwnRows
/- Package tree: copied. -/
namespace Go.Proofs.Ytpidjmgifglmiab
open Go.RowKit
set_option linter.unusedVariables false
set_option linter.unusedSimpArgs false

/-- Rows that were made, from block C on. -/
def ownH (w : World) (C : Nat) : Heads := fun p n c =>
  (p = none ∧ n = 0 ∧ c = 0) ∨ ∃ b cs, p = some ⟨b, 0, none⟩ ∧ C ≤ b ∧ c = n ∧ 0 < n ∧ w.heap[b]? = some (.cells cs 26) ∧ cs.size = n * 7
theorem ownH.mono {w : World} {C D : Nat} (h : D ≤ C) (p : Option Addr) (n c : Nat) : ownH w C p n c → ownH w D p n c := by
  rintro (h1 | ⟨b, cs, h1, h2, h3⟩)
  · exact .inl h1
  · exact .inr ⟨b, cs, h1, Nat.le_trans h h2, h3⟩
theorem ownH.keep {w w' : World} {C : Nat} (h : ∀ b cs, C ≤ b → w.heap[b]? = some (.cells cs 26) → w'.heap[b]? = some (.cells cs 26)) (p : Option Addr) (n c : Nat) : ownH w C p n c → ownH w' C p n c := by
  rintro (h1 | ⟨b, cs, h1, h2, h3, h4, h5, h6⟩)
  · exact .inl h1
  · exact .inr ⟨b, cs, h1, h2, h3, h4, h b cs h2 h5, h6⟩
/-- A tree of one's own, in another world that holds all blocks from C on. -/
theorem Kids.own {w w' : World} {C : Nat} {v : Value} {l : List Nd} (h : Kids w (ownH w C) v l) (hb : ∀ b, C ≤ b → b < w.heap.size → w'.heap[b]? = w.heap[b]?) : Kids w' (ownH w' C) v l := by
  have h1 : Kids w' (ownH w C) v l := h.keep fun p n c b o j v hq hp hj => by
    have hlt := mcell_lt hj
    rcases hq with ⟨rfl, -⟩ | ⟨b2, cs, rfl, hC, -⟩
    · cases hp
    · simp only [Option.some.injEq, Addr.mk.injEq] at hp
      obtain ⟨rfl, -, -⟩ := hp
      rw [World.cell?_of_block (w := w) (a := ⟨b2, o + j, none⟩) (hb b2 hC hlt)]
      exact hj
  exact h1.weak (ownH.keep fun b cs hC hx => by rw [hb b hC (hlt hx)]; exact hx)
theorem Kids.ownBelow {w w' : World} {C : Nat} {v : Value} {l : List Nd} (h : Kids w (ownH w C) v l) (k : Below w.heap.size w w') : Kids w' (ownH w' C) v l :=
  h.own fun b _ hb => k.block b hb

theorem info_Node : (Try.prog.info? 26).map (fun i => (i.zero, i.size, i.bytes)) = some (some (.agg #[.int .i64 0, .string ⟨#[]⟩, .int .u32 0, .int .i64 0, .string ⟨#[]⟩, .slice none 0 0, .int .i64 0]), 7, 88) := by kernel_rfl

theorem made_size (z : Array Value) (n : Nat) : (madeCells z n).size = n := size_madeCells z n
theorem make_Node (m : Nat) (h : m ≤ 9000) (w : World) : (Instr.makeSlice 24 (.int .i64 m) (.int .i64 m)).run Try.prog w = .ok (.slice (some ⟨w.heap.size, 0, none⟩) m m) (w.alloc (.cells (madeCells #[.int .i64 0, .string ⟨#[]⟩, .int .u32 0, .int .i64 0, .string ⟨#[]⟩, .slice none 0 0, .int .i64 0] (m * 7)) 26)) := by
  obtain ⟨i, hi, hz, hs, hb⟩ := info_parts info_Node
  have hr := run_make (P := Try.prog) w 24 26 i _ Try.underlying24 hi hz .i64 .i64 m m (by omega) (Int.le_refl _) (by rw [hb]; omega) (by omega)
  rw [hs, show (Value.agg #[.int .i64 0, .string ⟨#[]⟩, .int .u32 0, .int .i64 0, .string ⟨#[]⟩, .slice none 0 0, .int .i64 0]).cells = #[.int .i64 0, .string ⟨#[]⟩, .int .u32 0, .int .i64 0, .string ⟨#[]⟩, .slice none 0 0, .int .i64 0] from rfl] at hr
  simpa using hr

/-- While a node is copied: the answer's cells, and those of the copy. -/
def Cp (w : World) (a : Array Value) (v : World) : Prop :=
  Below w.heap.size w v ∧ v.heap[w.heap.size]? = some (.cells #[.int .i64 0, .string ⟨#[]⟩, .int .u32 0, .int .i64 0, .string ⟨#[]⟩, .slice none 0 0, .int .i64 0] 26) ∧ v.heap[w.heap.size + 1]? = some (.cells a 26)
theorem Cp.start (w : World) (a : Array Value) : Cp w a ((w.alloc (.cells #[.int .i64 0, .string ⟨#[]⟩, .int .u32 0, .int .i64 0, .string ⟨#[]⟩, .slice none 0 0, .int .i64 0] 26)).alloc (.cells a 26)) :=
  ⟨bel (bel_alloc _ _) (bel_alloc _ _), heap_old _ _ (box_heap _ _), two_heap _ _ _⟩
theorem Cp.below {w v v' : World} {a : Array Value} (h : Cp w a v) (k : Below v.heap.size v v') : Cp w a v' :=
  ⟨bel h.1 k, by rw [k.block _ (hlt h.2.1)]; exact h.2.1, by rw [k.block _ (hlt h.2.2)]; exact h.2.2⟩
theorem heap_setAt {w : World} {C : Nat} {a : Array Value} {t : TypeId} (h : w.heap[C]? = some (.cells a t)) (i : Nat) (v : Value) : (w.setCell ⟨C, i, none⟩ v).heap[C]? = some (.cells (a.setIfInBounds i v) t) := by
  simp [World.setCell, Array.getElem?_modify, h]
theorem Cp.set {w v : World} {a : Array Value} (h : Cp w a v) (i : Nat) (x : Value) : Cp w (a.setIfInBounds i x) (v.setCell ⟨w.heap.size + 1, i, none⟩ x) :=
  ⟨h.1.setCell (p := ⟨w.heap.size + 1, i, none⟩) (by show w.heap.size ≤ w.heap.size + 1; omega) x, by rw [Below.heap_setCell _ _ _ _ (by show w.heap.size ≠ w.heap.size + 1; omega)]; exact h.2.1, heap_setAt h.2.2 i x⟩
theorem at_cell {w : World} {C : Nat} {a : Array Value} {t : TypeId} (h : w.heap[C]? = some (.cells a t)) (i : Nat) {u : Value} (e : a[i]? = some u) : w.cell? ⟨C, i, none⟩ = some u ∧ w.frozen? ⟨C, i, none⟩ = false := by
  simp [World.cell?, World.frozen?, h, e]

/-- Another world but for one block. -/
def Off (R : Nat) (v v' : World) : Prop := v'.os = v.os ∧ v'.tape = v.tape ∧ v'.output = v.output ∧ v'.heap.size = v.heap.size ∧ ∀ b, b ≠ R → v'.heap[b]? = v.heap[b]?
theorem Off.refl (R : Nat) (v : World) : Off R v v := ⟨rfl, rfl, rfl, rfl, fun _ _ => rfl⟩
theorem Off.set {R : Nat} {v v' : World} (h : Off R v v') (i : Nat) (x : Value) : Off R v (v'.setCell ⟨R, i, none⟩ x) :=
  ⟨h.1, h.2.1, h.2.2.1, by rw [← h.2.2.2.1]; simp [World.setCell], fun b hb => by rw [Below.heap_setCell _ _ _ _ (by exact hb)]; exact h.2.2.2.2 b hb⟩
theorem Off.below {R B : Nat} {w v v' : World} (h : Off R v v') (k : Below B w v) (hR : B ≤ R) : Below B w v' :=
  ⟨h.1.trans k.os, h.2.1.trans k.tape, h.2.2.1.trans k.output, by rw [h.2.2.2.1]; exact k.size, fun b hb => by rw [h.2.2.2.2 b (by omega)]; exact k.block b hb⟩
theorem Off.kids {R C : Nat} {v v' : World} (h : Off R v v') (hR : R < C) {sv : Value} {l : List Nd} (k : Kids v (ownH v C) sv l) : Kids v' (ownH v' C) sv l :=
  k.own fun b hb _ => h.2.2.2.2 b (by omega)

theorem Off.cp {R : Nat} {w v v' : World} {a : Array Value} (h : Off R v v') (k : Cp w a v) (hR : w.heap.size + 1 < R) : Cp w a v' :=
  ⟨h.below k.1 (by omega), by rw [h.2.2.2.2 _ (by omega)]; exact k.2.1, by rw [h.2.2.2.2 _ (by omega)]; exact k.2.2⟩

theorem seven {v : World} {R : Nat} {a0 a1 a2 a3 a4 a5 a6 : Value} {t : TypeId} (h : v.heap[R]? = some (.cells #[a0, a1, a2, a3, a4, a5, a6] t)) :
    (v.cell? ⟨R, 0, none⟩ = some a0 ∧ v.cell? ⟨R, 1, none⟩ = some a1 ∧ v.cell? ⟨R, 2, none⟩ = some a2 ∧ v.cell? ⟨R, 3, none⟩ = some a3 ∧ v.cell? ⟨R, 4, none⟩ = some a4 ∧ v.cell? ⟨R, 5, none⟩ = some a5 ∧ v.cell? ⟨R, 6, none⟩ = some a6)
    ∧ (v.frozen? ⟨R, 0, none⟩ = false ∧ v.frozen? ⟨R, 1, none⟩ = false ∧ v.frozen? ⟨R, 2, none⟩ = false ∧ v.frozen? ⟨R, 3, none⟩ = false ∧ v.frozen? ⟨R, 4, none⟩ = false ∧ v.frozen? ⟨R, 5, none⟩ = false ∧ v.frozen? ⟨R, 6, none⟩ = false) :=
  ⟨⟨(at_cell h 0 rfl).1, (at_cell h 1 rfl).1, (at_cell h 2 rfl).1, (at_cell h 3 rfl).1, (at_cell h 4 rfl).1, (at_cell h 5 rfl).1, (at_cell h 6 rfl).1⟩,
    (at_cell h 0 rfl).2, (at_cell h 1 rfl).2, (at_cell h 2 rfl).2, (at_cell h 3 rfl).2, (at_cell h 4 rfl).2, (at_cell h 5 rfl).2, (at_cell h 6 rfl).2⟩

/-- A row that is filled, up to a place. -/
def Fill (v : World) (M n : Nat) (l : List Nd) (j : Nat) : Prop :=
  ∃ cs, v.heap[M]? = some (.cells cs 26) ∧ cs.size = n * 7 ∧ ∀ i (h : i < l.length), i < j → NodeA v (ownH v (M + 1)) M (i * 7) l[i]
theorem NodeA.own {v v' : World} {C M o : Nat} {t : Nd} (h : NodeA v (ownH v C) M o t) (hc : ∀ k, k < 7 → v'.cell? ⟨M, o + k, none⟩ = v.cell? ⟨M, o + k, none⟩) (hb : ∀ b, C ≤ b → b < v.heap.size → v'.heap[b]? = v.heap[b]?) : NodeA v' (ownH v' C) M o t := by
  obtain ⟨e0, e1, e2, e3, e4, e6, sv, e5, hk⟩ := h
  exact ⟨(hc 0 (by decide)).trans e0, (hc 1 (by decide)).trans e1, (hc 2 (by decide)).trans e2, (hc 3 (by decide)).trans e3, (hc 4 (by decide)).trans e4, (hc 6 (by decide)).trans e6, sv, (hc 5 (by decide)).trans e5, hk.own hb⟩
theorem Fill.below {v v' : World} {M n : Nat} {l : List Nd} {j : Nat} (h : Fill v M n l j) (k : Below v.heap.size v v') : Fill v' M n l j := by
  obtain ⟨cs, h1, h2, h3⟩ := h
  refine ⟨cs, by rw [k.block M (hlt h1)]; exact h1, h2, fun i hi hj => (h3 i hi hj).own (fun q _ => k.cell (hlt h1)) fun b _ hb => k.block b hb⟩
/-- Seven cells written. -/
def put7 (v : World) (M q : Nat) (a0 a1 a2 a3 a4 a5 a6 : Value) : World :=
  ((((((v.setCell ⟨M, q, none⟩ a0).setCell ⟨M, q + 1, none⟩ a1).setCell ⟨M, q + 2, none⟩ a2).setCell ⟨M, q + 3, none⟩ a3).setCell ⟨M, q + 4, none⟩ a4).setCell ⟨M, q + 5, none⟩ a5).setCell ⟨M, q + 6, none⟩ a6
theorem put7_off (v : World) (M q : Nat) (a0 a1 a2 a3 a4 a5 a6 : Value) : Off M v (put7 v M q a0 a1 a2 a3 a4 a5 a6) :=
  ((((((((Off.refl M v).set q a0).set (q + 1) a1).set (q + 2) a2).set (q + 3) a3).set (q + 4) a4).set (q + 5) a5).set (q + 6) a6)
theorem put7_heap {v : World} {M q : Nat} {cs : Array Value} {t : TypeId} (h : v.heap[M]? = some (.cells cs t)) (hq : q + 7 ≤ cs.size) (a0 a1 a2 a3 a4 a5 a6 : Value) :
    ∃ ds, (put7 v M q a0 a1 a2 a3 a4 a5 a6).heap[M]? = some (.cells ds t) ∧ ds.size = cs.size ∧ (∀ i, i < q ∨ q + 7 ≤ i → ds[i]? = cs[i]?) ∧ ds[q]? = some a0 ∧ ds[q + 1]? = some a1 ∧ ds[q + 2]? = some a2 ∧ ds[q + 3]? = some a3 ∧ ds[q + 4]? = some a4 ∧ ds[q + 5]? = some a5 ∧ ds[q + 6]? = some a6 := by
  refine ⟨_, heap_setAt (heap_setAt (heap_setAt (heap_setAt (heap_setAt (heap_setAt (heap_setAt h _ _) _ _) _ _) _ _) _ _) _ _) _ _, ?_, ?_, ?_, ?_, ?_, ?_, ?_, ?_, ?_⟩
  · simp
  · intro i hi
    simp only [Array.getElem?_setIfInBounds]
    repeat (rw [if_neg (by omega)])
  all_goals (simp [Array.getElem?_setIfInBounds]; try omega)
theorem Fill.put {v : World} {M n : Nat} {l : List Nd} {j : Nat} (h : Fill v M n l j) (hn : l.length = n) (hj : j < l.length) {C : Nat} (hC : M < C) {sv : Value} (hk : Kids v (ownH v C) sv l[j].args) :
    Fill (put7 v M (j * 7) (.int .i64 l[j].kind) (.string l[j].name) (.int .u32 l[j].num) (.int .i64 l[j].int_) (.string l[j].key) sv (.int .i64 l[j].at_)) M n l (j + 1) := by
  obtain ⟨cs, h1, h2, h3⟩ := h
  have hoff := put7_off v M (j * 7) (.int .i64 l[j].kind) (.string l[j].name) (.int .u32 l[j].num) (.int .i64 l[j].int_) (.string l[j].key) sv (.int .i64 l[j].at_)
  obtain ⟨ds, g1, g2, g3, p0, p1, p2, p3, p4, p5, p6⟩ := put7_heap h1 (q := j * 7) (by omega) (.int .i64 l[j].kind) (.string l[j].name) (.int .u32 l[j].num) (.int .i64 l[j].int_) (.string l[j].key) sv (.int .i64 l[j].at_)
  refine ⟨ds, g1, by omega, fun i hi hij => ?_⟩
  by_cases e : i = j
  · subst e
    refine ⟨(at_cell g1 _ p0).1, (at_cell g1 _ p1).1, (at_cell g1 _ p2).1, (at_cell g1 _ p3).1, (at_cell g1 _ p4).1, (at_cell g1 _ p6).1, sv, (at_cell g1 _ p5).1, ?_⟩
    exact hoff.kids (by omega) (hk.weak (ownH.mono (by omega)))
  · refine (h3 i hi (by omega)).own (fun k hk => ?_) fun b hb _ => hoff.2.2.2.2 b (by omega)
    rw [cell_heap g1, cell_heap h1, g3 _ (by omega)]

set_option maxRecDepth 100000 in
set_option maxHeartbeats 2000000 in
theorem copied_any : ∀ (N : Nat) (t : Nd) (b o : Nat) (w : World), dep t ≤ N → cnt t ≤ 9000 → ok1 t → NodeA w anyH b o t →
    Calls Try.prog 21 #[.pointer (some ⟨b, o, none⟩)] w fun e w' => ∃ sv, e = .returned (nv t sv) ∧ Kids w' (ownH w' w.heap.size) sv t.args ∧ Below w.heap.size w w' := by
  intro N
  induction N with
  | zero => intro t b o w hd; unfold dep at hd; omega
  | succ N ih =>
    intro t b o w hd hc hok hn
    have hlen : t.args.length ≤ 9000 := by have := cntL_len t.args; unfold cnt at hc; omega
    have hn0 := hn
    obtain ⟨e0, e1, e2, e3, e4, e6, sv, e5, p, c, rfl, hq, hk⟩ := hn0
    obtain ⟨⟨s1, s2, -, -⟩, hokL⟩ := hok
    have hbl : b < w.heap.size := mcell_lt e0
    have nb : ¬ (b = w.heap.size + 1) := by omega
    obtain ⟨k, nm, x, i, y, l, a⟩ := t
    unfold nv
    simp only at *
    obtain ⟨n, hnl⟩ : ∃ n, l.length = n := ⟨_, rfl⟩
    have HN : Hid (l.length = n) := hnl
    rw [hnl] at e5 hlen
    clear hnl
    have KB : Hid (∀ v, Below w.heap.size w v → v.cell? ⟨b, o + 1, none⟩ = some (.string nm) ∧ v.cell? ⟨b, o + 4, none⟩ = some (.string y) ∧ v.cell? ⟨b, o + 5, none⟩ = some (.slice p n c)) := fun v hv => ⟨(hv.cell (mcell_lt e1)).trans e1, (hv.cell (mcell_lt e4)).trans e4, (hv.cell (mcell_lt e5)).trans e5⟩
    have C1 : Hid (∀ w1, Below ((w.alloc (.cells #[.int .i64 0, .string ⟨#[]⟩, .int .u32 0, .int .i64 0, .string ⟨#[]⟩, .slice none 0 0, .int .i64 0] 26)).alloc (.cells #[.int .i64 k, .string nm, .int .u32 x, .int .i64 i, .string y, .slice p n c, .int .i64 a] 26)).heap.size ((w.alloc (.cells #[.int .i64 0, .string ⟨#[]⟩, .int .u32 0, .int .i64 0, .string ⟨#[]⟩, .slice none 0 0, .int .i64 0] 26)).alloc (.cells #[.int .i64 k, .string nm, .int .u32 x, .int .i64 i, .string y, .slice p n c, .int .i64 a] 26)) w1 → Cp w #[.int .i64 k, .string nm, .int .u32 x, .int .i64 i, .string y, .slice p n c, .int .i64 a] w1) := fun w1 h => (Cp.start w _).below h
    by_cases hl : n = 0
    · subst hl
      have hz : l = [] := List.eq_nil_of_length_eq_zero HN.out
      clear ih hk hq hn hokL hd hc
      go_enter Try.func21, Try.ntmps21
      go_wp2_with (first
        | (go_at_call 26; (with_reducible refine (clone_any nm s1 _).mono ?_); rintro e w1 ⟨rfl, hb1⟩; have h1 := C1.out w1 hb1; obtain ⟨b1, b4, b5⟩ := KB.out w1 h1.1; obtain ⟨g1, f1⟩ := at_cell h1.2.2 1 rfl; have H1 : Hid (Cp w #[.int .i64 k, .string nm, .int .u32 x, .int .i64 i, .string y, .slice p 0 c, .int .i64 a] (w1.setCell ⟨w.heap.size + 1, 1, none⟩ (.string nm))) := h1.set 1 (.string nm); clear h1 hb1)
        | (go_at_call 26; (with_reducible refine (clone_any y s2 _).mono ?_); rintro e w2 ⟨rfl, hb2⟩; have h2 := H1.out.below hb2; obtain ⟨d1, d4, d5⟩ := KB.out w2 h2.1; obtain ⟨g4, f4⟩ := at_cell h2.2.2 4 rfl; obtain ⟨g5, f5⟩ := at_cell h2.2.2 5 rfl; have H2 : Hid (Cp w #[.int .i64 k, .string nm, .int .u32 x, .int .i64 i, .string y, .slice none 0 0, .int .i64 a] ((w2.setCell ⟨w.heap.size + 1, 4, none⟩ (.string y)).setCell ⟨w.heap.size + 1, 5, none⟩ (.slice none 0 0))) := (h2.set 4 (.string y)).set 5 (.slice none 0 0); clear hb2 h2))
      go_loopw [39] (fun iv wr => iv = .int .i64 0 ∧ Hid (Cp w #[.int .i64 k, .string nm, .int .u32 x, .int .i64 i, .string y, .slice none 0 0, .int .i64 a] wr)) (fun iv _ => 0)
      case atStart => exact ⟨rfl, H2.out⟩
      case round =>
        obtain ⟨rfl, hcp⟩ := hrel
        obtain ⟨⟨r0, r1, r2, r3, r4, r5, r6⟩, q0, q1, q2, q3, q4, q5, q6⟩ := seven hcp.out.2.1
        obtain ⟨⟨o0, o1, o2, o3, o4, o5, o6⟩, -⟩ := seven hcp.out.2.2
        clear H2 H1 C1 KB
        go_wp2
        refine bodyPost_ret (by simp [results, Try.results21, go_sem, *]; try rfl) rfl ?_
        have hoff := ((((((((Off.refl w.heap.size wr).set 0 (.int .i64 k)).set 1 (.string nm)).set 2 (.int .u32 x)).set 3 (.int .i64 i)).set 4 (.string y)).set 5 (.slice none 0 0)).set 6 (.int .i64 a))
        exact ⟨_, rfl, ⟨none, 0, by rw [HN.out], .inl ⟨rfl, HN.out, rfl⟩, .inl hz⟩, hoff.below hcp.out.1 (Nat.le_refl _)⟩
    · have hmk := make_Node n hlen
      have hl1 : 0 < n := by omega
      have HK : Hid (l = [] ∨ ∃ b' o', p = some ⟨b', o', none⟩ ∧ KA w anyH b' o' l) := hk
      have HO : Hid (okL l) := hokL
      have HD : Hid (∀ j (h : j < l.length), dep l[j] ≤ N ∧ cnt l[j] ≤ 9000) := fun j h => by
        have h1 := dep_get h
        have h2 := cnt_get h
        unfold dep at hd h1
        unfold cnt at hc h2
        unfold dep cnt
        simp only at hd hc
        omega
      have HI : Hid (∀ (t : Nd) (b o : Nat) (w : World), dep t ≤ N → cnt t ≤ 9000 → ok1 t → NodeA w anyH b o t →
        Calls Try.prog 21 #[.pointer (some ⟨b, o, none⟩)] w fun e w' => ∃ sv, e = .returned (nv t sv) ∧ Kids w' (ownH w' w.heap.size) sv t.args ∧ Below w.heap.size w w') := ih
      clear ih hk hq hn hokL hd hc
      go_enter Try.func21, Try.ntmps21
      go_wp2_with (first
        | (go_at_call 26; (with_reducible refine (clone_any nm s1 _).mono ?_); rintro e w1 ⟨rfl, hb1⟩; have h1 := C1.out w1 hb1; obtain ⟨b1, b4, b5⟩ := KB.out w1 h1.1; obtain ⟨g1, f1⟩ := at_cell h1.2.2 1 rfl; have H1 : Hid (Cp w #[.int .i64 k, .string nm, .int .u32 x, .int .i64 i, .string y, .slice p n c, .int .i64 a] (w1.setCell ⟨w.heap.size + 1, 1, none⟩ (.string nm))) := h1.set 1 (.string nm); clear h1 hb1)
        | (go_at_call 26; (with_reducible refine (clone_any y s2 _).mono ?_); rintro e w2 ⟨rfl, hb2⟩; have h2 := H1.out.below hb2; obtain ⟨d1, d4, d5⟩ := KB.out w2 h2.1; obtain ⟨g4, f4⟩ := at_cell h2.2.2 4 rfl; obtain ⟨g5, f5⟩ := at_cell h2.2.2 5 rfl; have z2 : w.heap.size + 1 < w2.heap.size := hlt h2.2.2; have z3 : b < w2.heap.size := (by omega); have H2 : Hid (Cp w #[.int .i64 k, .string nm, .int .u32 x, .int .i64 i, .string y, .slice none 0 0, .int .i64 a] ((w2.setCell ⟨w.heap.size + 1, 4, none⟩ (.string y)).setCell ⟨w.heap.size + 1, 5, none⟩ (.slice none 0 0))) := (h2.set 4 (.string y)).set 5 (.slice none 0 0); clear hb2 h2))
      go_loopw [39] (fun iv wr => ∃ j : Nat, j ≤ n ∧ iv = .int .i64 j ∧ Hid (Cp w #[.int .i64 k, .string nm, .int .u32 x, .int .i64 i, .string y, .slice (some ⟨w2.heap.size, 0, none⟩) n n, .int .i64 a] wr ∧ Fill wr w2.heap.size n l j)) (fun iv _ => n - (intOf iv).toNat)
      case atStart =>
        have hs : ((w2.setCell ⟨w.heap.size + 1, 4, none⟩ (.string y)).setCell ⟨w.heap.size + 1, 5, none⟩ (.slice none 0 0)).heap.size = w2.heap.size := by simp [World.setCell]
        have h3 := H2.out.set 5 (.slice (some ⟨w2.heap.size, 0, none⟩) n n)
        refine ⟨0, Nat.zero_le _, rfl, h3.below (bel_alloc _ _), madeCells #[.int .i64 0, .string ⟨#[]⟩, .int .u32 0, .int .i64 0, .string ⟨#[]⟩, .slice none 0 0, .int .i64 0] (n * 7), ?_, made_size _ _, fun i hi hj => absurd hj (Nat.not_lt_zero _)⟩
        have hx := box_heap (((w2.setCell ⟨w.heap.size + 1, 4, none⟩ (.string y)).setCell ⟨w.heap.size + 1, 5, none⟩ (.slice none 0 0)).setCell ⟨w.heap.size + 1, 5, none⟩ (.slice (some ⟨w2.heap.size, 0, none⟩) n n)) (.cells (madeCells #[.int .i64 0, .string ⟨#[]⟩, .int .u32 0, .int .i64 0, .string ⟨#[]⟩, .slice none 0 0, .int .i64 0] (n * 7)) 26)
        rwa [show (((w2.setCell ⟨w.heap.size + 1, 4, none⟩ (.string y)).setCell ⟨w.heap.size + 1, 5, none⟩ (.slice none 0 0)).setCell ⟨w.heap.size + 1, 5, none⟩ (.slice (some ⟨w2.heap.size, 0, none⟩) n n)).heap.size = w2.heap.size by simp [World.setCell]] at hx
      case round =>
        obtain ⟨j, hj, rfl, hrr⟩ := hrel
        obtain ⟨hcp, hfi⟩ := hrr.out
        clear H2 H1 C1 hmk hrr g1 f1 g4 f4 g5 f5 b1 b4 b5 d1 d4 d5
        by_cases hlt0 : j < n
        · obtain ⟨k1, k4, k5⟩ := KB.out wr hcp.1
          have hll : j < l.length := by rw [HN.out]; exact hlt0
          obtain ⟨b', o', rfl, hka⟩ : ∃ b' o', p = some ⟨b', o', none⟩ ∧ KA w anyH b' o' l := by
            rcases HK.out with hk | hk
            · rw [hk] at hll; exact absurd hll (Nat.not_lt_zero _)
            · exact hk
          have hnj := (KA_get hka hll).below hcp.1
          have hM2 : w2.heap.size < wr.heap.size := by obtain ⟨cs, h1, -⟩ := hfi; exact hlt h1
          have HW : Hid (∀ v, Below wr.heap.size wr v → Calls Try.prog 21 #[.pointer (some ⟨b', o' + j * 7, none⟩)] v fun e v' => ∃ p3 n3 c3, e = .returned (.agg #[.int .i64 l[j].kind, .string l[j].name, .int .u32 l[j].num, .int .i64 l[j].int_, .string l[j].key, .slice p3 n3 c3, .int .i64 l[j].at_]) ∧ Kids v' (ownH v' (w2.heap.size + 1)) (.slice p3 n3 c3) l[j].args ∧ Below wr.heap.size wr v') := fun v hv =>
            (HI.out l[j] b' (o' + j * 7) v (HD.out j hll).1 (HD.out j hll).2 (okL_get HO.out hll) (hnj.below hv)).mono fun e v' ⟨sv, he, hk, hb⟩ => by
              have hk2 := hk.weak (ownH.mono (D := w2.heap.size + 1) (by have := hv.size; omega))
              obtain ⟨p3, c3, rfl, -⟩ := id hk
              exact ⟨p3, _, c3, he, hk2, bel hv hb⟩
          have G5 : wr.cell? ⟨w.heap.size + 1, 5, none⟩ = some (.slice (some ⟨w2.heap.size, 0, none⟩) n n) := (at_cell hcp.2.2 5 rfl).1
          have F7 : Hid (∀ v, Below wr.heap.size wr v → ∀ q, q < 7 → (∃ u, v.cell? ⟨w2.heap.size, j * 7 + q, none⟩ = some u) ∧ v.frozen? ⟨w2.heap.size, j * 7 + q, none⟩ = false) := fun v hv q hq => by
            obtain ⟨cs, h1, h2, -⟩ := hfi.below hv
            have := at_cell h1 (j * 7 + q) (u := cs[j * 7 + q]'(by omega)) (Array.getElem?_eq_getElem _)
            exact ⟨⟨_, this.1⟩, this.2⟩
          have HCP : Hid (Cp w #[.int .i64 k, .string nm, .int .u32 x, .int .i64 i, .string y, .slice (some ⟨w2.heap.size, 0, none⟩) n n, .int .i64 a] wr) := hcp
          have HFI : Hid (Fill wr w2.heap.size n l j) := hfi
          have i1 : (0 : Int) ≤ (j : Int) := by omega
          have i2 : (j : Int) < (n : Int) := by omega
          have z4 : ¬ (w2.heap.size = w.heap.size + 1) := by omega
          have z5 : ¬ (w.heap.size + 1 = w2.heap.size) := by omega
          have z6 : ¬ (b = w2.heap.size) := by omega
          have z7 : ¬ (w2.heap.size = b) := by omega
          clear hnj hka HI HD HO HK hcp hfi e0 e1 e2 e3 e4 e5 e6
          go_wp2
          go_region_held3 (fun w' => w'.cell? ⟨b, o + 5, none⟩ = some (.slice (some ⟨b', o', none⟩) n c) ∧ w'.cell? ⟨w.heap.size + 1, 5, none⟩ = some (.slice (some ⟨w2.heap.size, 0, none⟩) n n)) (go_keep) (first
            | (go_at_call 21; (with_reducible refine (HW.out _ ?_).mono ?_); (first | exact bel_d _ | exact bel_dn _ _ | go_grown); rintro e w3 ⟨p3, n3, c3, rfl, hk3, hb3⟩; have HK3 : Hid (Kids w3 (ownH w3 (w2.heap.size + 1)) (.slice p3 n3 c3) l[j].args) := hk3; clear hk3; obtain ⟨m1, m4, m5⟩ := KB.out w3 (bel HCP.out.1 hb3); have m6 := (at_cell (HCP.out.below hb3).2.2 5 rfl).1; obtain ⟨⟨u0, x0⟩, y0⟩ := F7.out w3 hb3 0 (by decide); obtain ⟨⟨u1, x1⟩, y1⟩ := F7.out w3 hb3 1 (by decide); obtain ⟨⟨u2, x2⟩, y2⟩ := F7.out w3 hb3 2 (by decide); obtain ⟨⟨u3, x3⟩, y3⟩ := F7.out w3 hb3 3 (by decide); obtain ⟨⟨u4, x4⟩, y4⟩ := F7.out w3 hb3 4 (by decide); obtain ⟨⟨u5, x5⟩, y5⟩ := F7.out w3 hb3 5 (by decide); obtain ⟨⟨u6, x6⟩, y6⟩ := F7.out w3 hb3 6 (by decide); simp only [Nat.add_zero] at x0 y0))
          go_wp2
          have hoff := put7_off w3 w2.heap.size (j * 7) (.int .i64 l[j].kind) (.string l[j].name) (.int .u32 l[j].num) (.int .i64 l[j].int_) (.string l[j].key) (.slice p3 n3 c3) (.int .i64 l[j].at_)
          have hcp4 := hoff.cp (HCP.out.below hb3) (by omega)
          have hfi4 := (HFI.out.below hb3).put HN.out hll (Nat.lt_succ_self _) HK3.out
          go_roundw
          case rel => exact ⟨j + 1, by omega, by go_num, hcp4, hfi4⟩
          case measure => simp [intOf]; omega
        · have : j = n := by omega
          subst this
          have HCP : Hid (Cp w #[.int .i64 k, .string nm, .int .u32 x, .int .i64 i, .string y, .slice (some ⟨w2.heap.size, 0, none⟩) j j, .int .i64 a] wr) := hcp
          have HFI : Hid (Fill wr w2.heap.size j l j) := hfi
          obtain ⟨⟨r0, r1, r2, r3, r4, r5, r6⟩, q0, q1, q2, q3, q4, q5, q6⟩ := seven hcp.2.1
          obtain ⟨⟨o0, o1, o2, o3, o4, o5, o6⟩, -⟩ := seven hcp.2.2
          clear hcp hfi HI HD HO HK KB e0 e1 e2 e3 e4 e5 e6
          go_wp2
          refine bodyPost_ret (by simp [results, Try.results21, go_sem, *]; try rfl) rfl ?_
          have hoff := ((((((((Off.refl w.heap.size wr).set 0 (.int .i64 k)).set 1 (.string nm)).set 2 (.int .u32 x)).set 3 (.int .i64 i)).set 4 (.string y)).set 5 (.slice (some ⟨w2.heap.size, 0, none⟩) j j)).set 6 (.int .i64 a))
          refine ⟨_, rfl, ?_, hoff.below HCP.out.1 (Nat.le_refl _)⟩
          obtain ⟨cs, h1, h2, h3⟩ := HFI.out
          have hka : Kids wr (ownH wr (w.heap.size + 1)) (.slice (some ⟨w2.heap.size, 0, none⟩) j j) l := by
            refine ⟨_, _, by rw [HN.out], .inr ⟨w2.heap.size, cs, rfl, by omega, HN.out.symm, by rw [HN.out]; omega, h1, by rw [HN.out]; exact h2⟩, .inr ⟨_, _, rfl, KA_of fun i hi => ?_⟩⟩
            rw [Nat.zero_add]
            exact (h3 i hi (by rw [← HN.out]; exact hi)).weak (ownH.mono (by omega))
          exact (hoff.kids (Nat.lt_succ_self _) hka).weak (ownH.mono (by omega))

end Go.Proofs.Ytpidjmgifglmiab
