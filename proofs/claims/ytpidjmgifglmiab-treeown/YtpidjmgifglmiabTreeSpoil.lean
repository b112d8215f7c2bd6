import Derived.Test.YtpidjmgifglmiabTreeStripS
/- spoilt: what it writes, and where. -/
namespace Go.Proofs.Ytpidjmgifglmiab
open Go.RowKit
set_option linter.unusedVariables false
set_option linter.unusedSimpArgs false

/-- Written over: the node at a place, and blocks from lo to hi. -/
structure Chg (w w' : World) (b o lo hi : Nat) : Prop where
  os : w'.os = w.os
  tape : w'.tape = w.tape
  output : w'.output = w.output
  size : w.heap.size ≤ w'.heap.size
  block : ∀ k, k < w.heap.size → k ≠ b → ¬ (lo ≤ k ∧ k < hi) → w'.heap[k]? = w.heap[k]?
  node : ∀ cs, w.heap[b]? = some (.cells cs 26) → ∃ ds, w'.heap[b]? = some (.cells ds 26) ∧ ds.size = cs.size ∧ ∀ i, i < o ∨ o + 7 ≤ i → ds[i]? = cs[i]?
theorem Chg.below {w w' : World} {b o lo hi B : Nat} (h : Chg w w' b o lo hi) (hb : B ≤ b) (hl : B ≤ lo) (hs : B ≤ w.heap.size) : Below B w w' :=
  ⟨h.os, h.tape, h.output, h.size, fun k hk => h.block k (by omega) (by omega) (by omega)⟩
/-- One row's node written over, within. -/
theorem Chg.step {w wr w3 : World} {b o lo hi b' o' lo' hi' : Nat} (h : Chg w wr b o lo hi) (k : Chg wr w3 b' o' lo' hi') (hb : b < w.heap.size) (hbb : ¬ (lo ≤ b ∧ b < hi)) (h1 : lo ≤ b' ∧ b' < hi) (h2 : lo ≤ lo') (h3 : hi' ≤ hi) : Chg w w3 b o lo hi := by
  refine ⟨k.os.trans h.os, k.tape.trans h.tape, k.output.trans h.output, Nat.le_trans h.size k.size, fun q q1 q2 q3 => ?_, fun cs hcs => ?_⟩
  · rw [k.block q (by have := h.size; omega) (by omega) (by omega)]
    exact h.block q q1 q2 q3
  · obtain ⟨ds, d1, d2, d3⟩ := h.node cs hcs
    exact ⟨ds, by rw [k.block b (by have := h.size; omega) (by omega) (by omega)]; exact d1, d2, d3⟩
theorem Chg.start {w : World} {b o lo hi : Nat} {cs : Array Value} (i : Nat) (h7 : i < 7) (x : Value) : Chg w (w.setCell ⟨b, o + i, none⟩ x) b o lo hi := by
  refine ⟨rfl, rfl, rfl, by simp [World.setCell], fun q q1 q2 q3 => Below.heap_setCell _ _ _ _ (by exact q2), fun cs hcs => ⟨_, heap_setAt hcs (o + i) x, by simp, fun k hk => ?_⟩⟩
  rw [Array.getElem?_setIfInBounds, if_neg (by omega)]

/-- What is left behind in a node that was spoilt. -/
def Left7 (w' : World) (b o n lo hi S : Nat) : Prop := ∃ g c, w'.cell? ⟨b, o + 5, none⟩ = some (.slice (some ⟨g, 0, none⟩) (n + 1) c) ∧ w'.cell? ⟨g, n * 7 + 1, none⟩ = some (.string ⟨#[109, 111, 114, 101]⟩) ∧ ((lo ≤ g ∧ g < hi) ∨ S ≤ g)

/-- Two stores behind an append, in either order. -/
structure Fin2 (w6 W : World) (g b o q : Nat) (x : Value) (ds : Array Value) : Prop where
  os : W.os = w6.os
  tape : W.tape = w6.tape
  output : W.output = w6.output
  size : W.heap.size = w6.heap.size
  other : ∀ k, k ≠ g → k ≠ b → W.heap[k]? = w6.heap[k]?
  bb : ∃ es, W.heap[b]? = some (.cells es 26) ∧ es.size = ds.size ∧ (∀ i, i ≠ o + 5 → es[i]? = ds[i]?) ∧ es[o + 5]? = some x
  gg : W.cell? ⟨g, q + 1, none⟩ = some (.string ⟨#[109, 111, 114, 101]⟩)
theorem fin_a {w6 : World} {g b o q : Nat} {x : Value} {ds cur : Array Value} (hgb : ¬ (g = b)) (hg : w6.heap[g]? = some (.cells cur 26)) (hq : q + 7 ≤ cur.size) (hb : w6.heap[b]? = some (.cells ds 26)) (ho : o + 7 ≤ ds.size) (a0 a2 a3 a4 a5 a6 : Value) :
    Fin2 w6 ((put7 w6 g q a0 (.string ⟨#[109, 111, 114, 101]⟩) a2 a3 a4 a5 a6).setCell ⟨b, o + 5, none⟩ x) g b o q x ds := by
  have hoff := put7_off w6 g q a0 (.string ⟨#[109, 111, 114, 101]⟩) a2 a3 a4 a5 a6
  obtain ⟨es, g1, g2, g3, p0, p1, -⟩ := put7_heap hg hq a0 (.string ⟨#[109, 111, 114, 101]⟩) a2 a3 a4 a5 a6
  have hb2 : (put7 w6 g q a0 (.string ⟨#[109, 111, 114, 101]⟩) a2 a3 a4 a5 a6).heap[b]? = some (.cells ds 26) := by rw [hoff.2.2.2.2 b (fun e => hgb e.symm)]; exact hb
  have ho2 := (Off.refl b (put7 w6 g q a0 (.string ⟨#[109, 111, 114, 101]⟩) a2 a3 a4 a5 a6)).set (o + 5) x
  refine ⟨ho2.1.trans hoff.1, ho2.2.1.trans hoff.2.1, ho2.2.2.1.trans hoff.2.2.1, ho2.2.2.2.1.trans hoff.2.2.2.1, fun k k1 k2 => ?_, ⟨_, heap_setAt hb2 (o + 5) x, by simp, fun i hi => ?_, ?_⟩, ?_⟩
  · rw [ho2.2.2.2.2 k k2]; exact hoff.2.2.2.2 k k1
  · rw [Array.getElem?_setIfInBounds, if_neg (by omega)]
  · rw [Array.getElem?_setIfInBounds, if_pos rfl, if_pos (by omega)]
  · rw [World.cell?_of_block (w := put7 w6 g q a0 (.string ⟨#[109, 111, 114, 101]⟩) a2 a3 a4 a5 a6) (a := ⟨g, q + 1, none⟩) (ho2.2.2.2.2 g hgb)]
    exact (at_cell g1 _ p1).1
theorem fin_b {w6 : World} {g b o q : Nat} {x : Value} {ds cur : Array Value} (hgb : ¬ (g = b)) (hg : w6.heap[g]? = some (.cells cur 26)) (hq : q + 7 ≤ cur.size) (hb : w6.heap[b]? = some (.cells ds 26)) (ho : o + 7 ≤ ds.size) (a0 a2 a3 a4 a5 a6 : Value) :
    Fin2 w6 (put7 (w6.setCell ⟨b, o + 5, none⟩ x) g q a0 (.string ⟨#[109, 111, 114, 101]⟩) a2 a3 a4 a5 a6) g b o q x ds := by
  have ho2 := (Off.refl b w6).set (o + 5) x
  have hg2 : (w6.setCell ⟨b, o + 5, none⟩ x).heap[g]? = some (.cells cur 26) := by rw [ho2.2.2.2.2 g hgb]; exact hg
  have hoff := put7_off (w6.setCell ⟨b, o + 5, none⟩ x) g q a0 (.string ⟨#[109, 111, 114, 101]⟩) a2 a3 a4 a5 a6
  obtain ⟨es, g1, g2, g3, p0, p1, -⟩ := put7_heap hg2 hq a0 (.string ⟨#[109, 111, 114, 101]⟩) a2 a3 a4 a5 a6
  refine ⟨hoff.1.trans ho2.1, hoff.2.1.trans ho2.2.1, hoff.2.2.1.trans ho2.2.2.1, hoff.2.2.2.1.trans ho2.2.2.2.1, fun k k1 k2 => ?_, ⟨_, by rw [hoff.2.2.2.2 b (fun e => hgb e.symm)]; exact heap_setAt hb (o + 5) x, by simp, fun i hi => ?_, ?_⟩, (at_cell g1 _ p1).1⟩
  · rw [hoff.2.2.2.2 k k1]; exact ho2.2.2.2.2 k k2
  · rw [Array.getElem?_setIfInBounds, if_neg (by omega)]
  · rw [Array.getElem?_setIfInBounds, if_pos rfl, if_pos (by omega)]
theorem fin_a2 {w6 : World} {g b o q : Nat} {x : Value} {ds cur : Array Value} (hgb : ¬ (g = b)) (hg : w6.heap[g]? = some (.cells cur 26)) (hq : q + 7 ≤ cur.size) (hb : w6.heap[b]? = some (.cells ds 26)) (ho : o + 7 ≤ ds.size) (a0 a2 a3 a4 a5 a6 : Value) :
    Fin2 w6 ((((((((w6.setCell ⟨g, q, none⟩ a0).setCell ⟨g, q + 1, none⟩ (.string ⟨#[109, 111, 114, 101]⟩)).setCell ⟨g, q + 2, none⟩ a2).setCell ⟨g, q + 3, none⟩ a3).setCell ⟨g, q + 4, none⟩ a4).setCell ⟨g, q + 5, none⟩ a5).setCell ⟨g, q + 6, none⟩ a6).setCell ⟨b, o + 5, none⟩ x) g b o q x ds := fin_a hgb hg hq hb ho a0 a2 a3 a4 a5 a6
theorem fin_b2 {w6 : World} {g b o q : Nat} {x : Value} {ds cur : Array Value} (hgb : ¬ (g = b)) (hg : w6.heap[g]? = some (.cells cur 26)) (hq : q + 7 ≤ cur.size) (hb : w6.heap[b]? = some (.cells ds 26)) (ho : o + 7 ≤ ds.size) (a0 a2 a3 a4 a5 a6 : Value) :
    Fin2 w6 ((((((((w6.setCell ⟨b, o + 5, none⟩ x).setCell ⟨g, q, none⟩ a0).setCell ⟨g, q + 1, none⟩ (.string ⟨#[109, 111, 114, 101]⟩)).setCell ⟨g, q + 2, none⟩ a2).setCell ⟨g, q + 3, none⟩ a3).setCell ⟨g, q + 4, none⟩ a4).setCell ⟨g, q + 5, none⟩ a5).setCell ⟨g, q + 6, none⟩ a6) g b o q x ds := fin_b hgb hg hq hb ho a0 a2 a3 a4 a5 a6
theorem spo_fin {w wr w6 W : World} {b o lo hi j g cap : Nat} {p : Option Addr} {ds : Array Value} {Z : Obj} (hch : Chg w wr b o lo hi) (hbr : wr.heap[b]? = some (.cells ds 26) ∧ o + 7 ≤ ds.size) (hlh : hi ≤ wr.heap.size ∧ ¬ (lo ≤ b ∧ b < hi) ∧ lo ≤ hi)
    (hob : ∀ k, Value.ownBlock (.slice p j j) = some k → lo ≤ k ∧ k < hi) (hg : (wr.drew.alloc Z).grownBy w6 (Value.ownBlock (.slice p j j)) ∧ (Value.ownBlock (.slice p j j) = some g ∨ g = wr.heap.size + 1)) (hf : Fin2 w6 W g b o (j * 7) (.slice (some ⟨g, 0, none⟩) (j + 1) cap) ds) :
    Chg w W b o lo hi ∧ Left7 W b o j lo hi w.heap.size := by
  obtain ⟨hgr, hat⟩ := hg
  have hs := hgr.size
  have hs0 : (wr.drew.alloc Z).heap.size = wr.heap.size + 1 := by simp
  have hcs := hch.size
  obtain ⟨es, e1, e2, e3, e4⟩ := hf.bb
  refine ⟨⟨hf.os.trans (hgr.os.trans hch.os), hf.tape.trans (hgr.tape.trans hch.tape), hf.output.trans (hgr.output.trans hch.output), by rw [hf.size]; omega, fun k k1 k2 k3 => ?_, fun cs hcs' => ?_⟩, g, cap, (cell_heap e1 _).trans e4, hf.gg, ?_⟩
  · rw [hf.other k (by
        rintro rfl
        rcases hat with h | h
        · exact k3 (hob _ h)
        · omega) k2, hgr.block k (by omega) (fun e => k3 (hob k e.symm))]
    have h1 : (wr.drew.alloc Z).heap[k]? = wr.drew.heap[k]? := Below.heap_alloc wr.drew Z k (by show k < wr.heap.size; omega)
    rw [h1]
    exact hch.block k k1 k2 k3
  · obtain ⟨ds', d1, d2, d3⟩ := hch.node cs hcs'
    rw [hbr.1] at d1
    cases d1
    exact ⟨es, e1, by omega, fun i hi => (e3 i (by omega)).trans (d3 i hi)⟩
  · rcases hat with h | h
    · exact .inl (hob _ h)
    · exact .inr (by omega)

def SpoTo (N : Nat) : Prop := ∀ (t : Nd) (b o lo hi : Nat) (sv : Value) (w : World), dep t ≤ N → cnt t ≤ 9000 → (∃ cs, w.heap[b]? = some (.cells cs 26) ∧ o + 7 ≤ cs.size) → ¬ (lo ≤ b ∧ b < hi) → lo ≤ hi → hi ≤ w.heap.size → (∃ nm, w.cell? ⟨b, o + 1, none⟩ = some (.string nm)) → w.cell? ⟨b, o + 5, none⟩ = some sv → Sp w sv t.args lo hi →
  Calls Try.prog 9 #[.pointer (some ⟨b, o, none⟩)] w fun e w' => (∃ v, e = .returned v) ∧ Chg w w' b o lo hi ∧ Left7 w' b o t.args.length lo hi w.heap.size
set_option maxRecDepth 100000 in
set_option maxHeartbeats 1000000 in
theorem spo_to : ∀ N, SpoTo N := by
  intro N
  induction N with
  | zero => intro t b o lo hi sv w hd; unfold dep at hd; omega
  | succ N ih =>
    intro t b o lo hi sv w hd hc hb hbb hlh hhi hn h5 hsp
    have hlen : t.args.length ≤ 9000 := by have := cntL_len t.args; unfold cnt at hc; omega
    obtain ⟨n, hnn⟩ : ∃ n, t.args.length = n := ⟨_, rfl⟩
    have HN : Hid (t.args.length = n) := hnn
    obtain ⟨cs, hcs, hcsz⟩ := hb
    obtain ⟨nm, h1⟩ := hn
    have hbl := hlt hcs
    have f1 := (at_cell hcs (o + 1) (u := .string nm) (by rw [← cell_heap hcs]; exact h1)).2
    obtain ⟨p, rfl, hp⟩ := hsp
    rw [hnn] at h5 hp hlen
    -- the world behind the first store
    have hchg0 : Chg w (w.setCell ⟨b, o + 1, none⟩ (.string ⟨#[115, 112, 111, 105, 108, 116]⟩)) b o lo hi := Chg.start (cs := cs) 1 (by decide) _
    have h50 : (w.setCell ⟨b, o + 1, none⟩ (.string ⟨#[115, 112, 111, 105, 108, 116]⟩)).cell? ⟨b, o + 5, none⟩ = some (.slice p n n) := by
      rw [cell_heap (heap_setAt hcs (o + 1) _), Array.getElem?_setIfInBounds, if_neg (by omega), ← cell_heap hcs]
      exact h5
    have HP : Hid ((t.args = [] ∧ p = none ∧ n = 0) ∨ ∃ b' cs', p = some ⟨b', 0, none⟩ ∧ (lo ≤ b' ∧ b' < hi) ∧ (w.setCell ⟨b, o + 1, none⟩ (.string ⟨#[115, 112, 111, 105, 108, 116]⟩)).heap[b']? = some (.cells cs' 26) ∧ cs'.size = n * 7 ∧ SL (w.setCell ⟨b, o + 1, none⟩ (.string ⟨#[115, 112, 111, 105, 108, 116]⟩)) t.args b' 0 (b' + 1) hi) := by
      rcases hp with ⟨e, e2⟩ | ⟨b', cs', e1, e2, e3, e4, e5, e6⟩
      · exact .inl ⟨e, e2, by rw [← hnn, e]; rfl⟩
      · have hk : ∀ k, lo ≤ k → k < hi → (w.setCell ⟨b, o + 1, none⟩ (.string ⟨#[115, 112, 111, 105, 108, 116]⟩)).heap[k]? = w.heap[k]? := fun k k1 k2 => hchg0.block k (by omega) (by omega) |> fun h => by
          exact Below.heap_setCell _ _ _ _ (by show k ≠ b; omega)
        have hblk := hk b' e2 e3
        exact .inr ⟨b', cs', e1, ⟨e2, e3⟩, by rw [hblk]; exact e4, e5, SL_keep _ b' 0 (b' + 1) hi (fun k k1 k2 => hk k (by omega) k2) (fun i _ => ⟨World.cell?_of_block (w := w) (a := ⟨b', 0 + i * 7 + 1, none⟩) hblk, World.cell?_of_block (w := w) (a := ⟨b', 0 + i * 7 + 5, none⟩) hblk⟩) e6⟩
    have HC0 : Hid (Chg w (w.setCell ⟨b, o + 1, none⟩ (.string ⟨#[115, 112, 111, 105, 108, 116]⟩)) b o lo hi) := hchg0
    have HIH : Hid (SpoTo N) := ih
    have HD : Hid (dep t ≤ N + 1 ∧ cnt t ≤ 9000) := ⟨hd, hc⟩
    have HB0 : Hid (∃ cs, w.heap[b]? = some (.cells cs 26) ∧ o + 7 ≤ cs.size) := ⟨cs, hcs, hcsz⟩
    have HH5 : Hid ((w.setCell ⟨b, o + 1, none⟩ (.string ⟨#[115, 112, 111, 105, 108, 116]⟩)).cell? ⟨b, o + 5, none⟩ = some (.slice p n n)) := h50
    rw [hnn]
    clear hnn hp hchg0 ih hd hc h50 h5 hcs hcsz
    obtain ⟨i0, hi0, hz0, hz1, hz2⟩ := info_parts info_Node
    go_enter Try.func9, Try.ntmps9
    go_wp2
    go_loopw [2] (fun iv wr => ∃ j : Nat, j ≤ n ∧ iv = .int .i64 j ∧ wr.cell? ⟨b, o + 5, none⟩ = some (.slice p n n) ∧ Hid (Chg w wr b o lo hi ∧ ((t.args = [] ∧ p = none ∧ n = 0) ∨ ∃ b' cs' mid, p = some ⟨b', 0, none⟩ ∧ (lo ≤ b' ∧ b' < hi) ∧ wr.heap[b']? = some (.cells cs' 26) ∧ cs'.size = n * 7 ∧ b' + 1 ≤ mid ∧ SL wr (t.args.drop j) b' (j * 7) mid hi))) (fun iv _ => n - (intOf iv).toNat)
    case atStart =>
      refine ⟨0, Nat.zero_le _, rfl, HH5.out, HC0.out, ?_⟩
      rcases HP.out with e | ⟨b', cs', e1, e2, e3, e4, e5⟩
      · exact .inl e
      · exact .inr ⟨b', cs', b' + 1, e1, e2, e3, e4, Nat.le_refl _, by rw [List.drop_zero, Nat.zero_mul]; exact e5⟩
    case round =>
      obtain ⟨j, hj, rfl, hx5, hS⟩ := hrel
      clear HP HC0 HH5
      obtain ⟨hchg, hrow⟩ := hS.out
      have hsz := hchg.size
      by_cases hlt0 : j < n
      · have hll : j < t.args.length := by rw [HN.out]; exact hlt0
        obtain ⟨b', cs', mid, rfl, hb1, hb2, hb3, hb4, hsl⟩ : ∃ b' cs' mid, p = some ⟨b', 0, none⟩ ∧ (lo ≤ b' ∧ b' < hi) ∧ wr.heap[b']? = some (.cells cs' 26) ∧ cs'.size = n * 7 ∧ b' + 1 ≤ mid ∧ SL wr (t.args.drop j) b' (j * 7) mid hi := by
          rcases hrow with ⟨-, -, e⟩ | e
          · omega
          · exact e
        rw [List.drop_eq_getElem_cons hll] at hsl
        obtain ⟨mid2, svj, m1, m2, m3, m4, m5⟩ := SL_cons.1 hsl
        have hmh := SL_hi _ m5
        have hne : b ≠ b' := by omega
        have HW : Hid (Calls Try.prog 9 #[.pointer (some ⟨b', j * 7, none⟩)] wr fun e w3 => (∃ v, e = .returned v) ∧ w3.cell? ⟨b, o + 5, none⟩ = some (.slice (some ⟨b', 0, none⟩) n n) ∧ (Chg w w3 b o lo hi ∧ ∃ cs' mid, w3.heap[b']? = some (.cells cs' 26) ∧ cs'.size = n * 7 ∧ b' + 1 ≤ mid ∧ SL w3 (t.args.drop (j + 1)) b' ((j + 1) * 7) mid hi)) := by
          refine (HIH.out t.args[j] b' (j * 7) mid mid2 svj wr (by have h1 := dep_get hll; have h2 := HD.out.1; unfold dep at h1 h2; unfold dep; omega) (by have h1 := cnt_get hll; have h2 := HD.out.2; unfold cnt at h2; omega) ⟨cs', hb2, by omega⟩ (by omega) m1 (by omega) m3 m2 m4).mono fun e w3 ⟨he, hk, _⟩ => ?_
          have hst := hchg.step hk hbl hbb hb1 (by omega) hmh
          obtain ⟨ds, d1, d2, d3⟩ := hk.node cs' hb2
          refine ⟨he, ?_, hst, ds, mid2, d1, by omega, by omega, ?_⟩
          · rw [World.cell?_of_block (w := wr) (a := ⟨b, o + 5, none⟩) (hk.block b (by omega) hne (by omega))]
            exact hx5
          · rw [show (j + 1) * 7 = j * 7 + 7 by omega]
            refine SL_keep _ b' (j * 7 + 7) mid2 hi (fun k k1 k2 => hk.block k (by omega) (by omega) (by omega)) (fun i hi' => ?_) m5
            rw [cell_heap d1, cell_heap d1, cell_heap hb2, cell_heap hb2, d3 _ (by omega), d3 _ (by omega)]
            exact ⟨rfl, rfl⟩
        have i1 : (0 : Int) ≤ (j : Int) := by omega
        have i2 : (j : Int) < (n : Int) := by omega
        clear hsl m1 m2 m3 m4 m5 hrow hchg hS hb2 hb3 hb4 HIH HD HB0 hmh
        go_wp2_with (go_at_call 9; (with_reducible refine HW.out.mono ?_); rintro e w3 ⟨⟨ev, rfl⟩, hx3, hs3⟩; have HS3 : Hid (Chg w w3 b o lo hi ∧ ∃ cs' mid, w3.heap[b']? = some (.cells cs' 26) ∧ cs'.size = n * 7 ∧ b' + 1 ≤ mid ∧ SL w3 (t.args.drop (j + 1)) b' ((j + 1) * 7) mid hi) := hs3; clear hs3)
        go_roundw
        case rel =>
          obtain ⟨k1, cs2, mid3, k2, k3, k4, k5⟩ := HS3.out
          exact ⟨j + 1, by omega, by go_num, hx3, k1, .inr ⟨b', cs2, mid3, rfl, hb1, k2, k3, k4, k5⟩⟩
        case measure => simp [intOf]; omega
      · have : j = n := by omega
        subst this
        have i2 : ¬ ((j : Int) < (j : Int)) := by omega
        obtain ⟨CS, hown⟩ : ∃ CS, wr.ownsRow 0 26 7 (.slice p j j) j CS := by
          rcases hrow with ⟨-, rfl, e⟩ | ⟨b', cs', mid, e1, -, e3, e4, -, -⟩
          · subst e
            exact ⟨[], World.ownsRow_nil _ _ _ _⟩
          · subst e1
            exact ⟨cs'.toList, by rw [Array.length_toList]; exact e4, .inr ⟨b', j, cs', rfl, Nat.zero_le _, e3, Nat.le_refl _, by unfold maxLen; omega, e4, by rw [List.take_of_length_le (by rw [Array.length_toList]; omega)]⟩⟩
        have hob : ∀ k, Value.ownBlock (.slice p j j) = some k → lo ≤ k ∧ k < hi := by
          intro k hk
          rcases hrow with ⟨-, rfl, e⟩ | ⟨b', cs', mid, e1, e2, -⟩
          · cases hk
          · subst e1
            cases hk
            exact e2
        obtain ⟨cs, hcs, hcsz⟩ := HB0.out
        obtain ⟨ds, d1, d2, d3⟩ := hchg.node cs hcs
        have hbr : b < wr.heap.size := hlt d1
        have HOWN : Hid (wr.ownsRow 0 26 7 (.slice p j j) j CS) := hown
        have HOB : Hid (∀ k, Value.ownBlock (.slice p j j) = some k → lo ≤ k ∧ k < hi) := hob
        have HBR : Hid (wr.heap[b]? = some (.cells ds 26) ∧ o + 7 ≤ ds.size) := ⟨d1, by omega⟩
        have HCH : Hid (Chg w wr b o lo hi) := hchg
        have HLH : Hid (hi ≤ wr.heap.size ∧ ¬ (lo ≤ b ∧ b < hi) ∧ lo ≤ hi) := ⟨by omega, hbb, hlh⟩
        clear hown hob hcs hcsz d1 d2 d3 hchg hrow hS HIH HD HB0 hbb
        go_wp2
        refine wp_region_held_drew (S := (fun _ => True)) (by kernel_rfl) ?_ (fun hHeld => ?_)
        · ((try dsimp only); try trivial)
        refine wpAnyH_take (i := 0) (v := ?_) (by simp only [List.getElem?_toArray, List.getElem?_cons_succ, List.getElem?_cons_zero]; rfl) (by kernel_rfl) (by kernel_rfl) (by kernel_rfl) (by exact fun _ _ _ h => h) (Or.inl ⟨by rfl, ?_⟩) (by assumption) ?_
        rotate_left 1
        · (intro wS hSw; (try dsimp only at hSw); go_simp; try (with_reducible rfl))
        try simp only [Act.put, List.setIfInBounds_toArray, List.set_cons_zero, List.set_cons_succ]
        refine wpAnyH_take (i := 1) (v := ?_) (by simp only [List.getElem?_toArray, List.getElem?_cons_succ, List.getElem?_cons_zero]; rfl) (by kernel_rfl) (by kernel_rfl) (by kernel_rfl) (by exact fun _ _ _ h => h) (Or.inl ⟨by rfl, ?_⟩) (by assumption) ?_
        rotate_left 1
        · (intro wS hSw; (try dsimp only at hSw); go_simp; try (with_reducible rfl))
        try simp only [Act.put, List.setIfInBounds_toArray, List.set_cons_zero, List.set_cons_succ]
        refine wpAnyH_take (i := 2) (v := ?_) (by simp only [List.getElem?_toArray, List.getElem?_cons_succ, List.getElem?_cons_zero]; rfl) (by kernel_rfl) (by kernel_rfl) (by kernel_rfl) (by exact fun _ _ _ h => h) (Or.inl ⟨by rfl, ?_⟩) (by assumption) ?_
        rotate_left 1
        · (intro wS hSw; (try dsimp only at hSw); go_simp; try (with_reducible rfl))
        try simp only [Act.put, List.setIfInBounds_toArray, List.set_cons_zero, List.set_cons_succ]
        refine wpAnyH_take (i := 4) (v := ?_) (by simp only [List.getElem?_toArray, List.getElem?_cons_succ, List.getElem?_cons_zero]; rfl) (by kernel_rfl) (by kernel_rfl) (by kernel_rfl) (by exact fun _ _ _ h => h) (Or.inl ⟨by rfl, ?_⟩) (by assumption) ?_
        rotate_left 1
        · (intro wS hSw; (try dsimp only at hSw); go_simp; try (with_reducible rfl))
        try simp only [Act.put, List.setIfInBounds_toArray, List.set_cons_zero, List.set_cons_succ]
        clear hHeld
        refine wpAnyH_ready (rs := [3, 6]) (by kernel_rfl) (by simp) ?_
        refine AllReadyH.cons (i := 3) (by simp only [List.getElem?_toArray, List.getElem?_cons_succ, List.getElem?_cons_zero]; rfl) (fun K hK => ?_) ?_
        · go_simp
          refine hK.out _ _ ?_ (fun hHeld => ?_)
          · ((try dsimp only); try trivial)
          clear hK K
          try simp only [Act.put, List.setIfInBounds_toArray, List.set_cons_zero, List.set_cons_succ]
          refine wpAnyH_take (i := 5) (v := ?_) (by simp only [List.getElem?_toArray, List.getElem?_cons_succ, List.getElem?_cons_zero]; rfl) (by kernel_rfl) (by kernel_rfl) (by kernel_rfl) (by exact fun _ _ _ h => h) (Or.inl ⟨by rfl, ?_⟩) (by assumption) ?_
          rotate_left 1
          · (intro wS hSw; (try dsimp only at hSw); go_simp; try (with_reducible rfl))
          try simp only [Act.put, List.setIfInBounds_toArray, List.set_cons_zero, List.set_cons_succ]
          clear hHeld
          refine wpAnyH_ready (rs := [6]) (by kernel_rfl) (by simp) ?_
          refine AllReadyH.cons (i := 6) (by simp only [List.getElem?_toArray, List.getElem?_cons_succ, List.getElem?_cons_zero]; rfl) (fun K hK => ?_) AllReadyH.nil
          go_simp
          refine hK.out _ _ ?_ (fun hHeld => ?_)
          · ((try dsimp only); try trivial)
          clear hK K
          try simp only [Act.put, List.setIfInBounds_toArray, List.set_cons_zero, List.set_cons_succ]
          clear hHeld
          refine wpAnyH_ready (rs := [7]) (by kernel_rfl) (by simp) ?_
          refine AllReadyH.cons (i := 7) (by simp only [List.getElem?_toArray, List.getElem?_cons_succ, List.getElem?_cons_zero]; rfl) (fun K hK => ?_) AllReadyH.nil
          refine step_append_lies _ rfl _ _ 24 rfl 0 26 i0 _ 7 88 Try.underlying24 hi0 hz0 hz1 hz2 rfl (by decide) (.slice p j j) j CS rfl (World.ownsRow.alloc (show wr.drew.ownsRow 0 26 7 (.slice p j j) j CS from HOWN.out) _) ⟨wr.heap.size, 0, none⟩ 1 1 [.int .i64 0, .string ⟨#[]⟩, .int .u32 0, .int .i64 0, .string ⟨#[]⟩, .slice none 0 0, .int .i64 0] rfl rfl (World.news_of_block (cs := #[.int .i64 0, .string ⟨#[]⟩, .int .u32 0, .int .i64 0, .string ⟨#[]⟩, .slice none 0 0, .int .i64 0]) (t := 26) (fr := (0, 0)) (box_heap wr.drew _)) (by simp [Value.oneCell']) (by decide) (by unfold maxLen; omega) (by omega) (Nat.zero_le _) (wr.heap.size + 1) (by simp) ?_
          intro g cap w6 hown6 hgrow hat hlt6
          have hgb : ¬ (g = b) := by
            have h1 := HLH.out
            rcases hat with h | h
            · have := HOB.out g h; omega
            · omega
          have hgb' : ¬ (b = g) := fun e => hgb e.symm
          have hx6 : w6.heap[b]? = some (.cells ds 26) := by
            rw [hgrow.block b (by simp; omega) (fun e => by have h1 := HOB.out b e.symm; have h2 := HLH.out; omega)]
            exact heap_old _ _ HBR.out.1
          obtain ⟨cur, hcur, hcsz⟩ : ∃ cur, w6.heap[g]? = some (.cells cur 26) ∧ j * 7 + 7 ≤ cur.size := by
            rcases hown6.2 with ⟨e, -⟩ | ⟨g2, cap2, cur, e1, -, e3, e4, -, e6, -⟩
            · cases e
            · simp only [Value.slice.injEq, Option.some.injEq, Addr.mk.injEq] at e1
              obtain ⟨⟨rfl, -⟩, -, rfl⟩ := e1
              exact ⟨cur, e3, by omega⟩
          have q5 : w6.cell? ⟨b, o + 5, none⟩ = some (.slice p j j) := by
            have h1 : wr.cell? ⟨b, o + 5, none⟩ = ds[o + 5]? := cell_heap HBR.out.1 _
            rw [cell_heap hx6, ← h1]
            exact hx5
          have qf5 : w6.frozen? ⟨b, o + 5, none⟩ = false := (at_cell hx6 (o + 5) (u := .slice p j j) (by rw [← cell_heap hx6]; exact q5)).2
          obtain ⟨u0, x0⟩ : ∃ u, cur[j * 7]? = some u := ⟨_, Array.getElem?_eq_getElem (by omega)⟩
          obtain ⟨u1, x1⟩ : ∃ u, cur[j * 7 + 1]? = some u := ⟨_, Array.getElem?_eq_getElem (by omega)⟩
          obtain ⟨u2, x2⟩ : ∃ u, cur[j * 7 + 2]? = some u := ⟨_, Array.getElem?_eq_getElem (by omega)⟩
          obtain ⟨u3, x3⟩ : ∃ u, cur[j * 7 + 3]? = some u := ⟨_, Array.getElem?_eq_getElem (by omega)⟩
          obtain ⟨u4, x4⟩ : ∃ u, cur[j * 7 + 4]? = some u := ⟨_, Array.getElem?_eq_getElem (by omega)⟩
          obtain ⟨u5, x5⟩ : ∃ u, cur[j * 7 + 5]? = some u := ⟨_, Array.getElem?_eq_getElem (by omega)⟩
          obtain ⟨u6, x6⟩ : ∃ u, cur[j * 7 + 6]? = some u := ⟨_, Array.getElem?_eq_getElem (by omega)⟩
          obtain ⟨y0, v0⟩ := at_cell hcur _ x0
          obtain ⟨y1, v1⟩ := at_cell hcur _ x1
          obtain ⟨y2, v2⟩ := at_cell hcur _ x2
          obtain ⟨y3, v3⟩ := at_cell hcur _ x3
          obtain ⟨y4, v4⟩ := at_cell hcur _ x4
          obtain ⟨y5, v5⟩ := at_cell hcur _ x5
          obtain ⟨y6, v6⟩ := at_cell hcur _ x6
          have i3 : (j : Int) < (j : Int) + 1 := by omega
          have HG6 : Hid ((wr.drew.alloc (.cells #[.int .i64 0, .string ⟨#[]⟩, .int .u32 0, .int .i64 0, .string ⟨#[]⟩, .slice none 0 0, .int .i64 0] 26)).grownBy w6 (Value.ownBlock (.slice p j j)) ∧ (Value.ownBlock (.slice p j j) = some g ∨ g = wr.heap.size + 1)) := ⟨hgrow, hat⟩
          have HC6 : Hid ((w6.heap[g]? = some (.cells cur 26) ∧ j * 7 + 7 ≤ cur.size) ∧ w6.heap[b]? = some (.cells ds 26)) := ⟨⟨hcur, hcsz⟩, hx6⟩
          clear hown6 hgrow hat hx6 hcur hcsz x0 x1 x2 x3 x4 x5 x6
          refine hK.out _ _ ?_ (fun hHeld => ?_)
          · ((try dsimp only); try trivial)
          clear hK K
          try simp only [Act.put, List.setIfInBounds_toArray, List.set_cons_zero, List.set_cons_succ]
          refine wpAnyH_take (i := 8) (v := ?_) (by simp only [List.getElem?_toArray, List.getElem?_cons_succ, List.getElem?_cons_zero]; rfl) (by kernel_rfl) (by kernel_rfl) (by kernel_rfl) (by exact fun _ _ _ h => h) (Or.inl ⟨by rfl, ?_⟩) (by assumption) ?_
          rotate_left 1
          · (intro wS hSw; (try dsimp only at hSw); go_simp; try (with_reducible rfl))
          try simp only [Act.put, List.setIfInBounds_toArray, List.set_cons_zero, List.set_cons_succ]
          refine wpAnyH_take (i := 10) (v := ?_) (by simp only [List.getElem?_toArray, List.getElem?_cons_succ, List.getElem?_cons_zero]; rfl) (by kernel_rfl) (by kernel_rfl) (by kernel_rfl) (by exact fun _ _ _ h => h) (Or.inl ⟨by rfl, ?_⟩) (by assumption) ?_
          rotate_left 1
          · (intro wS hSw; (try dsimp only at hSw); go_simp; try (with_reducible rfl))
          try simp only [Act.put, List.setIfInBounds_toArray, List.set_cons_zero, List.set_cons_succ]
          refine wpAnyH_take (i := 11) (v := ?_) (by simp only [List.getElem?_toArray, List.getElem?_cons_succ, List.getElem?_cons_zero]; rfl) (by kernel_rfl) (by kernel_rfl) (by kernel_rfl) (by exact fun _ _ _ h => h) (Or.inl ⟨by rfl, ?_⟩) (by assumption) ?_
          rotate_left 1
          · (intro wS hSw; (try dsimp only at hSw); go_simp; try (with_reducible rfl))
          try simp only [Act.put, List.setIfInBounds_toArray, List.set_cons_zero, List.set_cons_succ]
          clear hHeld
          refine wpAnyH_ready (rs := [9, 12]) (by kernel_rfl) (by simp) ?_
          refine AllReadyH.cons (i := 9) (by simp only [List.getElem?_toArray, List.getElem?_cons_succ, List.getElem?_cons_zero]; rfl) (fun K hK => ?_) ?_
          · go_simp
            refine hK.out _ _ ?_ (fun hHeld => ?_)
            · ((try dsimp only); try trivial)
            clear hK K
            try simp only [Act.put, List.setIfInBounds_toArray, List.set_cons_zero, List.set_cons_succ]
            clear hHeld
            refine wpAnyH_ready (rs := [12]) (by kernel_rfl) (by simp) ?_
            refine AllReadyH.cons (i := 12) (by simp only [List.getElem?_toArray, List.getElem?_cons_succ, List.getElem?_cons_zero]; rfl) (fun K hK => ?_) AllReadyH.nil
            go_simp
            refine hK.out _ _ ?_ (fun hHeld => ?_)
            · ((try dsimp only); try trivial)
            clear hK K
            try simp only [Act.put, List.setIfInBounds_toArray, List.set_cons_zero, List.set_cons_succ]
            refine wpAnyH_done (by kernel_rfl) ?_ _
            go_wp2
            refine bodyPost_end (by simp [results, Try.results9, go_sem]; try rfl) rfl ?_
            have hfin := HC6.out
            have hfo := HBR.out.2
            refine ⟨⟨_, rfl⟩, ?_⟩
            first
              | (with_reducible exact spo_fin HCH.out HBR.out HLH.out HOB.out HG6.out (fin_a2 hgb hfin.1.1 hfin.1.2 hfin.2 hfo _ _ _ _ _ _))
              | (with_reducible exact spo_fin HCH.out HBR.out HLH.out HOB.out HG6.out (fin_b2 hgb hfin.1.1 hfin.1.2 hfin.2 hfo _ _ _ _ _ _))
          refine AllReadyH.cons (i := 12) (by simp only [List.getElem?_toArray, List.getElem?_cons_succ, List.getElem?_cons_zero]; rfl) (fun K hK => ?_) AllReadyH.nil
          go_simp
          refine hK.out _ _ ?_ (fun hHeld => ?_)
          · ((try dsimp only); try trivial)
          clear hK K
          try simp only [Act.put, List.setIfInBounds_toArray, List.set_cons_zero, List.set_cons_succ]
          clear hHeld
          refine wpAnyH_ready (rs := [9]) (by kernel_rfl) (by simp) ?_
          refine AllReadyH.cons (i := 9) (by simp only [List.getElem?_toArray, List.getElem?_cons_succ, List.getElem?_cons_zero]; rfl) (fun K hK => ?_) AllReadyH.nil
          go_simp
          refine hK.out _ _ ?_ (fun hHeld => ?_)
          · ((try dsimp only); try trivial)
          clear hK K
          try simp only [Act.put, List.setIfInBounds_toArray, List.set_cons_zero, List.set_cons_succ]
          refine wpAnyH_done (by kernel_rfl) ?_ _
          go_wp2
          refine bodyPost_end (by simp [results, Try.results9, go_sem]; try rfl) rfl ?_
          have hfin := HC6.out
          have hfo := HBR.out.2
          refine ⟨⟨_, rfl⟩, ?_⟩
          first
            | (with_reducible exact spo_fin HCH.out HBR.out HLH.out HOB.out HG6.out (fin_a2 hgb hfin.1.1 hfin.1.2 hfin.2 hfo _ _ _ _ _ _))
            | (with_reducible exact spo_fin HCH.out HBR.out HLH.out HOB.out HG6.out (fin_b2 hgb hfin.1.1 hfin.1.2 hfin.2 hfo _ _ _ _ _ _))
        refine AllReadyH.cons (i := 6) (by simp only [List.getElem?_toArray, List.getElem?_cons_succ, List.getElem?_cons_zero]; rfl) (fun K hK => ?_) AllReadyH.nil
        go_simp
        refine hK.out _ _ ?_ (fun hHeld => ?_)
        · ((try dsimp only); try trivial)
        clear hK K
        try simp only [Act.put, List.setIfInBounds_toArray, List.set_cons_zero, List.set_cons_succ]
        clear hHeld
        refine wpAnyH_ready (rs := [3]) (by kernel_rfl) (by simp) ?_
        refine AllReadyH.cons (i := 3) (by simp only [List.getElem?_toArray, List.getElem?_cons_succ, List.getElem?_cons_zero]; rfl) (fun K hK => ?_) AllReadyH.nil
        go_simp
        refine hK.out _ _ ?_ (fun hHeld => ?_)
        · ((try dsimp only); try trivial)
        clear hK K
        try simp only [Act.put, List.setIfInBounds_toArray, List.set_cons_zero, List.set_cons_succ]
        refine wpAnyH_take (i := 5) (v := ?_) (by simp only [List.getElem?_toArray, List.getElem?_cons_succ, List.getElem?_cons_zero]; rfl) (by kernel_rfl) (by kernel_rfl) (by kernel_rfl) (by exact fun _ _ _ h => h) (Or.inl ⟨by rfl, ?_⟩) (by assumption) ?_
        rotate_left 1
        · (intro wS hSw; (try dsimp only at hSw); go_simp; try (with_reducible rfl))
        try simp only [Act.put, List.setIfInBounds_toArray, List.set_cons_zero, List.set_cons_succ]
        clear hHeld
        refine wpAnyH_ready (rs := [7]) (by kernel_rfl) (by simp) ?_
        refine AllReadyH.cons (i := 7) (by simp only [List.getElem?_toArray, List.getElem?_cons_succ, List.getElem?_cons_zero]; rfl) (fun K hK => ?_) AllReadyH.nil
        refine step_append_lies _ rfl _ _ 24 rfl 0 26 i0 _ 7 88 Try.underlying24 hi0 hz0 hz1 hz2 rfl (by decide) (.slice p j j) j CS rfl (World.ownsRow.alloc (show wr.drew.ownsRow 0 26 7 (.slice p j j) j CS from HOWN.out) _) ⟨wr.heap.size, 0, none⟩ 1 1 [.int .i64 0, .string ⟨#[]⟩, .int .u32 0, .int .i64 0, .string ⟨#[]⟩, .slice none 0 0, .int .i64 0] rfl rfl (World.news_of_block (cs := #[.int .i64 0, .string ⟨#[]⟩, .int .u32 0, .int .i64 0, .string ⟨#[]⟩, .slice none 0 0, .int .i64 0]) (t := 26) (fr := (0, 0)) (box_heap wr.drew _)) (by simp [Value.oneCell']) (by decide) (by unfold maxLen; omega) (by omega) (Nat.zero_le _) (wr.heap.size + 1) (by simp) ?_
        intro g cap w6 hown6 hgrow hat hlt6
        have hgb : ¬ (g = b) := by
          have h1 := HLH.out
          rcases hat with h | h
          · have := HOB.out g h; omega
          · omega
        have hgb' : ¬ (b = g) := fun e => hgb e.symm
        have hx6 : w6.heap[b]? = some (.cells ds 26) := by
          rw [hgrow.block b (by simp; omega) (fun e => by have h1 := HOB.out b e.symm; have h2 := HLH.out; omega)]
          exact heap_old _ _ HBR.out.1
        obtain ⟨cur, hcur, hcsz⟩ : ∃ cur, w6.heap[g]? = some (.cells cur 26) ∧ j * 7 + 7 ≤ cur.size := by
          rcases hown6.2 with ⟨e, -⟩ | ⟨g2, cap2, cur, e1, -, e3, e4, -, e6, -⟩
          · cases e
          · simp only [Value.slice.injEq, Option.some.injEq, Addr.mk.injEq] at e1
            obtain ⟨⟨rfl, -⟩, -, rfl⟩ := e1
            exact ⟨cur, e3, by omega⟩
        have q5 : w6.cell? ⟨b, o + 5, none⟩ = some (.slice p j j) := by
          have h1 : wr.cell? ⟨b, o + 5, none⟩ = ds[o + 5]? := cell_heap HBR.out.1 _
          rw [cell_heap hx6, ← h1]
          exact hx5
        have qf5 : w6.frozen? ⟨b, o + 5, none⟩ = false := (at_cell hx6 (o + 5) (u := .slice p j j) (by rw [← cell_heap hx6]; exact q5)).2
        obtain ⟨u0, x0⟩ : ∃ u, cur[j * 7]? = some u := ⟨_, Array.getElem?_eq_getElem (by omega)⟩
        obtain ⟨u1, x1⟩ : ∃ u, cur[j * 7 + 1]? = some u := ⟨_, Array.getElem?_eq_getElem (by omega)⟩
        obtain ⟨u2, x2⟩ : ∃ u, cur[j * 7 + 2]? = some u := ⟨_, Array.getElem?_eq_getElem (by omega)⟩
        obtain ⟨u3, x3⟩ : ∃ u, cur[j * 7 + 3]? = some u := ⟨_, Array.getElem?_eq_getElem (by omega)⟩
        obtain ⟨u4, x4⟩ : ∃ u, cur[j * 7 + 4]? = some u := ⟨_, Array.getElem?_eq_getElem (by omega)⟩
        obtain ⟨u5, x5⟩ : ∃ u, cur[j * 7 + 5]? = some u := ⟨_, Array.getElem?_eq_getElem (by omega)⟩
        obtain ⟨u6, x6⟩ : ∃ u, cur[j * 7 + 6]? = some u := ⟨_, Array.getElem?_eq_getElem (by omega)⟩
        obtain ⟨y0, v0⟩ := at_cell hcur _ x0
        obtain ⟨y1, v1⟩ := at_cell hcur _ x1
        obtain ⟨y2, v2⟩ := at_cell hcur _ x2
        obtain ⟨y3, v3⟩ := at_cell hcur _ x3
        obtain ⟨y4, v4⟩ := at_cell hcur _ x4
        obtain ⟨y5, v5⟩ := at_cell hcur _ x5
        obtain ⟨y6, v6⟩ := at_cell hcur _ x6
        have i3 : (j : Int) < (j : Int) + 1 := by omega
        have HG6 : Hid ((wr.drew.alloc (.cells #[.int .i64 0, .string ⟨#[]⟩, .int .u32 0, .int .i64 0, .string ⟨#[]⟩, .slice none 0 0, .int .i64 0] 26)).grownBy w6 (Value.ownBlock (.slice p j j)) ∧ (Value.ownBlock (.slice p j j) = some g ∨ g = wr.heap.size + 1)) := ⟨hgrow, hat⟩
        have HC6 : Hid ((w6.heap[g]? = some (.cells cur 26) ∧ j * 7 + 7 ≤ cur.size) ∧ w6.heap[b]? = some (.cells ds 26)) := ⟨⟨hcur, hcsz⟩, hx6⟩
        clear hown6 hgrow hat hx6 hcur hcsz x0 x1 x2 x3 x4 x5 x6
        refine hK.out _ _ ?_ (fun hHeld => ?_)
        · ((try dsimp only); try trivial)
        clear hK K
        try simp only [Act.put, List.setIfInBounds_toArray, List.set_cons_zero, List.set_cons_succ]
        refine wpAnyH_take (i := 8) (v := ?_) (by simp only [List.getElem?_toArray, List.getElem?_cons_succ, List.getElem?_cons_zero]; rfl) (by kernel_rfl) (by kernel_rfl) (by kernel_rfl) (by exact fun _ _ _ h => h) (Or.inl ⟨by rfl, ?_⟩) (by assumption) ?_
        rotate_left 1
        · (intro wS hSw; (try dsimp only at hSw); go_simp; try (with_reducible rfl))
        try simp only [Act.put, List.setIfInBounds_toArray, List.set_cons_zero, List.set_cons_succ]
        refine wpAnyH_take (i := 10) (v := ?_) (by simp only [List.getElem?_toArray, List.getElem?_cons_succ, List.getElem?_cons_zero]; rfl) (by kernel_rfl) (by kernel_rfl) (by kernel_rfl) (by exact fun _ _ _ h => h) (Or.inl ⟨by rfl, ?_⟩) (by assumption) ?_
        rotate_left 1
        · (intro wS hSw; (try dsimp only at hSw); go_simp; try (with_reducible rfl))
        try simp only [Act.put, List.setIfInBounds_toArray, List.set_cons_zero, List.set_cons_succ]
        refine wpAnyH_take (i := 11) (v := ?_) (by simp only [List.getElem?_toArray, List.getElem?_cons_succ, List.getElem?_cons_zero]; rfl) (by kernel_rfl) (by kernel_rfl) (by kernel_rfl) (by exact fun _ _ _ h => h) (Or.inl ⟨by rfl, ?_⟩) (by assumption) ?_
        rotate_left 1
        · (intro wS hSw; (try dsimp only at hSw); go_simp; try (with_reducible rfl))
        try simp only [Act.put, List.setIfInBounds_toArray, List.set_cons_zero, List.set_cons_succ]
        clear hHeld
        refine wpAnyH_ready (rs := [9, 12]) (by kernel_rfl) (by simp) ?_
        refine AllReadyH.cons (i := 9) (by simp only [List.getElem?_toArray, List.getElem?_cons_succ, List.getElem?_cons_zero]; rfl) (fun K hK => ?_) ?_
        · go_simp
          refine hK.out _ _ ?_ (fun hHeld => ?_)
          · ((try dsimp only); try trivial)
          clear hK K
          try simp only [Act.put, List.setIfInBounds_toArray, List.set_cons_zero, List.set_cons_succ]
          clear hHeld
          refine wpAnyH_ready (rs := [12]) (by kernel_rfl) (by simp) ?_
          refine AllReadyH.cons (i := 12) (by simp only [List.getElem?_toArray, List.getElem?_cons_succ, List.getElem?_cons_zero]; rfl) (fun K hK => ?_) AllReadyH.nil
          go_simp
          refine hK.out _ _ ?_ (fun hHeld => ?_)
          · ((try dsimp only); try trivial)
          clear hK K
          try simp only [Act.put, List.setIfInBounds_toArray, List.set_cons_zero, List.set_cons_succ]
          refine wpAnyH_done (by kernel_rfl) ?_ _
          go_wp2
          refine bodyPost_end (by simp [results, Try.results9, go_sem]; try rfl) rfl ?_
          have hfin := HC6.out
          have hfo := HBR.out.2
          refine ⟨⟨_, rfl⟩, ?_⟩
          first
            | (with_reducible exact spo_fin HCH.out HBR.out HLH.out HOB.out HG6.out (fin_a2 hgb hfin.1.1 hfin.1.2 hfin.2 hfo _ _ _ _ _ _))
            | (with_reducible exact spo_fin HCH.out HBR.out HLH.out HOB.out HG6.out (fin_b2 hgb hfin.1.1 hfin.1.2 hfin.2 hfo _ _ _ _ _ _))
        refine AllReadyH.cons (i := 12) (by simp only [List.getElem?_toArray, List.getElem?_cons_succ, List.getElem?_cons_zero]; rfl) (fun K hK => ?_) AllReadyH.nil
        go_simp
        refine hK.out _ _ ?_ (fun hHeld => ?_)
        · ((try dsimp only); try trivial)
        clear hK K
        try simp only [Act.put, List.setIfInBounds_toArray, List.set_cons_zero, List.set_cons_succ]
        clear hHeld
        refine wpAnyH_ready (rs := [9]) (by kernel_rfl) (by simp) ?_
        refine AllReadyH.cons (i := 9) (by simp only [List.getElem?_toArray, List.getElem?_cons_succ, List.getElem?_cons_zero]; rfl) (fun K hK => ?_) AllReadyH.nil
        go_simp
        refine hK.out _ _ ?_ (fun hHeld => ?_)
        · ((try dsimp only); try trivial)
        clear hK K
        try simp only [Act.put, List.setIfInBounds_toArray, List.set_cons_zero, List.set_cons_succ]
        refine wpAnyH_done (by kernel_rfl) ?_ _
        go_wp2
        refine bodyPost_end (by simp [results, Try.results9, go_sem]; try rfl) rfl ?_
        have hfin := HC6.out
        have hfo := HBR.out.2
        refine ⟨⟨_, rfl⟩, ?_⟩
        first
          | (with_reducible exact spo_fin HCH.out HBR.out HLH.out HOB.out HG6.out (fin_a2 hgb hfin.1.1 hfin.1.2 hfin.2 hfo _ _ _ _ _ _))
          | (with_reducible exact spo_fin HCH.out HBR.out HLH.out HOB.out HG6.out (fin_b2 hgb hfin.1.1 hfin.1.2 hfin.2 hfo _ _ _ _ _ _))

end Go.Proofs.Ytpidjmgifglmiab
