import Derived.Test.YtpidjmgifglmiabTreeStrip
/- Trees whose rows lie apart. -/
namespace Go.Proofs.Ytpidjmgifglmiab
open Go.RowKit
set_option linter.unusedVariables false
set_option linter.unusedSimpArgs false

/-- Nodes of a row whose own rows lie in blocks from lo to hi, each in blocks of its own. -/
def SL (w : World) : List Nd → Nat → Nat → Nat → Nat → Prop
  | [], b, o, lo, hi => lo ≤ hi
  | ⟨_, _, _, _, _, l, _⟩ :: r, b, o, lo, hi =>
    ∃ mid sv, lo ≤ mid ∧ w.cell? ⟨b, o + 5, none⟩ = some sv ∧ (∃ nm, w.cell? ⟨b, o + 1, none⟩ = some (.string nm))
      ∧ (∃ p, sv = .slice p l.length l.length ∧ ((l = [] ∧ p = none) ∨ ∃ b' cs, p = some ⟨b', 0, none⟩ ∧ lo ≤ b' ∧ b' < mid ∧ w.heap[b']? = some (.cells cs 26) ∧ cs.size = l.length * 7 ∧ SL w l b' 0 (b' + 1) mid))
      ∧ SL w r b (o + 7) mid hi
/-- A slice of such nodes. -/
def Sp (w : World) (v : Value) (l : List Nd) (lo hi : Nat) : Prop :=
  ∃ p, v = .slice p l.length l.length ∧ ((l = [] ∧ p = none) ∨ ∃ b' cs, p = some ⟨b', 0, none⟩ ∧ lo ≤ b' ∧ b' < hi ∧ w.heap[b']? = some (.cells cs 26) ∧ cs.size = l.length * 7 ∧ SL w l b' 0 (b' + 1) hi)
theorem SL_nil {w : World} {b o lo hi : Nat} : SL w [] b o lo hi ↔ lo ≤ hi := by simp [SL]
theorem SL_cons {w : World} {t : Nd} {r : List Nd} {b o lo hi : Nat} : SL w (t :: r) b o lo hi ↔ ∃ mid sv, lo ≤ mid ∧ w.cell? ⟨b, o + 5, none⟩ = some sv ∧ (∃ nm, w.cell? ⟨b, o + 1, none⟩ = some (.string nm)) ∧ Sp w sv t.args lo mid ∧ SL w r b (o + 7) mid hi := by
  cases t
  rw [SL]
  rfl
theorem SL_hi {w : World} : ∀ (l : List Nd) {b o lo hi : Nat}, SL w l b o lo hi → lo ≤ hi
  | [], b, o, lo, hi, h => SL_nil.1 h
  | t :: r, b, o, lo, hi, h => by
    obtain ⟨mid, sv, h1, -, -, -, h5⟩ := SL_cons.1 h
    have := SL_hi r h5
    omega
theorem SL_keep {w w' : World} : ∀ (l : List Nd) (b o lo hi : Nat), (∀ k, lo ≤ k → k < hi → w'.heap[k]? = w.heap[k]?) → (∀ i, i < l.length → w'.cell? ⟨b, o + i * 7 + 1, none⟩ = w.cell? ⟨b, o + i * 7 + 1, none⟩ ∧ w'.cell? ⟨b, o + i * 7 + 5, none⟩ = w.cell? ⟨b, o + i * 7 + 5, none⟩) → SL w l b o lo hi → SL w' l b o lo hi := by
  apply forest (P := fun l => ∀ (b o lo hi : Nat), (∀ k, lo ≤ k → k < hi → w'.heap[k]? = w.heap[k]?) → (∀ i, i < l.length → w'.cell? ⟨b, o + i * 7 + 1, none⟩ = w.cell? ⟨b, o + i * 7 + 1, none⟩ ∧ w'.cell? ⟨b, o + i * 7 + 5, none⟩ = w.cell? ⟨b, o + i * 7 + 5, none⟩) → SL w l b o lo hi → SL w' l b o lo hi)
  · intro b o lo hi _ _ h
    exact SL_nil.2 (SL_nil.1 h)
  · intro t r h1 h2 b o lo hi hb hc h
    obtain ⟨mid, sv, e1, e2, ⟨nm, e3⟩, ⟨p, hp, e4⟩, e5⟩ := SL_cons.1 h
    have hm := SL_hi r e5
    have c0 := hc 0 (by simp)
    simp only [Nat.zero_mul, Nat.add_zero] at c0
    refine SL_cons.2 ⟨mid, sv, e1, c0.2.trans e2, ⟨nm, c0.1.trans e3⟩, ⟨p, hp, ?_⟩, h2 b (o + 7) mid hi (fun k k1 k2 => hb k (by omega) k2) (fun i hi' => ?_) e5⟩
    · rcases e4 with e4 | ⟨b', cs, g1, g2, g3, g4, g5, g6⟩
      · exact .inl e4
      · have hblk := hb b' g2 (by omega)
        exact .inr ⟨b', cs, g1, g2, g3, by rw [hblk]; exact g4, g5, h1 b' 0 (b' + 1) mid (fun k k1 k2 => hb k (by omega) (by omega)) (fun i _ => ⟨World.cell?_of_block (w := w) (a := ⟨b', 0 + i * 7 + 1, none⟩) hblk, World.cell?_of_block (w := w) (a := ⟨b', 0 + i * 7 + 5, none⟩) hblk⟩) g6⟩
    · have := hc (i + 1) (by simpa using hi')
      rw [show o + (i + 1) * 7 = o + 7 + i * 7 by omega] at this
      exact this
theorem Sp_keep {w w' : World} {v : Value} {l : List Nd} {lo hi : Nat} (h : Sp w v l lo hi) (hb : ∀ k, lo ≤ k → k < hi → w'.heap[k]? = w.heap[k]?) : Sp w' v l lo hi := by
  obtain ⟨p, hp, e4⟩ := h
  refine ⟨p, hp, ?_⟩
  rcases e4 with e4 | ⟨b', cs, g1, g2, g3, g4, g5, g6⟩
  · exact .inl e4
  · have hblk := hb b' g2 g3
    exact .inr ⟨b', cs, g1, g2, g3, by rw [hblk]; exact g4, g5, SL_keep l b' 0 (b' + 1) hi (fun k k1 k2 => hb k (by omega) k2) (fun i _ => ⟨World.cell?_of_block (w := w) (a := ⟨b', 0 + i * 7 + 1, none⟩) hblk, World.cell?_of_block (w := w) (a := ⟨b', 0 + i * 7 + 5, none⟩) hblk⟩) g6⟩
theorem SL_mono {w : World} : ∀ (l : List Nd) {b o lo hi hi' : Nat}, hi ≤ hi' → SL w l b o lo hi → SL w l b o lo hi'
  | [], b, o, lo, hi, hi', hh, h => SL_nil.2 (by have := SL_nil.1 h; omega)
  | t :: r, b, o, lo, hi, hi', hh, h => by
    obtain ⟨mid, sv, h1, h2, h3, h4, h5⟩ := SL_cons.1 h
    exact SL_cons.2 ⟨mid, sv, h1, h2, h3, h4, SL_mono r hh h5⟩
theorem Sp_mono {w : World} {v : Value} {l : List Nd} {lo lo' hi hi' : Nat} (h : Sp w v l lo hi) (h1 : lo' ≤ lo) (h2 : hi ≤ hi') : Sp w v l lo' hi' := by
  obtain ⟨p, hp, e4⟩ := h
  refine ⟨p, hp, ?_⟩
  rcases e4 with e4 | ⟨b', cs, g1, g2, g3, g4, g5, g6⟩
  · exact .inl e4
  · exact .inr ⟨b', cs, g1, by omega, by omega, g4, g5, SL_mono l h2 g6⟩
theorem SL_snoc {w : World} {t : Nd} {sv : Value} {mid hi : Nat} (hm : mid ≤ hi) : ∀ (l : List Nd) {b o lo : Nat}, SL w l b o lo mid → w.cell? ⟨b, o + l.length * 7 + 5, none⟩ = some sv → (∃ nm, w.cell? ⟨b, o + l.length * 7 + 1, none⟩ = some (.string nm)) → Sp w sv t.args mid hi → SL w (l ++ [t]) b o lo hi
  | [], b, o, lo, h, e1, e2, e3 => by
    have h0 := SL_nil.1 h
    simp only [List.length_nil, Nat.zero_mul, Nat.add_zero] at e1 e2
    exact SL_cons.2 ⟨hi, sv, by omega, e1, e2, Sp_mono e3 h0 (Nat.le_refl _), SL_nil.2 (Nat.le_refl _)⟩
  | u :: r, b, o, lo, h, e1, e2, e3 => by
    obtain ⟨m, s, h1, h2, h3, h4, h5⟩ := SL_cons.1 h
    rw [List.length_cons, show o + (r.length + 1) * 7 = o + 7 + r.length * 7 by omega] at e1 e2
    exact SL_cons.2 ⟨m, s, h1, h2, h3, h4, SL_snoc hm r h5 e1 e2 e3⟩
theorem SL_rs {C : Nat} {w w' : World} (h : RS C w w') : ∀ (l : List Nd) (b o lo hi : Nat), o % 7 = 0 → (∃ cs, w.heap[b]? = some (.cells cs 26)) → SL w l b o lo hi → SL w' l b o lo hi := by
  apply forest (P := fun l => ∀ (b o lo hi : Nat), o % 7 = 0 → (∃ cs, w.heap[b]? = some (.cells cs 26)) → SL w l b o lo hi → SL w' l b o lo hi)
  · intro b o lo hi _ _ k
    exact SL_nil.2 (SL_nil.1 k)
  · intro t r h1 h2 b o lo hi ho hb k
    obtain ⟨mid, sv, e1, e2, ⟨nm, e3⟩, ⟨p, hp, e4⟩, e5⟩ := SL_cons.1 k
    obtain ⟨cs0, hb0⟩ := hb
    refine SL_cons.2 ⟨mid, sv, e1, h.keep hb0 (by omega) e2, ⟨nm, h.keep hb0 (by omega) e3⟩, ⟨p, hp, ?_⟩, h2 b (o + 7) mid hi (by omega) ⟨cs0, hb0⟩ e5⟩
    rcases e4 with e4 | ⟨b', cs, g1, g2, g3, g4, g5, g6⟩
    · exact .inl e4
    · obtain ⟨ds, k1, k2, -⟩ := h.2.2.2 b' cs g4
      exact .inr ⟨b', ds, g1, g2, g3, k1, by omega, h1 b' 0 (b' + 1) mid rfl ⟨cs, g4⟩ g6⟩
theorem Sp_rs {C : Nat} {w w' : World} (h : RS C w w') {v : Value} {l : List Nd} {lo hi : Nat} (k : Sp w v l lo hi) : Sp w' v l lo hi := by
  obtain ⟨p, hp, e4⟩ := k
  refine ⟨p, hp, ?_⟩
  rcases e4 with e4 | ⟨b', cs, g1, g2, g3, g4, g5, g6⟩
  · exact .inl e4
  · obtain ⟨ds, k1, k2, -⟩ := h.2.2.2 b' cs g4
    exact .inr ⟨b', ds, g1, g2, g3, k1, by omega, SL_rs h l b' 0 (b' + 1) hi rfl ⟨cs, g4⟩ g6⟩
/-- A row that is filled goes on being so. -/
theorem SL_put {v : World} {M n j : Nat} {l : List Nd} (hn : l.length = n) (hj : j < l.length) {sv : Value} {S : Nat} {cs : Array Value} (hx : v.heap[M]? = some (.cells cs 26)) (hcs : cs.size = n * 7) (hM : M + 1 ≤ S) (hS : S ≤ v.heap.size) (h : SL v (l.take j) M 0 (M + 1) S) (hp : Sp v sv l[j].args S v.heap.size) (a0 : Value) (nm : ByteArray) (a2 a3 a4 a6 : Value) :
    SL (put7 v M (j * 7) a0 (.string nm) a2 a3 a4 sv a6) (l.take (j + 1)) M 0 (M + 1) (put7 v M (j * 7) a0 (.string nm) a2 a3 a4 sv a6).heap.size := by
  have hoff := put7_off v M (j * 7) a0 (.string nm) a2 a3 a4 sv a6
  obtain ⟨ds, g1, g2, g3, p0, p1, p2, p3, p4, p5, p6⟩ := put7_heap hx (q := j * 7) (by omega) a0 (.string nm) a2 a3 a4 sv a6
  have hlj : (l.take j).length = j := by rw [List.length_take]; omega
  rw [ntake_succ hj, hoff.2.2.2.1]
  refine SL_snoc hS (l.take j) (SL_keep _ M 0 (M + 1) S (fun k k1 k2 => hoff.2.2.2.2 k (by omega)) (fun i hi => ?_) h) ?_ ⟨nm, ?_⟩ (Sp_keep hp fun k k1 k2 => hoff.2.2.2.2 k (by omega))
  · rw [hlj] at hi
    rw [cell_heap g1, cell_heap g1, cell_heap hx, cell_heap hx, g3 _ (by omega), g3 _ (by omega)]
    exact ⟨rfl, rfl⟩
  · rw [hlj, Nat.zero_add]
    exact (at_cell g1 _ p5).1
  · rw [hlj, Nat.zero_add]
    exact (at_cell g1 _ p1).1

end Go.Proofs.Ytpidjmgifglmiab
