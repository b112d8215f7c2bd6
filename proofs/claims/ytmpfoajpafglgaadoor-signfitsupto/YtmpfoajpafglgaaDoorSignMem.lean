import Derived.Test.YtmpfoajpafglgaaDoorSignPlain
import Derived.Test.YtmpfoajpafglgaaDoorRows
import Derived.WalkKit
import Derived.WalkSpells
import Derived.WalkLawsBesides
import Derived.LoopN
import Derived.Below
import Derived.OwnWalk
import Derived.Shelf.Abstract
import Derived.Deep.AppendLies
import Derived.Maps.AppendAt
import Derived.Laws.AppendOwnNone
import Derived.Deep.OwnRows
import Derived.Deep.DeepCutAuto
import Derived.Deep.QuietTactic
import Derived.Deep.RegionHeld3
import Derived.BigQuiet
import Derived.Handy
/- Signatures as they lie in memory. -/
namespace Go.Proofs.YtmpfoajpafglgaaDoor
open Go.RowKit
set_option linter.unusedVariables false
set_option linter.unusedSimpArgs false

theorem bel {a b c : World} (h : Below a.heap.size a b) (k : Below b.heap.size b c) : Below a.heap.size a c := h.trans (k.mono h.size)
theorem bel0 (w : World) : Below w.heap.size w w := Below.refl _ _
theorem bel_alloc (w : World) (o : Obj) : Below w.heap.size w (w.alloc o) := (Below.refl _ _).alloc (Nat.le_refl _) o
theorem bel_dn (w : World) (n : Nat) : Below w.heap.size w (w.drewN n) := ⟨rfl, rfl, rfl, Nat.le_refl _, fun _ _ => rfl⟩
theorem bel_d (w : World) : Below w.heap.size w w.drew := (Below.refl _ _).drew
theorem mcell_lt {w : World} {a : Addr} {v : Value} (h : w.cell? a = some v) : a.block < w.heap.size := by
  rcases Nat.lt_or_ge a.block w.heap.size with c | c
  · exact c
  · have : w.heap[a.block]? = none := Array.getElem?_eq_none c
    simp [World.cell?, this] at h
theorem ret_bool {a b : Bool} (h : a = b) : Ending.returned (.bool a) = .returned (.bool b) := by rw [h]
theorem ret_int {k : IntKind} {a b : Int} (h : a = b) : Ending.returned (.int k a) = .returned (.int k b) := by rw [h]
def Ent (k : Nat) : Prop := ∀ (args : Array Value) (w : World), (callFunc k args).run Tryd.prog w = .ok (.enter k args) w

/-- A parameter as a value, and its cells. -/
def pv (p : Par) : Value := .agg #[.string p.name, .int .i64 p.kind, .int .i64 p.len]
def parCells (p : Par) : List Value := [.string p.name, .int .i64 p.kind, .int .i64 p.len]
def AtP (w : World) (b o : Nat) (p : Par) : Prop :=
  w.cell? ⟨b, o, none⟩ = some (.string p.name) ∧ w.cell? ⟨b, o + 1, none⟩ = some (.int .i64 p.kind) ∧ w.cell? ⟨b, o + 2, none⟩ = some (.int .i64 p.len)
theorem AtP.below {w w' : World} {b o : Nat} {p : Par} (h : AtP w b o p) (k : Below w.heap.size w w') : AtP w' b o p :=
  ⟨(k.cell (mcell_lt h.1)).trans h.1, (k.cell (mcell_lt h.2.1)).trans h.2.1, (k.cell (mcell_lt h.2.2)).trans h.2.2⟩
/-- A slice that reads as these parameters. -/
def Row (w : World) (p : Option Addr) (l : List Par) : Prop := l = [] ∨ ∃ b o, p = some ⟨b, o, none⟩ ∧ ∀ i (h : i < l.length), AtP w b (o + i * 3) l[i]
def Rd (w : World) (v : Value) (l : List Par) : Prop := ∃ p c, v = .slice p l.length c ∧ Row w p l
theorem Row.below {w w' : World} {p : Option Addr} {l : List Par} (h : Row w p l) (k : Below w.heap.size w w') : Row w' p l :=
  h.imp id fun ⟨b, o, hp, h⟩ => ⟨b, o, hp, fun i hi => (h i hi).below k⟩
theorem Rd.below {w w' : World} {v : Value} {l : List Par} (h : Rd w v l) (k : Below w.heap.size w w') : Rd w' v l := by
  obtain ⟨p, c, hv, h⟩ := h
  exact ⟨p, c, hv, h.below k⟩
theorem Row.at {w : World} {p : Option Addr} {l : List Par} (h : Row w p l) {i : Nat} (hi : i < l.length) : ∃ b o, p = some ⟨b, o, none⟩ ∧ AtP w b (o + i * 3) l[i] := by
  rcases h with h | ⟨b, o, hp, h⟩
  · rw [h] at hi; exact absurd hi (Nat.not_lt_zero _)
  · exact ⟨b, o, hp, h i hi⟩

def cellsOf (l : List Par) : List Value := l.flatMap parCells
theorem cellsOf_snoc (l : List Par) (p : Par) : cellsOf (l ++ [p]) = cellsOf l ++ parCells p := by simp [cellsOf]
theorem cellsOf_length (l : List Par) : (cellsOf l).length = l.length * 3 := by
  induction l with
  | nil => rfl
  | cons t l ih =>
    have e : cellsOf (t :: l) = parCells t ++ cellsOf l := by simp [cellsOf]
    rw [e, List.length_append, ih]
    simp [parCells]; omega
theorem cellsOf_at : ∀ (l : List Par) (i j : Nat) (hi : i < l.length), j < 3 → (cellsOf l)[i * 3 + j]? = (parCells l[i])[j]?
  | [], i, j, hi, hj => absurd hi (Nat.not_lt_zero _)
  | t :: l, 0, j, hi, hj => by
    have e : cellsOf (t :: l) = parCells t ++ cellsOf l := by simp [cellsOf]
    rw [e, Nat.zero_mul, Nat.zero_add, List.getElem?_append_left (by simp [parCells]; exact hj)]
    rfl
  | t :: l, i + 1, j, hi, hj => by
    have e : cellsOf (t :: l) = parCells t ++ cellsOf l := by simp [cellsOf]
    rw [e, List.getElem?_append_right (by simp [parCells]; omega), show (i + 1) * 3 + j - (parCells t).length = i * 3 + j by simp [parCells]; omega]
    exact cellsOf_at l i j (by simpa using hi) hj
theorem cellsOf_one (l : List Par) : ∀ u ∈ cellsOf l, u.oneCell' = true := by
  intro u hu
  obtain ⟨p, _, h⟩ := List.mem_flatMap.1 hu
  simp [parCells] at h
  rcases h with rfl | rfl | rfl <;> rfl
/-- A row of parameters of one's own. -/
def Own (w : World) (B : Nat) (v : Value) (l : List Par) : Prop := w.ownsRow B 30 3 v l.length (cellsOf l)
theorem own_nil (w : World) (B : Nat) : Own w B (.slice none 0 0) [] := World.ownsRow_nil w B _ 3
theorem Own.below {w w' : World} {B : Nat} {v : Value} {l : List Par} (h : Own w B v l) (k : Below w.heap.size w w') : Own w' B v l := by
  refine World.ownsRow.kept h (row := none) ⟨k.os, k.tape, k.output, k.size, fun j hj _ => k.block j hj⟩ ?_
  cases v.ownBlock <;> simp
theorem Own.rows {w : World} {B : Nat} {v : Value} {l : List Par} (h : Own w B v l) (h0 : l ≠ []) : ∃ g c, v = .slice (some ⟨g, 0, none⟩) l.length c ∧ B ≤ g ∧ l.length ≤ c ∧ ∀ i (h : i < l.length), AtP w g (i * 3) l[i] := by
  obtain ⟨hl, h⟩ := h
  rcases h with ⟨hv, hn⟩ | ⟨g, cap, cur, hv, hB, hg, hc1, hc2, hsz, htk⟩
  · exact absurd (List.eq_nil_of_length_eq_zero hn) h0
  · refine ⟨g, cap, hv, hB, hc1, fun i hi => ?_⟩
    have key : ∀ j, j < 3 → w.cell? ⟨g, i * 3 + j, none⟩ = (parCells l[i])[j]? := fun j hj => by
      rw [← cellsOf_at l i j hi hj, ← htk, List.getElem?_take_of_lt (by omega)]
      simp [World.cell?, hg]
    exact ⟨key 0 (by decide), key 1 (by decide), key 2 (by decide)⟩
theorem Own.rd {w : World} {B : Nat} {v : Value} {l : List Par} (h : Own w B v l) : Rd w v l := by
  by_cases h0 : l = []
  · subst h0
    obtain ⟨hl, h⟩ := h
    rcases h with ⟨hv, hn⟩ | ⟨g, cap, cur, hv, _⟩
    · exact ⟨none, 0, hv, .inl rfl⟩
    · exact ⟨some ⟨g, 0, none⟩, cap, hv, .inl rfl⟩
  · obtain ⟨g, c, hv, _, _, hc⟩ := h.rows h0
    exact ⟨_, c, hv, .inr ⟨g, 0, rfl, fun i hi => by rw [Nat.zero_add]; exact hc i hi⟩⟩
/-- A slice that reads as these parameters, its row not below B. -/
def RdB (B : Nat) (w : World) (v : Value) (l : List Par) : Prop :=
  ∃ p c, v = .slice p l.length c ∧ (l = [] ∨ ∃ b o, B ≤ b ∧ p = some ⟨b, o, none⟩ ∧ ∀ i (h : i < l.length), AtP w b (o + i * 3) l[i])
theorem RdB.rd {B : Nat} {w : World} {v : Value} {l : List Par} (h : RdB B w v l) : Rd w v l := by
  obtain ⟨p, c, hv, h⟩ := h
  exact ⟨p, c, hv, h.imp id fun ⟨b, o, _, h1, h2⟩ => ⟨b, o, h1, h2⟩⟩
theorem RdB.below {B : Nat} {w w' : World} {v : Value} {l : List Par} (h : RdB B w v l) (k : Below w.heap.size w w') : RdB B w' v l := by
  obtain ⟨p, c, hv, h⟩ := h
  exact ⟨p, c, hv, h.imp id fun ⟨b, o, h0, h1, h2⟩ => ⟨b, o, h0, h1, fun i hi => (h2 i hi).below k⟩⟩
theorem RdB.grown {B : Nat} {w w' : World} {row : Option Nat} {v : Value} {l : List Par} (h : RdB B w v l) (hg : w.grownBy w' row) (hr : ∀ k, row = some k → k < B) : RdB B w' v l := by
  obtain ⟨p, c, hv, h⟩ := h
  refine ⟨p, c, hv, h.imp id fun ⟨b, o, h0, h1, h2⟩ => ⟨b, o, h0, h1, fun i hi => ?_⟩⟩
  have ne : ∀ x : Addr, x.block = b → some x.block ≠ row := fun x hx e => by have := hr b (by rw [← hx]; exact e.symm); omega
  exact ⟨hg.cell (h2 i hi).1 (ne _ rfl), hg.cell (h2 i hi).2.1 (ne _ rfl), hg.cell (h2 i hi).2.2 (ne _ rfl)⟩
theorem RdB.next {B : Nat} {w w' : World} {o : Obj} {row : Option Nat} {v : Value} {l : List Par} (h : RdB B w v l) (hg : (w.alloc o).grownBy w' row) (hr : ∀ k, row = some k → k < B) : RdB B w' v l :=
  (h.below (bel_alloc w o)).grown hg hr
theorem Own.rdB {w : World} {B : Nat} {v : Value} {l : List Par} (h : Own w B v l) : RdB B w v l := by
  by_cases h0 : l = []
  · subst h0
    obtain ⟨p, c, hv, _⟩ := h.rd
    exact ⟨p, c, hv, .inl rfl⟩
  · obtain ⟨g, c, hv, hB, _, hc⟩ := h.rows h0
    exact ⟨_, c, hv, .inr ⟨g, 0, hB, rfl, fun i hi => by rw [Nat.zero_add]; exact hc i hi⟩⟩

end Go.Proofs.YtmpfoajpafglgaaDoor
