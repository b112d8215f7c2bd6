import Derived.Test.YtnogokikiekcbabRawOps
import Derived.Deep.RegionHeld3
import Derived.Deep.DeepCutAuto
import Derived.Handy
/- What lies in memory, as a list of cells, in a world that is a letter. -/
namespace Go.Proofs.Ytnogokikiekcbab
open Go.RowKit
set_option linter.unusedVariables false

theorem mcell_lt {w : World} {a : Addr} {v : Value} (h : w.cell? a = some v) : a.block < w.heap.size := by
  rcases Nat.lt_or_ge a.block w.heap.size with c | c
  · exact c
  · have : w.heap[a.block]? = none := Array.getElem?_eq_none c
    simp [World.cell?, this] at h

/-- Below w all is as it was; the cells cs hold what stands there, and may be written. -/
structure Kept (w : World) (cs : List (Addr × Value)) (v : World) : Prop where
  bel : Below w.heap.size w v
  all : ∀ p ∈ cs, v.cell? p.1 = some p.2 ∧ v.frozen? p.1 = false

theorem Kept.cell {w : World} {cs : List (Addr × Value)} {v : World} (h : Kept w cs v) (i : Nat) {a : Addr} {u : Value} (e : cs[i]? = some (a, u)) : v.cell? a = some u :=
  (h.all (a, u) (List.mem_of_getElem? e)).1
theorem Kept.free {w : World} {cs : List (Addr × Value)} {v : World} (h : Kept w cs v) (i : Nat) {a : Addr} {u : Value} (e : cs[i]? = some (a, u)) : v.frozen? a = false :=
  (h.all (a, u) (List.mem_of_getElem? e)).2
theorem Kept.below {w : World} {cs : List (Addr × Value)} {v v' : World} (h : Kept w cs v) (k : Below v.heap.size v v') : Kept w cs v' :=
  ⟨Go.Proofs.Ytnogokikiekcbab.bel h.bel k, fun p hp => ⟨(k.cell (mcell_lt (h.all p hp).1)).trans (h.all p hp).1, (k.frozen (mcell_lt (h.all p hp).1)).trans (h.all p hp).2⟩⟩
theorem mbel_alloc (w : World) (o : Obj) : Below w.heap.size w (w.alloc o) := (Below.refl _ _).alloc (Nat.le_refl _) o
theorem mbel_dn (w : World) (n : Nat) : Below w.heap.size w (w.drewN n) := below_dn w n (bel0 w)
theorem Kept.alloc {w : World} {cs : List (Addr × Value)} {v : World} (h : Kept w cs v) (o : Obj) : Kept w cs (v.alloc o) := h.below (mbel_alloc v o)
theorem Kept.drew {w : World} {cs : List (Addr × Value)} {v : World} (h : Kept w cs v) : Kept w cs v.drew := h.below (belD v)
theorem Kept.drewN {w : World} {cs : List (Addr × Value)} {v : World} (h : Kept w cs v) (n : Nat) : Kept w cs (v.drewN n) := h.below (mbel_dn v n)
theorem Kept.nil (w : World) : Kept w [] w := ⟨bel0 w, fun p hp => by cases hp⟩
theorem Kept.sub {w : World} {cs ds : List (Addr × Value)} {v : World} (h : Kept w cs v) (k : ∀ p ∈ ds, p ∈ cs) : Kept w ds v := ⟨h.bel, fun p hp => h.all p (k p hp)⟩

theorem Kept.ne {w : World} {cs : List (Addr × Value)} {v : World} (h : Kept w cs v) (i : Nat) {a : Addr} {u : Value} (e : cs[i]? = some (a, u)) : v.heap.size ≠ a.block := by
  have := mcell_lt (h.cell i e); omega

/-- Besides, a struct of two cells in a block of its own. -/
structure KD (w : World) (cs : List (Addr × Value)) (g : Nat) (x y : Value) (v : World) : Prop where
  kept : Kept w (cs ++ [(⟨g, 0, none⟩, x), (⟨g, 1, none⟩, y)]) v
  apart : ∀ p ∈ cs, p.1.block ≠ g
  base : w.heap.size ≤ g

section
variable {w : World} {cs : List (Addr × Value)} {g : Nat} {x y : Value} {v v' : World}
theorem KD.below (h : KD w cs g x y v) (k : Below v.heap.size v v') : KD w cs g x y v' := ⟨h.kept.below k, h.apart, h.base⟩
theorem KD.drew (h : KD w cs g x y v) : KD w cs g x y v.drew := h.below (belD v)
theorem KD.g0 (h : KD w cs g x y v) : v.cell? ⟨g, 0, none⟩ = some x := (h.kept.all (⟨g, 0, none⟩, x) (by simp)).1
theorem KD.g1 (h : KD w cs g x y v) : v.cell? ⟨g, 1, none⟩ = some y := (h.kept.all (⟨g, 1, none⟩, y) (by simp)).1
theorem KD.e0 (h : KD w cs g x y v) : v.frozen? ⟨g, 0, none⟩ = false := (h.kept.all (⟨g, 0, none⟩, x) (by simp)).2
theorem KD.e1 (h : KD w cs g x y v) : v.frozen? ⟨g, 1, none⟩ = false := (h.kept.all (⟨g, 1, none⟩, y) (by simp)).2
theorem KD.rest (h : KD w cs g x y v) : Kept w cs v := h.kept.sub fun p hp => List.mem_append_left _ hp
theorem Kept.new (h : Kept w cs v) (x y : Value) (t : TypeId) : KD w cs v.heap.size x y (v.alloc (.cells #[x, y] t)) := by
  have k := h.alloc (.cells #[x, y] t)
  refine ⟨⟨k.bel, ?_⟩, fun p hp e => ?_, h.bel.size⟩
  · intro p hp
    rcases List.mem_append.1 hp with hp | hp
    · exact k.all p hp
    · simp at hp
      rcases hp with rfl | rfl <;> exact ⟨by simp [go_sem], by simp [go_sem]⟩
  · have := mcell_lt (h.all p hp).1
    omega
theorem KD.put (h : KD w cs g x y v) (x' y' : Value) : KD w cs g x' y' ((v.setCell ⟨g, 0, none⟩ x').setCell ⟨g, 1, none⟩ y') := by
  have f : ∀ p ∈ cs, ((v.setCell ⟨g, 0, none⟩ x').setCell ⟨g, 1, none⟩ y').cell? p.1 = v.cell? p.1 := fun p hp => by
    have := h.apart p hp
    rw [World.cell?_setCell_far _ _ _ _ (fun e => this e.symm), World.cell?_setCell_far _ _ _ _ (fun e => this e.symm)]
  refine ⟨⟨(h.kept.bel.setCell h.base _).setCell h.base _, ?_⟩, h.apart, h.base⟩
  intro p hp
  rcases List.mem_append.1 hp with hp | hp
  · exact ⟨(f p hp).trans (h.rest.all p hp).1, by simpa using (h.rest.all p hp).2⟩
  · simp at hp
    rcases hp with rfl | rfl
    · refine ⟨?_, by simpa using h.e0⟩
      rw [World.cell?_setCell_other _ _ _ _ (by simp)]; exact World.cell?_setCell_same _ _ _ h.g0
    · refine ⟨World.cell?_setCell_same (u := y) _ _ _ ?_, by simpa using h.e1⟩
      rw [World.cell?_setCell_other _ _ _ _ (by simp)]; exact h.g1
end

end Go.Proofs.Ytnogokikiekcbab
