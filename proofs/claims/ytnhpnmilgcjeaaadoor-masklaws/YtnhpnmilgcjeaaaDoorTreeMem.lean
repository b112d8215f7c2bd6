import Derived.Test.YtnhpnmilgcjeaaaDoorTreePlain
import Derived.Test.YtnhpnmilgcjeaaaDoorRows
import Derived.Test.YtnhpnmilgcjeaaaDoorBitsWalks
import Derived.WalkKit
import Derived.WalkSpells
import Derived.WalkLawsBesides
import Derived.LoopN
import Derived.Below
import Derived.OwnWalk
import Derived.Shelf.Abstract
import Derived.Deep.AppendLies
import Derived.Maps.AppendAt
import Derived.Laws.AppendOwnNone
import Derived.Deep.DeepCutAuto
import Derived.Deep.QuietTactic
import Derived.Deep.RegionHeld3
import Derived.BigQuiet
import Derived.Handy
/- Trees as they lie in memory. -/
namespace Go.Proofs.YtnhpnmilgcjeaaaDoor
open Go.RowKit
set_option linter.unusedVariables false
set_option linter.unusedSimpArgs false

theorem bel {a b c : World} (h : Below a.heap.size a b) (k : Below b.heap.size b c) : Below a.heap.size a c := h.trans (k.mono h.size)
theorem bel0 (w : World) : Below w.heap.size w w := Below.refl _ _
theorem bel_alloc (w : World) (o : Obj) : Below w.heap.size w (w.alloc o) := (Below.refl _ _).alloc (Nat.le_refl _) o
theorem bel_dn (w : World) (n : Nat) : Below w.heap.size w (w.drewN n) := ⟨rfl, rfl, rfl, Nat.le_refl _, fun _ _ => rfl⟩
theorem bel_d (w : World) : Below w.heap.size w w.drew := (Below.refl _ _).drew
theorem mcell_lt {w : World} {a : Addr} {v : Value} (h : w.cell? a = some v) : a.block < w.heap.size := by
  rcases Nat.lt_or_ge a.block w.heap.size with c | c
  · exact c
  · have : w.heap[a.block]? = none := Array.getElem?_eq_none c
    simp [World.cell?, this] at h
theorem ret_bool {a b : Bool} (h : a = b) : Ending.returned (.bool a) = .returned (.bool b) := by rw [h]
def Ent (k : Nat) : Prop := ∀ (args : Array Value) (w : World), (callFunc k args).run Tryd.prog w = .ok (.enter k args) w

/-- What is asked of a slice's head: its address, length, capacity. -/
abbrev Heads := Option Addr → Nat → Nat → Prop
def anyH : Heads := fun _ _ _ => True

/-- Nodes that lie one behind the other. -/
def KA (w : World) (Q : Heads) (b : Nat) (o : Nat) : List Nd → Prop
  | [] => True
  | ⟨k, n, x, i, y, l, a⟩ :: r =>
    (w.cell? ⟨b, o, none⟩ = some (.int .i64 k) ∧ w.cell? ⟨b, o + 1, none⟩ = some (.string n) ∧ w.cell? ⟨b, o + 2, none⟩ = some (.int .u32 x) ∧ w.cell? ⟨b, o + 3, none⟩ = some (.int .i64 i)
      ∧ w.cell? ⟨b, o + 4, none⟩ = some (.string y) ∧ w.cell? ⟨b, o + 6, none⟩ = some (.int .i64 a)
      ∧ ∃ p c, w.cell? ⟨b, o + 5, none⟩ = some (.slice p l.length c) ∧ Q p l.length c ∧ (l = [] ∨ ∃ b' o', p = some ⟨b', o', none⟩ ∧ KA w Q b' o' l))
    ∧ KA w Q b (o + 7) r
/-- A slice that reads as these. -/
def Kids (w : World) (Q : Heads) (v : Value) (l : List Nd) : Prop :=
  ∃ p c, v = .slice p l.length c ∧ Q p l.length c ∧ (l = [] ∨ ∃ b o, p = some ⟨b, o, none⟩ ∧ KA w Q b o l)
/-- A node at a place. -/
def NodeA (w : World) (Q : Heads) (b o : Nat) (t : Nd) : Prop :=
  w.cell? ⟨b, o, none⟩ = some (.int .i64 t.kind) ∧ w.cell? ⟨b, o + 1, none⟩ = some (.string t.name) ∧ w.cell? ⟨b, o + 2, none⟩ = some (.int .u32 t.num) ∧ w.cell? ⟨b, o + 3, none⟩ = some (.int .i64 t.int_)
    ∧ w.cell? ⟨b, o + 4, none⟩ = some (.string t.key) ∧ w.cell? ⟨b, o + 6, none⟩ = some (.int .i64 t.at_) ∧ ∃ sv, w.cell? ⟨b, o + 5, none⟩ = some sv ∧ Kids w Q sv t.args
theorem KA_nil (w : World) (Q : Heads) (b o : Nat) : KA w Q b o [] := by simp [KA]
theorem KA_cons {w : World} {Q : Heads} {b o : Nat} {t : Nd} {r : List Nd} : KA w Q b o (t :: r) ↔ NodeA w Q b o t ∧ KA w Q b (o + 7) r := by
  cases t
  rw [KA]
  unfold NodeA Kids
  refine and_congr_left fun _ => ?_
  constructor
  · rintro ⟨h0, h1, h2, h3, h4, h6, p, c, h5, hq, hk⟩
    exact ⟨h0, h1, h2, h3, h4, h6, _, h5, p, c, rfl, hq, hk⟩
  · rintro ⟨h0, h1, h2, h3, h4, h6, _, h5, p, c, rfl, hq, hk⟩
    exact ⟨h0, h1, h2, h3, h4, h6, p, c, h5, hq, hk⟩
theorem KA_get {w : World} {Q : Heads} {b o : Nat} {l : List Nd} (h : KA w Q b o l) {i : Nat} (hi : i < l.length) : NodeA w Q b (o + i * 7) l[i] := by
  induction l generalizing o i with
  | nil => exact absurd hi (Nat.not_lt_zero _)
  | cons t r ih =>
    rw [KA_cons] at h
    cases i with
    | zero => simpa using h.1
    | succ i =>
      have := ih h.2 (i := i) (by simpa using hi)
      rw [show o + 7 + i * 7 = o + (i + 1) * 7 by omega] at this
      simpa using this
theorem KA_of {w : World} {Q : Heads} {b o : Nat} {l : List Nd} (h : ∀ i (hi : i < l.length), NodeA w Q b (o + i * 7) l[i]) : KA w Q b o l := by
  induction l generalizing o with
  | nil => exact KA_nil _ _ _ _
  | cons t r ih =>
    rw [KA_cons]
    have h0 := h 0 (Nat.succ_pos _)
    rw [Nat.zero_mul, Nat.add_zero] at h0
    refine ⟨h0, ih fun i hi => ?_⟩
    have := h (i + 1) (Nat.succ_lt_succ hi)
    rw [show o + (i + 1) * 7 = o + 7 + i * 7 by omega] at this
    simpa using this

/-- What holds the cells of the rows below holds the trees. -/
theorem KA_keep {w w' : World} {Q : Heads} (hQ : ∀ p n c b o j v, Q p n c → p = some ⟨b, o, none⟩ → w.cell? ⟨b, o + j, none⟩ = some v → w'.cell? ⟨b, o + j, none⟩ = some v) :
    ∀ (l : List Nd) (b o : Nat), (∀ j v, w.cell? ⟨b, o + j, none⟩ = some v → w'.cell? ⟨b, o + j, none⟩ = some v) → KA w Q b o l → KA w' Q b o l := by
  apply forest (P := fun l => ∀ (b o : Nat), (∀ j v, w.cell? ⟨b, o + j, none⟩ = some v → w'.cell? ⟨b, o + j, none⟩ = some v) → KA w Q b o l → KA w' Q b o l)
  · intro b o _ _
    exact KA_nil _ _ _ _
  · intro t r h1 h2 b o hc h
    rw [KA_cons] at h ⊢
    obtain ⟨⟨e0, e1, e2, e3, e4, e6, sv, e5, p, c, hv, hq, hk⟩, hr⟩ := h
    refine ⟨⟨hc 0 _ e0, hc 1 _ e1, hc 2 _ e2, hc 3 _ e3, hc 4 _ e4, hc 6 _ e6, sv, hc 5 _ e5, p, c, hv, hq, ?_⟩, h2 b (o + 7) (fun j v hj => ?_) hr⟩
    · rcases hk with hk | ⟨b', o', hp, hk⟩
      · exact .inl hk
      · exact .inr ⟨b', o', hp, h1 b' o' (fun j v hj => hQ p _ c b' o' j v hq hp hj) hk⟩
    · rw [Nat.add_assoc] at hj ⊢
      exact hc (7 + j) v hj
theorem Kids.keep {w w' : World} {Q : Heads} {v : Value} {l : List Nd} (h : Kids w Q v l) (hQ : ∀ p n c b o j v, Q p n c → p = some ⟨b, o, none⟩ → w.cell? ⟨b, o + j, none⟩ = some v → w'.cell? ⟨b, o + j, none⟩ = some v) : Kids w' Q v l := by
  obtain ⟨p, c, hv, hq, hk⟩ := h
  refine ⟨p, c, hv, hq, ?_⟩
  rcases hk with hk | ⟨b', o', hp, hk⟩
  · exact .inl hk
  · exact .inr ⟨b', o', hp, KA_keep hQ _ b' o' (fun j v hj => hQ p _ c b' o' j v hq hp hj) hk⟩
theorem Kids.below {w w' : World} {Q : Heads} {v : Value} {l : List Nd} (h : Kids w Q v l) (k : Below w.heap.size w w') : Kids w' Q v l :=
  h.keep fun p n c b o j v _ _ hj => (k.cell (mcell_lt hj)).trans hj
theorem KA.below {w w' : World} {Q : Heads} {b o : Nat} {l : List Nd} (h : KA w Q b o l) (k : Below w.heap.size w w') : KA w' Q b o l :=
  KA_keep (fun p n c b o j v _ _ hj => (k.cell (mcell_lt hj)).trans hj) l b o (fun j v hj => (k.cell (mcell_lt hj)).trans hj) h
theorem NodeA.below {w w' : World} {Q : Heads} {b o : Nat} {t : Nd} (h : NodeA w Q b o t) (k : Below w.heap.size w w') : NodeA w' Q b o t := by
  have h1 : KA w Q b o [t] := KA_cons.2 ⟨h, KA_nil _ _ _ _⟩
  exact (KA_cons.1 (h1.below k)).1
/-- The heads asked less of. -/
theorem KA_weak {w : World} {Q R : Heads} (hQ : ∀ p n c, Q p n c → R p n c) : ∀ (l : List Nd) (b o : Nat), KA w Q b o l → KA w R b o l := by
  apply forest (P := fun l => ∀ (b o : Nat), KA w Q b o l → KA w R b o l)
  · intro b o _
    exact KA_nil _ _ _ _
  · intro t r h1 h2 b o h
    rw [KA_cons] at h ⊢
    obtain ⟨⟨e0, e1, e2, e3, e4, e6, sv, e5, p, c, hv, hq, hk⟩, hr⟩ := h
    refine ⟨⟨e0, e1, e2, e3, e4, e6, sv, e5, p, c, hv, hQ _ _ _ hq, ?_⟩, h2 b (o + 7) hr⟩
    rcases hk with hk | ⟨b', o', hp, hk⟩
    · exact .inl hk
    · exact .inr ⟨b', o', hp, h1 b' o' hk⟩
theorem Kids.weak {w : World} {Q R : Heads} {v : Value} {l : List Nd} (h : Kids w Q v l) (hQ : ∀ p n c, Q p n c → R p n c) : Kids w R v l := by
  obtain ⟨p, c, hv, hq, hk⟩ := h
  refine ⟨p, c, hv, hQ _ _ _ hq, ?_⟩
  rcases hk with hk | ⟨b', o', hp, hk⟩
  · exact .inl hk
  · exact .inr ⟨b', o', hp, KA_weak hQ _ b' o' hk⟩
theorem NodeA.weak {w : World} {Q R : Heads} {b o : Nat} {t : Nd} (h : NodeA w Q b o t) (hQ : ∀ p n c, Q p n c → R p n c) : NodeA w R b o t := by
  obtain ⟨e0, e1, e2, e3, e4, e6, sv, e5, hk⟩ := h
  exact ⟨e0, e1, e2, e3, e4, e6, sv, e5, hk.weak hQ⟩

/-- A node as a value. -/
def nv (t : Nd) (sv : Value) : Value := .agg #[.int .i64 t.kind, .string t.name, .int .u32 t.num, .int .i64 t.int_, .string t.key, sv, .int .i64 t.at_]

end Go.Proofs.YtnhpnmilgcjeaaaDoor
