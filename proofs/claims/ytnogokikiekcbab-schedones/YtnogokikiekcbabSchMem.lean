import Derived.Test.YtnogokikiekcbabSchPlain
import Derived.Test.YtnogokikiekcbabRefAdd3
import Derived.Test.YtnogokikiekcbabRefDiv2
import Derived.Test.YtnogokikiekcbabFloatRoots
import Derived.Test.YtnogokikiekcbabSlices
import Derived.Test.YtnogokikiekcbabRows
import Derived.WalkKit
import Derived.WalkSpells
import Derived.WalkLawsBesides
import Derived.LoopN
import Derived.Below
import Derived.OwnWalk
import Derived.Shelf.Abstract
import Derived.Deep.AppendLies
import Derived.Maps.AppendAt
import Derived.Laws.AppendOwnNone
import Derived.Deep.DeepCutAuto
import Derived.Deep.QuietTactic
import Derived.Deep.RegionHeld3
import Derived.BigQuiet
import Derived.Handy
/- Schedules as they lie in memory. -/
namespace Go.Proofs.Ytnogokikiekcbab
open Go.RowKit
set_option linter.unusedVariables false
set_option linter.unusedSimpArgs false

theorem bel_alloc (w : World) (o : Obj) : Below w.heap.size w (w.alloc o) := (Below.refl _ _).alloc (Nat.le_refl _) o
theorem bel_dn (w : World) (n : Nat) : Below w.heap.size w (w.drewN n) := ⟨rfl, rfl, rfl, Nat.le_refl _, fun _ _ => rfl⟩
theorem bel_d (w : World) : Below w.heap.size w w.drew := (Below.refl _ _).drew
theorem ret_bool {a b : Bool} (h : a = b) : Ending.returned (.bool a) = .returned (.bool b) := by rw [h]
def Ent (k : Nat) : Prop := ∀ (args : Array Value) (w : World), (callFunc k args).run Try.prog w = .ok (.enter k args) w
theorem bcell {w w' : World} {a : Addr} {v : Value} (h : w.cell? a = some v) (k : Below w.heap.size w w') : w'.cell? a = some v := (k.cell (mcell_lt h)).trans h

/-- A row of numbers of a kind. -/
def Row (w : World) (k : IntKind) (v : Value) (l : List Int) : Prop :=
  ∃ p c, v = .slice p l.length c ∧ (l = [] ∨ ∃ b o, p = some ⟨b, o, none⟩ ∧ ∀ i (h : i < l.length), w.cell? ⟨b, o + i, none⟩ = some (.int k l[i]))
theorem Row.below {w w' : World} {k : IntKind} {v : Value} {l : List Int} (h : Row w k v l) (q : Below w.heap.size w w') : Row w' k v l := by
  obtain ⟨p, c, e, h⟩ := h
  refine ⟨p, c, e, ?_⟩
  rcases h with h | ⟨b, o, e, h⟩
  · exact .inl h
  · exact .inr ⟨b, o, e, fun i hi => bcell (h i hi) q⟩

/-- Schedules that lie one behind the other. -/
def SL (w : World) (b : Nat) (o : Nat) : List Sc → Prop
  | [] => True
  | ⟨op, ns, is, l⟩ :: r =>
    (w.cell? ⟨b, o, none⟩ = some (.int .i64 op) ∧ (∃ v, w.cell? ⟨b, o + 1, none⟩ = some v ∧ Row w .u32 v ns) ∧ (∃ v, w.cell? ⟨b, o + 2, none⟩ = some v ∧ Row w .i64 v is)
      ∧ ∃ p c, w.cell? ⟨b, o + 3, none⟩ = some (.slice p l.length c) ∧ (l = [] ∨ ∃ b' o', p = some ⟨b', o', none⟩ ∧ SL w b' o' l))
    ∧ SL w b (o + 4) r
def SK (w : World) (v : Value) (l : List Sc) : Prop := ∃ p c, v = .slice p l.length c ∧ (l = [] ∨ ∃ b o, p = some ⟨b, o, none⟩ ∧ SL w b o l)
def SA (w : World) (b o : Nat) (t : Sc) : Prop :=
  w.cell? ⟨b, o, none⟩ = some (.int .i64 t.op) ∧ (∃ v, w.cell? ⟨b, o + 1, none⟩ = some v ∧ Row w .u32 v t.nums) ∧ (∃ v, w.cell? ⟨b, o + 2, none⟩ = some v ∧ Row w .i64 v t.ints)
    ∧ ∃ v, w.cell? ⟨b, o + 3, none⟩ = some v ∧ SK w v t.kids
theorem SL_nil (w : World) (b o : Nat) : SL w b o [] := by simp [SL]
theorem SL_cons {w : World} {b o : Nat} {t : Sc} {r : List Sc} : SL w b o (t :: r) ↔ SA w b o t ∧ SL w b (o + 4) r := by
  cases t
  rw [SL]
  unfold SA SK
  refine and_congr_left fun _ => ?_
  constructor
  · rintro ⟨h0, h1, h2, p, c, h5, hk⟩
    exact ⟨h0, h1, h2, _, h5, p, c, rfl, hk⟩
  · rintro ⟨h0, h1, h2, _, h5, p, c, rfl, hk⟩
    exact ⟨h0, h1, h2, p, c, h5, hk⟩
theorem SL_get {w : World} {b o : Nat} {l : List Sc} (h : SL w b o l) {i : Nat} (hi : i < l.length) : SA w b (o + i * 4) l[i] := by
  induction l generalizing o i with
  | nil => exact absurd hi (Nat.not_lt_zero _)
  | cons t r ih =>
    rw [SL_cons] at h
    cases i with
    | zero => simpa using h.1
    | succ i =>
      have := ih h.2 (i := i) (by simpa using hi)
      rw [show o + 4 + i * 4 = o + (i + 1) * 4 by omega] at this
      simpa using this
theorem SL_of {w : World} {b o : Nat} {l : List Sc} (h : ∀ i (hi : i < l.length), SA w b (o + i * 4) l[i]) : SL w b o l := by
  induction l generalizing o with
  | nil => exact SL_nil _ _ _
  | cons t r ih =>
    rw [SL_cons]
    have h0 := h 0 (Nat.succ_pos _)
    rw [Nat.zero_mul, Nat.add_zero] at h0
    refine ⟨h0, ih fun i hi => ?_⟩
    have := h (i + 1) (Nat.succ_lt_succ hi)
    rw [show o + (i + 1) * 4 = o + 4 + i * 4 by omega] at this
    simpa using this
theorem SL.below {w w' : World} (q : Below w.heap.size w w') : ∀ (l : List Sc) (b o : Nat), SL w b o l → SL w' b o l := by
  apply sforest (P := fun l => ∀ (b o : Nat), SL w b o l → SL w' b o l)
  · intro b o _
    exact SL_nil _ _ _
  · intro t r h1 h2 b o h
    rw [SL_cons] at h ⊢
    obtain ⟨⟨e0, ⟨v1, e1, r1⟩, ⟨v2, e2, r2⟩, v3, e3, p, c, hv, hk⟩, hr⟩ := h
    refine ⟨⟨bcell e0 q, ⟨v1, bcell e1 q, r1.below q⟩, ⟨v2, bcell e2 q, r2.below q⟩, v3, bcell e3 q, p, c, hv, ?_⟩, h2 b (o + 4) hr⟩
    rcases hk with hk | ⟨b', o', hp, hk⟩
    · exact .inl hk
    · exact .inr ⟨b', o', hp, h1 b' o' hk⟩
theorem SA.below {w w' : World} {b o : Nat} {t : Sc} (h : SA w b o t) (q : Below w.heap.size w w') : SA w' b o t := by
  have h1 : SL w b o [t] := SL_cons.2 ⟨h, SL_nil _ _ _⟩
  exact (SL_cons.1 (SL.below q _ _ _ h1)).1
theorem SK.below {w w' : World} {v : Value} {l : List Sc} (h : SK w v l) (q : Below w.heap.size w w') : SK w' v l := by
  obtain ⟨p, c, e, h⟩ := h
  refine ⟨p, c, e, ?_⟩
  rcases h with h | ⟨b, o, e, h⟩
  · exact .inl h
  · exact .inr ⟨b, o, e, SL.below q _ _ _ h⟩
/-- A schedule as a value: the three rows. -/
structure SV (w : World) (t : Sc) (a b c : Value) : Prop where
  nums : Row w .u32 a t.nums
  ints : Row w .i64 b t.ints
  kids : SK w c t.kids
theorem SV.below {w w' : World} {t : Sc} {a b c : Value} (h : SV w t a b c) (q : Below w.heap.size w w') : SV w' t a b c := ⟨h.nums.below q, h.ints.below q, h.kids.below q⟩
theorem cell_heap {w : World} {G : Nat} {cs : Array Value} {t : TypeId} {f : Nat × Nat} (h : w.heap[G]? = some (.cells cs t f)) (i : Nat) : w.cell? ⟨G, i, none⟩ = cs[i]? := by
  simp [World.cell?, h]
theorem box_heap (w : World) (o : Obj) : (w.alloc o).heap[w.heap.size]? = some o := (MapKept.heap_alloc w _).1
theorem hlt {w : World} {G : Nat} {o : Obj} (h : w.heap[G]? = some o) : G < w.heap.size := by
  rcases Nat.lt_or_ge G w.heap.size with c | c
  · exact c
  · rw [Array.getElem?_eq_none c] at h; cases h
/-- Where a schedule lies boxed. -/
theorem SV.at_ {w : World} {t : Sc} {a b c : Value} (h : SV w t a b c) {G o : Nat} (e0 : w.cell? ⟨G, o, none⟩ = some (.int .i64 t.op)) (e1 : w.cell? ⟨G, o + 1, none⟩ = some a) (e2 : w.cell? ⟨G, o + 2, none⟩ = some b) (e3 : w.cell? ⟨G, o + 3, none⟩ = some c) : SA w G o t :=
  ⟨e0, ⟨a, e1, h.nums⟩, ⟨b, e2, h.ints⟩, c, e3, h.kids⟩
theorem SV.box {w : World} {t : Sc} {a b c : Value} (h : SV w t a b c) : SA (w.alloc (.cells #[.int .i64 t.op, a, b, c] 26)) w.heap.size 0 t := by
  have k := box_heap w (.cells #[.int .i64 t.op, a, b, c] 26)
  exact (h.below (bel_alloc w _)).at_ (cell_heap k 0) (cell_heap k 1) (cell_heap k 2) (cell_heap k 3)
/-- A schedule opened: its cells, its rows, those in it. -/
theorem SA.open {w : World} {b o : Nat} {t : Sc} (h : SA w b o t) : ∃ pn cn pi ci pk ck,
    w.cell? ⟨b, o, none⟩ = some (.int .i64 t.op) ∧ w.cell? ⟨b, o + 1, none⟩ = some (.slice pn t.nums.length cn) ∧ w.cell? ⟨b, o + 2, none⟩ = some (.slice pi t.ints.length ci) ∧ w.cell? ⟨b, o + 3, none⟩ = some (.slice pk t.kids.length ck)
    ∧ (∀ i (hi : i < t.nums.length), ∃ b' o', pn = some ⟨b', o', none⟩ ∧ w.cell? ⟨b', o' + i, none⟩ = some (.int .u32 t.nums[i]))
    ∧ (∀ i (hi : i < t.ints.length), ∃ b' o', pi = some ⟨b', o', none⟩ ∧ w.cell? ⟨b', o' + i, none⟩ = some (.int .i64 t.ints[i]))
    ∧ (∀ i (hi : i < t.kids.length), ∃ b' o', pk = some ⟨b', o', none⟩ ∧ SA w b' (o' + i * 4) t.kids[i]) := by
  obtain ⟨e0, ⟨v1, e1, pn, cn, rfl, r1⟩, ⟨v2, e2, pi, ci, rfl, r2⟩, v3, e3, pk, ck, rfl, r3⟩ := h
  refine ⟨pn, cn, pi, ci, pk, ck, e0, e1, e2, e3, fun i hi => ?_, fun i hi => ?_, fun i hi => ?_⟩
  · rcases r1 with r | ⟨b', o', e, r⟩
    · rw [r] at hi; exact absurd hi (Nat.not_lt_zero _)
    · exact ⟨b', o', e, r i hi⟩
  · rcases r2 with r | ⟨b', o', e, r⟩
    · rw [r] at hi; exact absurd hi (Nat.not_lt_zero _)
    · exact ⟨b', o', e, r i hi⟩
  · rcases r3 with r | ⟨b', o', e, r⟩
    · rw [r] at hi; exact absurd hi (Nat.not_lt_zero _)
    · exact ⟨b', o', e, SL_get r hi⟩
theorem SA.val {w : World} {b o : Nat} {t : Sc} (h : SA w b o t) : ∃ a c d, w.cell? ⟨b, o, none⟩ = some (.int .i64 t.op) ∧ w.cell? ⟨b, o + 1, none⟩ = some a ∧ w.cell? ⟨b, o + 2, none⟩ = some c ∧ w.cell? ⟨b, o + 3, none⟩ = some d ∧ SV w t a c d := by
  obtain ⟨e0, ⟨v1, e1, r1⟩, ⟨v2, e2, r2⟩, v3, e3, r3⟩ := h
  exact ⟨v1, v2, v3, e0, e1, e2, e3, r1, r2, r3⟩

/-- Package float's contracts, over patterns. -/
theorem f_add {a b : Int} (h : Pat a) (k : Pat b) (w : World) : Calls Try.prog 27 #[.int .u32 a, .int .u32 b] w fun e w' => e = .returned (.int .u32 (fadd a b)) ∧ Below w.heap.size w w' := add_any a h.1 h.2 b k.1 k.2 w
theorem f_sub {a b : Int} (h : Pat a) (k : Pat b) (w : World) : Calls Try.prog 18 #[.int .u32 a, .int .u32 b] w fun e w' => e = .returned (.int .u32 (fsub a b)) ∧ Below w.heap.size w w' := sub_any a h.1 h.2 b k.1 k.2 w
theorem f_mul {a b : Int} (h : Pat a) (k : Pat b) (w : World) : Calls Try.prog 28 #[.int .u32 a, .int .u32 b] w fun e w' => e = .returned (.int .u32 (fmul a b)) ∧ Below w.heap.size w w' := mul_any a h.1 h.2 b k.1 k.2 w
theorem f_div {a b : Int} (h : Pat a) (k : Pat b) (w : World) : Calls Try.prog 43 #[.int .u32 a, .int .u32 b] w fun e w' => e = .returned (.int .u32 (fdiv a b)) ∧ Below w.heap.size w w' := div_any a h.1 h.2 b k.1 k.2 w
theorem f_min {a b : Int} (h : Pat a) (k : Pat b) (w : World) : Calls Try.prog 13 #[.int .u32 a, .int .u32 b] w fun e w' => e = .returned (.int .u32 (fmin a b)) ∧ Below w.heap.size w w' := min_any a h.1 h.2 b k.1 k.2 w
theorem f_max {a b : Int} (h : Pat a) (k : Pat b) (w : World) : Calls Try.prog 14 #[.int .u32 a, .int .u32 b] w fun e w' => e = .returned (.int .u32 (fmax a b)) ∧ Below w.heap.size w w' := max_any a h.1 h.2 b k.1 k.2 w
theorem f_less {a b : Int} (h : Pat a) (k : Pat b) (w : World) : Calls Try.prog 15 #[.int .u32 a, .int .u32 b] w fun e w' => e = .returned (.bool (fless a b)) ∧ Below w.heap.size w w' := (less_any a h.1 h.2 b k.1 k.2 w).mono fun e w' ⟨h, k⟩ => ⟨h, by rw [k]; exact bel0 w⟩
theorem f_neg {a : Int} (h : Pat a) (w : World) : Calls Try.prog 16 #[.int .u32 a] w fun e w' => e = .returned (.int .u32 (fneg a)) ∧ Below w.heap.size w w' := (neg_any a h.1 h.2 w).mono fun e w' ⟨h, k⟩ => ⟨h, by rw [k]; exact bel0 w⟩
theorem f_sqrt {a : Int} (h : Pat a) (w : World) : Calls Try.prog 35 #[.int .u32 a] w fun e w' => e = .returned (.int .u32 (fsqrt a)) ∧ Below w.heap.size w w' := sqrt_any a h.1 h.2 w
theorem f_fin {a : Int} (h : Pat a) (w : World) : Calls Try.prog 54 #[.int .u32 a] w fun e w' => e = .returned (.bool (ffin a)) ∧ Below w.heap.size w w' := (finite_any a h.1 h.2 w).mono fun e w' ⟨h, k⟩ => ⟨h, by rw [k]; exact bel0 w⟩
theorem f_from {n : Int} (h : -9223372036854775808 ≤ n ∧ n ≤ 9223372036854775807) (w : World) : Calls Try.prog 44 #[.int .i64 n] w fun e w' => e = .returned (.int .u32 (ffrom n)) ∧ Below w.heap.size w w' := (from_any n h.1 h.2 w).mono fun e w' ⟨h, k⟩ => ⟨h, by rw [k]; exact bel0 w⟩
theorem f_pow {a n : Int} (h : Pat a) (k : -9223372036854775808 ≤ n ∧ n ≤ 9223372036854775807) (w : World) : Calls Try.prog 34 #[.int .u32 a, .int .i64 n] w fun e w' => e = .returned (.int .u32 (fpow a n)) ∧ Below w.heap.size w w' := pow_any a h.1 h.2 n k.1 k.2 w

end Go.Proofs.Ytnogokikiekcbab
