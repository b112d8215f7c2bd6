import Derived.Test.YtnogokikiekcbaaPart5
import Derived.Test.YtnogokikiekcbaaPart6
import Derived.Test.YtnogokikiekcbaaRows
import Derived.WalkKit
import Derived.WalkSpells
import Derived.WalkLawsBesides
import Derived.LoopN
import Derived.Below
import Derived.OwnWalk
import Derived.Shelf.Abstract
import Derived.Deep.AppendLies
import Derived.Maps.AppendAt
import Derived.Laws.AppendOwnNone
import Derived.Deep.DeepCutAuto
import Derived.Deep.QuietTactic
import Derived.Deep.RegionHeld3
import Derived.BigQuiet
import Derived.Handy
/- Schedules as they lie in memory. -/
namespace Go.Proofs.Ytnogokikiekcbaa
open Go.RowKit
set_option linter.unusedVariables false
set_option linter.unusedSimpArgs false

theorem bel_alloc (w : World) (o : Obj) : Below w.heap.size w (w.alloc o) := (Below.refl _ _).alloc (Nat.le_refl _) o
theorem bel_d (w : World) : Below w.heap.size w w.drew := (Below.refl _ _).drew
theorem ret_bool {a b : Bool} (h : a = b) : Ending.returned (.bool a) = .returned (.bool b) := by rw [h]
def Ent (k : Nat) : Prop := ∀ (args : Array Value) (w : World), (callFunc k args).run Try.prog w = .ok (.enter k args) w
theorem bcell {w w' : World} {a : Addr} {v : Value} (h : w.cell? a = some v) (k : Below w.heap.size w w') : w'.cell? a = some v := (k.cell (mcell_lt h)).trans h

/-- A row of numbers of a kind. -/
def Row (w : World) (k : IntKind) (v : Value) (l : List Int) : Prop :=
  ∃ p c, v = .slice p l.length c ∧ (l = [] ∨ ∃ b o, p = some ⟨b, o, none⟩ ∧ ∀ i (h : i < l.length), w.cell? ⟨b, o + i, none⟩ = some (.int k l[i]))
theorem Row.below {w w' : World} {k : IntKind} {v : Value} {l : List Int} (h : Row w k v l) (q : Below w.heap.size w w') : Row w' k v l := by
  obtain ⟨p, c, e, h⟩ := h
  refine ⟨p, c, e, ?_⟩
  rcases h with h | ⟨b, o, e, h⟩
  · exact .inl h
  · exact .inr ⟨b, o, e, fun i hi => bcell (h i hi) q⟩

/-- Schedules that lie one behind the other. -/
def SL (w : World) (b : Nat) (o : Nat) : List Sc → Prop
  | [] => True
  | ⟨op, ns, is, l⟩ :: r =>
    (w.cell? ⟨b, o, none⟩ = some (.int .i64 op) ∧ (∃ v, w.cell? ⟨b, o + 1, none⟩ = some v ∧ Row w .u32 v ns) ∧ (∃ v, w.cell? ⟨b, o + 2, none⟩ = some v ∧ Row w .i64 v is)
      ∧ ∃ p c, w.cell? ⟨b, o + 3, none⟩ = some (.slice p l.length c) ∧ (l = [] ∨ ∃ b' o', p = some ⟨b', o', none⟩ ∧ SL w b' o' l))
    ∧ SL w b (o + 4) r
def SK (w : World) (v : Value) (l : List Sc) : Prop := ∃ p c, v = .slice p l.length c ∧ (l = [] ∨ ∃ b o, p = some ⟨b, o, none⟩ ∧ SL w b o l)
def SA (w : World) (b o : Nat) (t : Sc) : Prop :=
  w.cell? ⟨b, o, none⟩ = some (.int .i64 t.op) ∧ (∃ v, w.cell? ⟨b, o + 1, none⟩ = some v ∧ Row w .u32 v t.nums) ∧ (∃ v, w.cell? ⟨b, o + 2, none⟩ = some v ∧ Row w .i64 v t.ints)
    ∧ ∃ v, w.cell? ⟨b, o + 3, none⟩ = some v ∧ SK w v t.kids
theorem SL_nil (w : World) (b o : Nat) : SL w b o [] := by simp [SL]
theorem SL_cons {w : World} {b o : Nat} {t : Sc} {r : List Sc} : SL w b o (t :: r) ↔ SA w b o t ∧ SL w b (o + 4) r := by
  cases t
  rw [SL]
  unfold SA SK
  refine and_congr_left fun _ => ?_
  constructor
  · rintro ⟨h0, h1, h2, p, c, h5, hk⟩
    exact ⟨h0, h1, h2, _, h5, p, c, rfl, hk⟩
  · rintro ⟨h0, h1, h2, _, h5, p, c, rfl, hk⟩
    exact ⟨h0, h1, h2, p, c, h5, hk⟩
theorem SL_get {w : World} {b o : Nat} {l : List Sc} (h : SL w b o l) {i : Nat} (hi : i < l.length) : SA w b (o + i * 4) l[i] := by
  induction l generalizing o i with
  | nil => exact absurd hi (Nat.not_lt_zero _)
  | cons t r ih =>
    rw [SL_cons] at h
    cases i with
    | zero => simpa using h.1
    | succ i =>
      have := ih h.2 (i := i) (by simpa using hi)
      rw [show o + 4 + i * 4 = o + (i + 1) * 4 by omega] at this
      simpa using this
theorem SL_of {w : World} {b o : Nat} {l : List Sc} (h : ∀ i (hi : i < l.length), SA w b (o + i * 4) l[i]) : SL w b o l := by
  induction l generalizing o with
  | nil => exact SL_nil _ _ _
  | cons t r ih =>
    rw [SL_cons]
    have h0 := h 0 (Nat.succ_pos _)
    rw [Nat.zero_mul, Nat.add_zero] at h0
    refine ⟨h0, ih fun i hi => ?_⟩
    have := h (i + 1) (Nat.succ_lt_succ hi)
    rw [show o + (i + 1) * 4 = o + 4 + i * 4 by omega] at this
    simpa using this
theorem SL.below {w w' : World} (q : Below w.heap.size w w') : ∀ (l : List Sc) (b o : Nat), SL w b o l → SL w' b o l := by
  apply sforest (P := fun l => ∀ (b o : Nat), SL w b o l → SL w' b o l)
  · intro b o _
    exact SL_nil _ _ _
  · intro t r h1 h2 b o h
    rw [SL_cons] at h ⊢
    obtain ⟨⟨e0, ⟨v1, e1, r1⟩, ⟨v2, e2, r2⟩, v3, e3, p, c, hv, hk⟩, hr⟩ := h
    refine ⟨⟨bcell e0 q, ⟨v1, bcell e1 q, r1.below q⟩, ⟨v2, bcell e2 q, r2.below q⟩, v3, bcell e3 q, p, c, hv, ?_⟩, h2 b (o + 4) hr⟩
    rcases hk with hk | ⟨b', o', hp, hk⟩
    · exact .inl hk
    · exact .inr ⟨b', o', hp, h1 b' o' hk⟩
theorem SA.below {w w' : World} {b o : Nat} {t : Sc} (h : SA w b o t) (q : Below w.heap.size w w') : SA w' b o t := by
  have h1 : SL w b o [t] := SL_cons.2 ⟨h, SL_nil _ _ _⟩
  exact (SL_cons.1 (SL.below q _ _ _ h1)).1
theorem SK.below {w w' : World} {v : Value} {l : List Sc} (h : SK w v l) (q : Below w.heap.size w w') : SK w' v l := by
  obtain ⟨p, c, e, h⟩ := h
  refine ⟨p, c, e, ?_⟩
  rcases h with h | ⟨b, o, e, h⟩
  · exact .inl h
  · exact .inr ⟨b, o, e, SL.below q _ _ _ h⟩
/-- A schedule as a value: the three rows. -/
structure SV (w : World) (t : Sc) (a b c : Value) : Prop where
  nums : Row w .u32 a t.nums
  ints : Row w .i64 b t.ints
  kids : SK w c t.kids
theorem SV.below {w w' : World} {t : Sc} {a b c : Value} (h : SV w t a b c) (q : Below w.heap.size w w') : SV w' t a b c := ⟨h.nums.below q, h.ints.below q, h.kids.below q⟩
theorem cell_heap {w : World} {G : Nat} {cs : Array Value} {t : TypeId} {f : Nat × Nat} (h : w.heap[G]? = some (.cells cs t f)) (i : Nat) : w.cell? ⟨G, i, none⟩ = cs[i]? := by
  simp [World.cell?, h]
theorem box_heap (w : World) (o : Obj) : (w.alloc o).heap[w.heap.size]? = some o := (MapKept.heap_alloc w _).1
theorem hlt {w : World} {G : Nat} {o : Obj} (h : w.heap[G]? = some o) : G < w.heap.size := by
  rcases Nat.lt_or_ge G w.heap.size with c | c
  · exact c
  · rw [Array.getElem?_eq_none c] at h; cases h
/-- Where a schedule lies boxed. -/
theorem SV.at_ {w : World} {t : Sc} {a b c : Value} (h : SV w t a b c) {G o : Nat} (e0 : w.cell? ⟨G, o, none⟩ = some (.int .i64 t.op)) (e1 : w.cell? ⟨G, o + 1, none⟩ = some a) (e2 : w.cell? ⟨G, o + 2, none⟩ = some b) (e3 : w.cell? ⟨G, o + 3, none⟩ = some c) : SA w G o t :=
  ⟨e0, ⟨a, e1, h.nums⟩, ⟨b, e2, h.ints⟩, c, e3, h.kids⟩
theorem SV.box {w : World} {t : Sc} {a b c : Value} (h : SV w t a b c) : SA (w.alloc (.cells #[.int .i64 t.op, a, b, c] 26)) w.heap.size 0 t := by
  have k := box_heap w (.cells #[.int .i64 t.op, a, b, c] 26)
  exact (h.below (bel_alloc w _)).at_ (cell_heap k 0) (cell_heap k 1) (cell_heap k 2) (cell_heap k 3)
/-- A schedule opened: its cells, its rows, those in it. -/
theorem SA.open {w : World} {b o : Nat} {t : Sc} (h : SA w b o t) : ∃ pn cn pi ci pk ck,
    w.cell? ⟨b, o, none⟩ = some (.int .i64 t.op) ∧ w.cell? ⟨b, o + 1, none⟩ = some (.slice pn t.nums.length cn) ∧ w.cell? ⟨b, o + 2, none⟩ = some (.slice pi t.ints.length ci) ∧ w.cell? ⟨b, o + 3, none⟩ = some (.slice pk t.kids.length ck)
    ∧ (∀ i (hi : i < t.nums.length), ∃ b' o', pn = some ⟨b', o', none⟩ ∧ w.cell? ⟨b', o' + i, none⟩ = some (.int .u32 t.nums[i]))
    ∧ (∀ i (hi : i < t.ints.length), ∃ b' o', pi = some ⟨b', o', none⟩ ∧ w.cell? ⟨b', o' + i, none⟩ = some (.int .i64 t.ints[i]))
    ∧ (∀ i (hi : i < t.kids.length), ∃ b' o', pk = some ⟨b', o', none⟩ ∧ SA w b' (o' + i * 4) t.kids[i]) := by
  obtain ⟨e0, ⟨v1, e1, pn, cn, rfl, r1⟩, ⟨v2, e2, pi, ci, rfl, r2⟩, v3, e3, pk, ck, rfl, r3⟩ := h
  refine ⟨pn, cn, pi, ci, pk, ck, e0, e1, e2, e3, fun i hi => ?_, fun i hi => ?_, fun i hi => ?_⟩
  · rcases r1 with r | ⟨b', o', e, r⟩
    · rw [r] at hi; exact absurd hi (Nat.not_lt_zero _)
    · exact ⟨b', o', e, r i hi⟩
  · rcases r2 with r | ⟨b', o', e, r⟩
    · rw [r] at hi; exact absurd hi (Nat.not_lt_zero _)
    · exact ⟨b', o', e, r i hi⟩
  · rcases r3 with r | ⟨b', o', e, r⟩
    · rw [r] at hi; exact absurd hi (Nat.not_lt_zero _)
    · exact ⟨b', o', e, SL_get r hi⟩
theorem SA.val {w : World} {b o : Nat} {t : Sc} (h : SA w b o t) : ∃ a c d, w.cell? ⟨b, o, none⟩ = some (.int .i64 t.op) ∧ w.cell? ⟨b, o + 1, none⟩ = some a ∧ w.cell? ⟨b, o + 2, none⟩ = some c ∧ w.cell? ⟨b, o + 3, none⟩ = some d ∧ SV w t a c d := by
  obtain ⟨e0, ⟨v1, e1, r1⟩, ⟨v2, e2, r2⟩, v3, e3, r3⟩ := h
  exact ⟨v1, v2, v3, e0, e1, e2, e3, r1, r2, r3⟩

/-- Package float's contracts, over patterns. -/
theorem f_add {a b : Int} (h : Pat a) (k : Pat b) (w : World) : Calls Try.prog 58 #[.int .u32 a, .int .u32 b] w fun e w' => e = .returned (.int .u32 (fadd a b)) ∧ Below w.heap.size w w' := add_any a h.1 h.2 b k.1 k.2 w
theorem f_sub {a b : Int} (h : Pat a) (k : Pat b) (w : World) : Calls Try.prog 39 #[.int .u32 a, .int .u32 b] w fun e w' => e = .returned (.int .u32 (fsub a b)) ∧ Below w.heap.size w w' := sub_any a h.1 h.2 b k.1 k.2 w
theorem f_mul {a b : Int} (h : Pat a) (k : Pat b) (w : World) : Calls Try.prog 59 #[.int .u32 a, .int .u32 b] w fun e w' => e = .returned (.int .u32 (fmul a b)) ∧ Below w.heap.size w w' := mul_any a h.1 h.2 b k.1 k.2 w
theorem f_div {a b : Int} (h : Pat a) (k : Pat b) (w : World) : Calls Try.prog 85 #[.int .u32 a, .int .u32 b] w fun e w' => e = .returned (.int .u32 (fdiv a b)) ∧ Below w.heap.size w w' := div_any a h.1 h.2 b k.1 k.2 w
theorem f_min {a b : Int} (h : Pat a) (k : Pat b) (w : World) : Calls Try.prog 34 #[.int .u32 a, .int .u32 b] w fun e w' => e = .returned (.int .u32 (fmin a b)) ∧ Below w.heap.size w w' := min_any a h.1 h.2 b k.1 k.2 w
theorem f_max {a b : Int} (h : Pat a) (k : Pat b) (w : World) : Calls Try.prog 35 #[.int .u32 a, .int .u32 b] w fun e w' => e = .returned (.int .u32 (fmax a b)) ∧ Below w.heap.size w w' := max_any a h.1 h.2 b k.1 k.2 w
theorem f_less {a b : Int} (h : Pat a) (k : Pat b) (w : World) : Calls Try.prog 36 #[.int .u32 a, .int .u32 b] w fun e w' => e = .returned (.bool (fless a b)) ∧ Below w.heap.size w w' := (less_any a h.1 h.2 b k.1 k.2 w).mono fun e w' ⟨h, k⟩ => ⟨h, by rw [k]; exact bel0 w⟩
theorem f_neg {a : Int} (h : Pat a) (w : World) : Calls Try.prog 37 #[.int .u32 a] w fun e w' => e = .returned (.int .u32 (fneg a)) ∧ Below w.heap.size w w' := (neg_any a h.1 h.2 w).mono fun e w' ⟨h, k⟩ => ⟨h, by rw [k]; exact bel0 w⟩
theorem f_sqrt {a : Int} (h : Pat a) (w : World) : Calls Try.prog 74 #[.int .u32 a] w fun e w' => e = .returned (.int .u32 (fsqrt a)) ∧ Below w.heap.size w w' := sqrt_any a h.1 h.2 w
theorem f_fin {a : Int} (h : Pat a) (w : World) : Calls Try.prog 96 #[.int .u32 a] w fun e w' => e = .returned (.bool (ffin a)) ∧ Below w.heap.size w w' := (finite_any a h.1 h.2 w).mono fun e w' ⟨h, k⟩ => ⟨h, by rw [k]; exact bel0 w⟩
theorem f_from {n : Int} (h : -9223372036854775808 ≤ n ∧ n ≤ 9223372036854775807) (w : World) : Calls Try.prog 86 #[.int .i64 n] w fun e w' => e = .returned (.int .u32 (ffrom n)) ∧ Below w.heap.size w w' := (from_any n h.1 h.2 w).mono fun e w' ⟨h, k⟩ => ⟨h, by rw [k]; exact bel0 w⟩
theorem f_pow {a n : Int} (h : Pat a) (k : -9223372036854775808 ≤ n ∧ n ≤ 9223372036854775807) (w : World) : Calls Try.prog 73 #[.int .u32 a, .int .i64 n] w fun e w' => e = .returned (.int .u32 (fpow a n)) ∧ Below w.heap.size w w' := pow_any a h.1 h.2 n k.1 k.2 w

theorem r_add {a b : Int} (h : Pat a) (k : Pat b) (w : World) : Calls Try.prog 25 #[.int .i64 a, .int .i64 b] w fun e w' => e = .returned (.int .i64 (fadd a b)) ∧ Below w.heap.size w w' := radd_any a h.1 h.2 b k.1 k.2 w

theorem r_sub {a b : Int} (h : Pat a) (k : Pat b) (w : World) : Calls Try.prog 21 #[.int .i64 a, .int .i64 b] w fun e w' => e = .returned (.int .i64 (fsub a b)) ∧ Below w.heap.size w w' := rsub_any a h.1 h.2 b k.1 k.2 w

theorem r_mul {a b : Int} (h : Pat a) (k : Pat b) (w : World) : Calls Try.prog 26 #[.int .i64 a, .int .i64 b] w fun e w' => e = .returned (.int .i64 (fmul a b)) ∧ Below w.heap.size w w' := rmul_any a h.1 h.2 b k.1 k.2 w

theorem r_div {a b : Int} (h : Pat a) (k : Pat b) (w : World) : Calls Try.prog 60 #[.int .i64 a, .int .i64 b] w fun e w' => e = .returned (.int .i64 (fdiv a b)) ∧ Below w.heap.size w w' := rdiv_any a h.1 h.2 b k.1 k.2 w

theorem r_min {a b : Int} (h : Pat a) (k : Pat b) (w : World) : Calls Try.prog 40 #[.int .i64 a, .int .i64 b] w fun e w' => e = .returned (.int .i64 (fmin a b)) ∧ Below w.heap.size w w' := rmin_any a h.1 h.2 b k.1 k.2 w

theorem r_max {a b : Int} (h : Pat a) (k : Pat b) (w : World) : Calls Try.prog 41 #[.int .i64 a, .int .i64 b] w fun e w' => e = .returned (.int .i64 (fmax a b)) ∧ Below w.heap.size w w' := rmax_any a h.1 h.2 b k.1 k.2 w

theorem r_less {a b : Int} (h : Pat a) (k : Pat b) (w : World) : Calls Try.prog 19 #[.int .i64 a, .int .i64 b] w fun e w' => e = .returned (.bool (fless a b)) ∧ Below w.heap.size w w' := rless_any a h.1 h.2 b k.1 k.2 w

theorem r_fin {a : Int} (h : Pat a) (w : World) : Calls Try.prog 23 #[.int .i64 a] w fun e w' => e = .returned (.bool (ffin a)) ∧ Below w.heap.size w w' := rfinite_any a h.1 h.2 w

theorem r_canon {a : Int} (h : Pat a) (w : World) : Calls Try.prog 42 #[.int .i64 a] w fun e w' => e = .returned (.int .i64 (canon a)) ∧ Below w.heap.size w w' := rcanon2_any a h.1 h.2 w

theorem r_neg {a : Int} (h : Pat a) (w : World) : Calls Try.prog 22 #[.int .i64 a] w fun e w' => e = .returned (.int .i64 (fneg a)) ∧ Below w.heap.size w w' := rneg_any a h.1 h.2 w

theorem r_sqrt {a : Int} (h : Pat a) (w : World) : Calls Try.prog 63 #[.int .i64 a] w fun e w' => e = .returned (.int .i64 (fsqrt a)) ∧ Below w.heap.size w w' := rsqrt_any a h.1 h.2 w

theorem r_from {n : Int} (h : -9223372036854775808 ≤ n ∧ n ≤ 9223372036854775807) (w : World) : Calls Try.prog 61 #[.int .i64 n] w fun e w' => e = .returned (.int .i64 (ffrom n)) ∧ Below w.heap.size w w' := (rfrom_any n h.1 h.2 w).mono fun e w' ⟨h, k⟩ => ⟨h, by rw [k]; exact bel0 w⟩

theorem r_pow {a n : Int} (h : Pat a) (k : -9223372036854775808 ≤ n ∧ n ≤ 9223372036854775807) (w : World) : Calls Try.prog 62 #[.int .i64 a, .int .i64 n] w fun e w' => e = .returned (.int .i64 (fpow a n)) ∧ Below w.heap.size w w' := rpow_any a h.1 h.2 n k.1 k.2 w

end Go.Proofs.Ytnogokikiekcbaa
/- Package sched: quarter, Wave. -/
namespace Go.Proofs.Ytnogokikiekcbaa
open Go.RowKit
set_option linter.unusedVariables false
set_option linter.unusedSimpArgs false

theorem facs_at (k : Nat) (h : k < 6) (f : Int → Value) : #[f 989653445, f 3167971577, f 1047591555, f 3215649252, f 1082253560, f 3231574502, f 1065353216][1 + k]? = some (f (fac k)) := by
  match k, h with
  | 0, _ => rfl
  | 1, _ => rfl
  | 2, _ => rfl
  | 3, _ => rfl
  | 4, _ => rfl
  | 5, _ => rfl
theorem facs_at' (k : Nat) (h : k < 6) (f : Int → Value) : #[f 3167971577, f 1047591555, f 3215649252, f 1082253560, f 3231574502, f 1065353216][k]? = some (f (fac k)) := by
  match k, h with
  | 0, _ => rfl
  | 1, _ => rfl
  | 2, _ => rfl
  | 3, _ => rfl
  | 4, _ => rfl
  | 5, _ => rfl

set_option maxRecDepth 100000 in
set_option maxHeartbeats 1000000 in
theorem quarter_any (t : Int) (ht : Pat t) (w : World) : Calls Try.prog 38 #[.int .u32 t] w fun e w' => e = .returned (.int .u32 (qrt t)) ∧ Below w.heap.size w w' := by
  have HB : Below w.heap.size w w := bel0 w
  go_enter Try.func38, Try.ntmps38
  go_wp2_with ((go_at_call 59; refine (f_mul (by with_reducible first | assumption | exact pat_add _ _ | exact pat_sub _ _ | exact pat_mul _ _ | exact pat_div _ _ | exact pat_sqrt _ | exact pat_from _ | exact pat_rat _ _ | exact pat_qrt _ | exact pat_qrN _ _ | exact pat_0 | exact pat_1 | exact pat_h) (by with_reducible first | assumption | exact pat_add _ _ | exact pat_sub _ _ | exact pat_mul _ _ | exact pat_div _ _ | exact pat_sqrt _ | exact pat_from _ | exact pat_rat _ _ | exact pat_qrt _ | exact pat_qrN _ _ | exact pat_0 | exact pat_1 | exact pat_h) _).mono ?_; rintro e wx ⟨rfl, hbx⟩; have HB : Below w.heap.size w wx := (by first | exact bel HB hbx | exact bel (by go_grown) hbx); have hx := (hbx.block w.heap.size (by simp)).trans (box_heap w _); have c0 := cell_heap hx 0))
  clear c0
  have HX : Hid (wx.heap[w.heap.size]? = some (.cells #[.int .u32 989653445, .int .u32 3167971577, .int .u32 1047591555, .int .u32 3215649252, .int .u32 1082253560, .int .u32 3231574502, .int .u32 1065353216] 73)) := hx
  clear hx hbx
  go_loopw [5, 16] (fun sv iv wr => Below w.heap.size w wr ∧ ∃ j : Nat, j ≤ 6 ∧ iv = .int .i64 j ∧ sv = .int .u32 (qrN (fmul t t) j) ∧ Hid (wr.heap[w.heap.size]? = some (.cells #[.int .u32 989653445, .int .u32 3167971577, .int .u32 1047591555, .int .u32 3215649252, .int .u32 1082253560, .int .u32 3231574502, .int .u32 1065353216] 73))) (fun _ iv _ => 6 - (intOf iv).toNat)
  case atStart => exact ⟨HB, 0, Nat.zero_le _, rfl, rfl, HX⟩
  case round =>
    obtain ⟨hb, j, hj, rfl, rfl, HY⟩ := hrel
    by_cases hlt0 : j < 6
    · have c1 : wr.cell? ⟨w.heap.size, 1 + j, none⟩ = some (.int .u32 (fac j)) := (cell_heap HY.out (1 + j)).trans (facs_at j hlt0 (.int .u32))
      have i1 : (0 : Int) ≤ (j : Int) := by omega
      have i2 : (j : Int) < 6 := by omega
      have hpf := pat_facs j
      have hpq := pat_qrN (fmul t t) j
      clear HB
      have HB : Below wr.heap.size wr wr := bel0 wr
      go_wp2_with (first
    | (go_at_call 59; refine (f_mul (by with_reducible first | assumption | exact pat_add _ _ | exact pat_sub _ _ | exact pat_mul _ _ | exact pat_div _ _ | exact pat_sqrt _ | exact pat_from _ | exact pat_rat _ _ | exact pat_qrt _ | exact pat_qrN _ _ | exact pat_0 | exact pat_1 | exact pat_h) (by with_reducible first | assumption | exact pat_add _ _ | exact pat_sub _ _ | exact pat_mul _ _ | exact pat_div _ _ | exact pat_sqrt _ | exact pat_from _ | exact pat_rat _ _ | exact pat_qrt _ | exact pat_qrN _ _ | exact pat_0 | exact pat_1 | exact pat_h) _).mono ?_; rintro e wx ⟨rfl, hbx⟩; have HB : Below wr.heap.size wr wx := (by first | exact bel HB hbx | exact bel (by go_grown) hbx))
    | (go_at_call 58; refine (f_add (by with_reducible first | assumption | exact pat_add _ _ | exact pat_sub _ _ | exact pat_mul _ _ | exact pat_div _ _ | exact pat_sqrt _ | exact pat_from _ | exact pat_rat _ _ | exact pat_qrt _ | exact pat_qrN _ _ | exact pat_0 | exact pat_1 | exact pat_h) (by with_reducible first | assumption | exact pat_add _ _ | exact pat_sub _ _ | exact pat_mul _ _ | exact pat_div _ _ | exact pat_sqrt _ | exact pat_from _ | exact pat_rat _ _ | exact pat_qrt _ | exact pat_qrN _ _ | exact pat_0 | exact pat_1 | exact pat_h) _).mono ?_; rintro e wx ⟨rfl, hbx⟩; have HB : Below wr.heap.size wr wx := (by first | exact bel HB hbx | exact bel (by go_grown) hbx)))
      go_roundw
      case rel => exact ⟨bel hb HB, j + 1, by omega, by go_num, rfl, (HB.block _ (hlt HY.out)).trans HY.out⟩
      case measure => simp [intOf]; omega
    · have : j = 6 := by omega
      subst this
      go_wp2
      go_ret
      exact ⟨rfl, hb⟩

set_option maxHeartbeats 1000000 in
theorem wave_any (x : Int) (hx : Pat x) (w : World) : Calls Try.prog 17 #[.int .u32 x] w fun e w' => e = .returned (.int .u32 (wave x)) ∧ Below w.heap.size w w' := by
  have HB : Below w.heap.size w w := bel0 w
  have hm := pat_max hx pat_0
  have hc := pat_clmp hx
  have HE : Hid (wave x = if clmp x = 1056964608 then 0 else if fless 1056964608 (clmp x) = true then fneg (qrt (fsub 1065353216 (clmp x))) else qrt (clmp x)) := rfl
  have hcd : fmin (fmax x 0) 1065353216 = clmp x := rfl
  obtain ⟨y, hy⟩ : ∃ y, clmp x = y := ⟨_, rfl⟩
  obtain ⟨r, hr⟩ : ∃ r, wave x = r := ⟨_, rfl⟩
  rw [hy] at hc hcd
  rw [hr]
  have HE2 : Hid (r = if y = 1056964608 then 0 else if fless 1056964608 y = true then fneg (qrt (fsub 1065353216 y)) else qrt y) := by
    show r = _
    rw [← hr, ← hy]; exact HE.out
  clear HE hr hy
  by_cases h1 : y = 1056964608
  · have HR : Hid (0 = r) := by show 0 = r; rw [HE2.out, if_pos h1]
    clear HE2
    subst h1
    go_enter Try.func17, Try.ntmps17
    go_wp2_with (first
    | (go_at_call 35; refine (f_max (by with_reducible first | assumption | exact pat_add _ _ | exact pat_sub _ _ | exact pat_mul _ _ | exact pat_div _ _ | exact pat_sqrt _ | exact pat_from _ | exact pat_rat _ _ | exact pat_qrt _ | exact pat_qrN _ _ | exact pat_0 | exact pat_1 | exact pat_h) (by with_reducible first | assumption | exact pat_add _ _ | exact pat_sub _ _ | exact pat_mul _ _ | exact pat_div _ _ | exact pat_sqrt _ | exact pat_from _ | exact pat_rat _ _ | exact pat_qrt _ | exact pat_qrN _ _ | exact pat_0 | exact pat_1 | exact pat_h) _).mono ?_; rintro e wx ⟨rfl, hbx⟩; have HB : Below w.heap.size w wx := (by first | exact bel HB hbx | exact bel (by go_grown) hbx))
    | (go_at_call 34; refine (f_min (by with_reducible first | assumption | exact pat_add _ _ | exact pat_sub _ _ | exact pat_mul _ _ | exact pat_div _ _ | exact pat_sqrt _ | exact pat_from _ | exact pat_rat _ _ | exact pat_qrt _ | exact pat_qrN _ _ | exact pat_0 | exact pat_1 | exact pat_h) (by with_reducible first | assumption | exact pat_add _ _ | exact pat_sub _ _ | exact pat_mul _ _ | exact pat_div _ _ | exact pat_sqrt _ | exact pat_from _ | exact pat_rat _ _ | exact pat_qrt _ | exact pat_qrN _ _ | exact pat_0 | exact pat_1 | exact pat_h) _).mono ?_; rintro e wx ⟨rfl, hbx⟩; have HB : Below w.heap.size w wx := (by first | exact bel HB hbx | exact bel (by go_grown) hbx); rw [hcd])
    | (go_at_call 36; refine (f_less (by with_reducible first | assumption | exact pat_add _ _ | exact pat_sub _ _ | exact pat_mul _ _ | exact pat_div _ _ | exact pat_sqrt _ | exact pat_from _ | exact pat_rat _ _ | exact pat_qrt _ | exact pat_qrN _ _ | exact pat_0 | exact pat_1 | exact pat_h) (by with_reducible first | assumption | exact pat_add _ _ | exact pat_sub _ _ | exact pat_mul _ _ | exact pat_div _ _ | exact pat_sqrt _ | exact pat_from _ | exact pat_rat _ _ | exact pat_qrt _ | exact pat_qrN _ _ | exact pat_0 | exact pat_1 | exact pat_h) _).mono ?_; rintro e wx ⟨rfl, hbx⟩; have HB : Below w.heap.size w wx := (by first | exact bel HB hbx | exact bel (by go_grown) hbx))
    | (go_at_call 39; refine (f_sub (by with_reducible first | assumption | exact pat_add _ _ | exact pat_sub _ _ | exact pat_mul _ _ | exact pat_div _ _ | exact pat_sqrt _ | exact pat_from _ | exact pat_rat _ _ | exact pat_qrt _ | exact pat_qrN _ _ | exact pat_0 | exact pat_1 | exact pat_h) (by with_reducible first | assumption | exact pat_add _ _ | exact pat_sub _ _ | exact pat_mul _ _ | exact pat_div _ _ | exact pat_sqrt _ | exact pat_from _ | exact pat_rat _ _ | exact pat_qrt _ | exact pat_qrN _ _ | exact pat_0 | exact pat_1 | exact pat_h) _).mono ?_; rintro e wx ⟨rfl, hbx⟩; have HB : Below w.heap.size w wx := (by first | exact bel HB hbx | exact bel (by go_grown) hbx))
    | (go_at_call 37; refine (f_neg (by with_reducible first | assumption | exact pat_add _ _ | exact pat_sub _ _ | exact pat_mul _ _ | exact pat_div _ _ | exact pat_sqrt _ | exact pat_from _ | exact pat_rat _ _ | exact pat_qrt _ | exact pat_qrN _ _ | exact pat_0 | exact pat_1 | exact pat_h) _).mono ?_; rintro e wx ⟨rfl, hbx⟩; have HB : Below w.heap.size w wx := (by first | exact bel HB hbx | exact bel (by go_grown) hbx))
    | (go_at_call 38; refine (quarter_any _ (by with_reducible first | assumption | exact pat_add _ _ | exact pat_sub _ _ | exact pat_mul _ _ | exact pat_div _ _ | exact pat_sqrt _ | exact pat_from _ | exact pat_rat _ _ | exact pat_qrt _ | exact pat_qrN _ _ | exact pat_0 | exact pat_1 | exact pat_h) _).mono ?_; rintro e wx ⟨rfl, hbx⟩; have HB : Below w.heap.size w wx := (by first | exact bel HB hbx | exact bel (by go_grown) hbx)))
    go_ret
    exact ⟨ret_int HR.out, HB⟩
  · have z1 : (y == 1056964608) = false := by simpa using h1
    cases h2 : fless 1056964608 y
    · have HR : Hid (qrt y = r) := by show qrt y = r; rw [HE2.out, if_neg h1, if_neg (by rw [h2]; exact Bool.false_ne_true)]
      clear HE2 h1
      go_enter Try.func17, Try.ntmps17
      go_wp2_with (first
    | (go_at_call 35; refine (f_max (by with_reducible first | assumption | exact pat_add _ _ | exact pat_sub _ _ | exact pat_mul _ _ | exact pat_div _ _ | exact pat_sqrt _ | exact pat_from _ | exact pat_rat _ _ | exact pat_qrt _ | exact pat_qrN _ _ | exact pat_0 | exact pat_1 | exact pat_h) (by with_reducible first | assumption | exact pat_add _ _ | exact pat_sub _ _ | exact pat_mul _ _ | exact pat_div _ _ | exact pat_sqrt _ | exact pat_from _ | exact pat_rat _ _ | exact pat_qrt _ | exact pat_qrN _ _ | exact pat_0 | exact pat_1 | exact pat_h) _).mono ?_; rintro e wx ⟨rfl, hbx⟩; have HB : Below w.heap.size w wx := (by first | exact bel HB hbx | exact bel (by go_grown) hbx))
    | (go_at_call 34; refine (f_min (by with_reducible first | assumption | exact pat_add _ _ | exact pat_sub _ _ | exact pat_mul _ _ | exact pat_div _ _ | exact pat_sqrt _ | exact pat_from _ | exact pat_rat _ _ | exact pat_qrt _ | exact pat_qrN _ _ | exact pat_0 | exact pat_1 | exact pat_h) (by with_reducible first | assumption | exact pat_add _ _ | exact pat_sub _ _ | exact pat_mul _ _ | exact pat_div _ _ | exact pat_sqrt _ | exact pat_from _ | exact pat_rat _ _ | exact pat_qrt _ | exact pat_qrN _ _ | exact pat_0 | exact pat_1 | exact pat_h) _).mono ?_; rintro e wx ⟨rfl, hbx⟩; have HB : Below w.heap.size w wx := (by first | exact bel HB hbx | exact bel (by go_grown) hbx); rw [hcd])
    | (go_at_call 36; refine (f_less (by with_reducible first | assumption | exact pat_add _ _ | exact pat_sub _ _ | exact pat_mul _ _ | exact pat_div _ _ | exact pat_sqrt _ | exact pat_from _ | exact pat_rat _ _ | exact pat_qrt _ | exact pat_qrN _ _ | exact pat_0 | exact pat_1 | exact pat_h) (by with_reducible first | assumption | exact pat_add _ _ | exact pat_sub _ _ | exact pat_mul _ _ | exact pat_div _ _ | exact pat_sqrt _ | exact pat_from _ | exact pat_rat _ _ | exact pat_qrt _ | exact pat_qrN _ _ | exact pat_0 | exact pat_1 | exact pat_h) _).mono ?_; rintro e wx ⟨rfl, hbx⟩; have HB : Below w.heap.size w wx := (by first | exact bel HB hbx | exact bel (by go_grown) hbx))
    | (go_at_call 39; refine (f_sub (by with_reducible first | assumption | exact pat_add _ _ | exact pat_sub _ _ | exact pat_mul _ _ | exact pat_div _ _ | exact pat_sqrt _ | exact pat_from _ | exact pat_rat _ _ | exact pat_qrt _ | exact pat_qrN _ _ | exact pat_0 | exact pat_1 | exact pat_h) (by with_reducible first | assumption | exact pat_add _ _ | exact pat_sub _ _ | exact pat_mul _ _ | exact pat_div _ _ | exact pat_sqrt _ | exact pat_from _ | exact pat_rat _ _ | exact pat_qrt _ | exact pat_qrN _ _ | exact pat_0 | exact pat_1 | exact pat_h) _).mono ?_; rintro e wx ⟨rfl, hbx⟩; have HB : Below w.heap.size w wx := (by first | exact bel HB hbx | exact bel (by go_grown) hbx))
    | (go_at_call 37; refine (f_neg (by with_reducible first | assumption | exact pat_add _ _ | exact pat_sub _ _ | exact pat_mul _ _ | exact pat_div _ _ | exact pat_sqrt _ | exact pat_from _ | exact pat_rat _ _ | exact pat_qrt _ | exact pat_qrN _ _ | exact pat_0 | exact pat_1 | exact pat_h) _).mono ?_; rintro e wx ⟨rfl, hbx⟩; have HB : Below w.heap.size w wx := (by first | exact bel HB hbx | exact bel (by go_grown) hbx))
    | (go_at_call 38; refine (quarter_any _ (by with_reducible first | assumption | exact pat_add _ _ | exact pat_sub _ _ | exact pat_mul _ _ | exact pat_div _ _ | exact pat_sqrt _ | exact pat_from _ | exact pat_rat _ _ | exact pat_qrt _ | exact pat_qrN _ _ | exact pat_0 | exact pat_1 | exact pat_h) _).mono ?_; rintro e wx ⟨rfl, hbx⟩; have HB : Below w.heap.size w wx := (by first | exact bel HB hbx | exact bel (by go_grown) hbx)))
      go_ret
      exact ⟨ret_int HR.out, HB⟩
    · have HR : Hid (fneg (qrt (fsub 1065353216 y)) = r) := by show fneg (qrt (fsub 1065353216 y)) = r; rw [HE2.out, if_neg h1, if_pos h2]
      clear HE2 h1
      go_enter Try.func17, Try.ntmps17
      go_wp2_with (first
    | (go_at_call 35; refine (f_max (by with_reducible first | assumption | exact pat_add _ _ | exact pat_sub _ _ | exact pat_mul _ _ | exact pat_div _ _ | exact pat_sqrt _ | exact pat_from _ | exact pat_rat _ _ | exact pat_qrt _ | exact pat_qrN _ _ | exact pat_0 | exact pat_1 | exact pat_h) (by with_reducible first | assumption | exact pat_add _ _ | exact pat_sub _ _ | exact pat_mul _ _ | exact pat_div _ _ | exact pat_sqrt _ | exact pat_from _ | exact pat_rat _ _ | exact pat_qrt _ | exact pat_qrN _ _ | exact pat_0 | exact pat_1 | exact pat_h) _).mono ?_; rintro e wx ⟨rfl, hbx⟩; have HB : Below w.heap.size w wx := (by first | exact bel HB hbx | exact bel (by go_grown) hbx))
    | (go_at_call 34; refine (f_min (by with_reducible first | assumption | exact pat_add _ _ | exact pat_sub _ _ | exact pat_mul _ _ | exact pat_div _ _ | exact pat_sqrt _ | exact pat_from _ | exact pat_rat _ _ | exact pat_qrt _ | exact pat_qrN _ _ | exact pat_0 | exact pat_1 | exact pat_h) (by with_reducible first | assumption | exact pat_add _ _ | exact pat_sub _ _ | exact pat_mul _ _ | exact pat_div _ _ | exact pat_sqrt _ | exact pat_from _ | exact pat_rat _ _ | exact pat_qrt _ | exact pat_qrN _ _ | exact pat_0 | exact pat_1 | exact pat_h) _).mono ?_; rintro e wx ⟨rfl, hbx⟩; have HB : Below w.heap.size w wx := (by first | exact bel HB hbx | exact bel (by go_grown) hbx); rw [hcd])
    | (go_at_call 36; refine (f_less (by with_reducible first | assumption | exact pat_add _ _ | exact pat_sub _ _ | exact pat_mul _ _ | exact pat_div _ _ | exact pat_sqrt _ | exact pat_from _ | exact pat_rat _ _ | exact pat_qrt _ | exact pat_qrN _ _ | exact pat_0 | exact pat_1 | exact pat_h) (by with_reducible first | assumption | exact pat_add _ _ | exact pat_sub _ _ | exact pat_mul _ _ | exact pat_div _ _ | exact pat_sqrt _ | exact pat_from _ | exact pat_rat _ _ | exact pat_qrt _ | exact pat_qrN _ _ | exact pat_0 | exact pat_1 | exact pat_h) _).mono ?_; rintro e wx ⟨rfl, hbx⟩; have HB : Below w.heap.size w wx := (by first | exact bel HB hbx | exact bel (by go_grown) hbx))
    | (go_at_call 39; refine (f_sub (by with_reducible first | assumption | exact pat_add _ _ | exact pat_sub _ _ | exact pat_mul _ _ | exact pat_div _ _ | exact pat_sqrt _ | exact pat_from _ | exact pat_rat _ _ | exact pat_qrt _ | exact pat_qrN _ _ | exact pat_0 | exact pat_1 | exact pat_h) (by with_reducible first | assumption | exact pat_add _ _ | exact pat_sub _ _ | exact pat_mul _ _ | exact pat_div _ _ | exact pat_sqrt _ | exact pat_from _ | exact pat_rat _ _ | exact pat_qrt _ | exact pat_qrN _ _ | exact pat_0 | exact pat_1 | exact pat_h) _).mono ?_; rintro e wx ⟨rfl, hbx⟩; have HB : Below w.heap.size w wx := (by first | exact bel HB hbx | exact bel (by go_grown) hbx))
    | (go_at_call 37; refine (f_neg (by with_reducible first | assumption | exact pat_add _ _ | exact pat_sub _ _ | exact pat_mul _ _ | exact pat_div _ _ | exact pat_sqrt _ | exact pat_from _ | exact pat_rat _ _ | exact pat_qrt _ | exact pat_qrN _ _ | exact pat_0 | exact pat_1 | exact pat_h) _).mono ?_; rintro e wx ⟨rfl, hbx⟩; have HB : Below w.heap.size w wx := (by first | exact bel HB hbx | exact bel (by go_grown) hbx))
    | (go_at_call 38; refine (quarter_any _ (by with_reducible first | assumption | exact pat_add _ _ | exact pat_sub _ _ | exact pat_mul _ _ | exact pat_div _ _ | exact pat_sqrt _ | exact pat_from _ | exact pat_rat _ _ | exact pat_qrt _ | exact pat_qrN _ _ | exact pat_0 | exact pat_1 | exact pat_h) _).mono ?_; rintro e wx ⟨rfl, hbx⟩; have HB : Below w.heap.size w wx := (by first | exact bel HB hbx | exact bel (by go_grown) hbx)))
      go_ret
      exact ⟨ret_int HR.out, HB⟩

end Go.Proofs.Ytnogokikiekcbaa
/- Package sched: which rows fit. -/
namespace Go.Proofs.Ytnogokikiekcbaa
open Go.RowKit
set_option linter.unusedVariables false
set_option linter.unusedSimpArgs false

theorem isPower_any (n : Int) (w : World) : Calls Try.prog 77 #[.int .i64 n] w fun e w' => e = .returned (.bool (isPow n)) ∧ Below w.heap.size w w' := by
  unfold isPow
  by_cases h1 : (1 : Int) ≤ n
  · go_enter Try.func77, Try.ntmps77
    go_wp2
    go_ret
    exact ⟨by simp [h1], bel0 w⟩
  · go_enter Try.func77, Try.ntmps77
    go_wp2
    go_ret
    exact ⟨by rw [decide_eq_false (show ¬ (1 : Int) ≤ n by omega)]; rfl, bel0 w⟩

theorem isSteps_any (n : Int) (w : World) : Calls Try.prog 78 #[.int .i64 n] w fun e w' => e = .returned (.bool (isStp n)) ∧ Below w.heap.size w w' := by
  unfold isStp
  by_cases h1 : (1 : Int) ≤ n
  · go_enter Try.func78, Try.ntmps78
    go_wp2
    go_ret
    exact ⟨by simp [h1], bel0 w⟩
  · go_enter Try.func78, Try.ntmps78
    go_wp2
    go_ret
    exact ⟨by rw [decide_eq_false (show ¬ (1 : Int) ≤ n by omega)]; rfl, bel0 w⟩

theorem isCount_any (n : Int) (w : World) : Calls Try.prog 28 #[.int .i64 n] w fun e w' => e = .returned (.bool (isCnt n)) ∧ Below w.heap.size w w' := by
  unfold isCnt
  by_cases h1 : (0 : Int) ≤ n
  · go_enter Try.func28, Try.ntmps28
    go_wp2
    go_ret
    exact ⟨by simp [h1], bel0 w⟩
  · go_enter Try.func28, Try.ntmps28
    go_wp2
    go_ret
    exact ⟨by rw [decide_eq_false (show ¬ (0 : Int) ≤ n by omega)]; rfl, bel0 w⟩

theorem isNot_any (a : Int) (h : Pat a) (w : World) : Calls Try.prog 90 #[.int .u32 a] w fun e w' => e = .returned (.bool (!ffin a)) ∧ Below w.heap.size w w' := by
  have HB : Below w.heap.size w w := bel0 w
  go_enter Try.func90, Try.ntmps90
  go_wp2_with ((go_at_call 96; refine (f_fin (by with_reducible first | assumption | exact pat_add _ _ | exact pat_sub _ _ | exact pat_mul _ _ | exact pat_div _ _ | exact pat_sqrt _ | exact pat_from _ | exact pat_rat _ _ | exact pat_qrt _ | exact pat_qrN _ _ | exact pat_0 | exact pat_1 | exact pat_h) _).mono ?_; rintro e wx ⟨rfl, hbx⟩; have HB : Below w.heap.size w wx := (by first | exact bel HB hbx | exact bel (by go_grown) hbx)))
  go_ret
  exact ⟨rfl, HB⟩

/-- The last of a row of boundaries up to a place, or 0. -/
def lastB (l : List Int) (j : Nat) : Int := if j = 0 then 0 else l.getD (j - 1) 0
theorem risesA_take : ∀ (l : List Int) (a : Int) (j : Nat) (hj : j < l.length), risesA a (l.take j) = true → (risesA a (l.take (j + 1)) = true ↔ ((if j = 0 then a else l.getD (j - 1) 0) < l[j] ∧ l[j] ≤ 2147483647))
  | [], a, j, hj, _ => absurd hj (Nat.not_lt_zero _)
  | n :: r, a, 0, hj, _ => by simp [risesA]
  | n :: r, a, j + 1, hj, h => by
    simp only [List.take_succ_cons, risesA, Bool.and_eq_true, decide_eq_true_eq] at h ⊢
    have := risesA_take r n j (by simpa using hj) h.2
    rw [this]
    cases j with
    | zero => simp [h.1]
    | succ j => simp [h.1]
theorem risesA_part : ∀ (l : List Int) (a : Int) (j : Nat), risesA a l = true → risesA a (l.take j) = true
  | [], a, j, _ => by simp [risesA]
  | n :: r, a, 0, _ => by simp [risesA]
  | n :: r, a, j + 1, h => by
    simp only [List.take_succ_cons, risesA, Bool.and_eq_true, decide_eq_true_eq] at h ⊢
    exact ⟨h.1, risesA_part r n j h.2⟩
theorem lastB_at (l : List Int) (j : Nat) (h : j < l.length) : lastB l (j + 1) = l[j] := by simp [lastB, h]
theorem lastB_pos (l : List Int) (h : risesA 0 l = true) : decide (0 < lastB l l.length) = !l.isEmpty := by
  cases l with
  | nil => rfl
  | cons n r =>
    have := risesA_get (n :: r) 0 h r.length (by simp)
    rw [show (n :: r).length = r.length + 1 from rfl, lastB_at (n :: r) r.length (by simp)]
    simp [this.1]

set_option maxRecDepth 100000 in
set_option maxHeartbeats 1000000 in
theorem bounds_any (l : List Int) (v : Value) (hl : l.length ≤ 17592186043904) (w : World) (hv : Row w .i64 v l) : Calls Try.prog 79 #[v] w fun e w' => e = .returned (.bool (bnds l)) ∧ Below w.heap.size w w' := by
  obtain ⟨p, c, rfl, hr⟩ := hv
  have HR : Hid (l = [] ∨ ∃ b o, p = some ⟨b, o, none⟩ ∧ ∀ i (h : i < l.length), w.cell? ⟨b, o + i, none⟩ = some (.int .i64 l[i])) := hr
  obtain ⟨n, hn⟩ : ∃ n, l.length = n := ⟨_, rfl⟩
  have HN : Hid (l.length = n) := hn
  rw [hn] at hl ⊢
  obtain ⟨R, hRd⟩ : ∃ R, bnds l = R := ⟨_, rfl⟩
  have HRd : Hid ((risesA 0 l && !l.isEmpty) = R) := hRd
  rw [hRd]
  clear hr hn hRd
  go_enter Try.func79, Try.ntmps79
  go_wp2
  go_loopw [3, 8] (fun av iv wr => wr = w ∧ ∃ j : Nat, j ≤ n ∧ iv = .int .i64 j ∧ av = .int .i64 (lastB l j) ∧ Hid (risesA 0 (l.take j) = true)) (fun _ iv _ => n - (intOf iv).toNat)
  case atStart => exact ⟨rfl, 0, Nat.zero_le _, rfl, rfl, (by show _ = _; simp [risesA])⟩
  case round =>
    obtain ⟨rfl, j, hj, rfl, rfl, HT⟩ := hrel
    by_cases hlt0 : j < n
    · have hll : j < l.length := by rw [HN.out]; exact hlt0
      obtain ⟨b, o, rfl, c1⟩ : ∃ b o, p = some ⟨b, o, none⟩ ∧ wr.cell? ⟨b, o + j, none⟩ = some (.int .i64 l[j]) := by
        rcases HR.out with h | ⟨b, o, e, h⟩
        · rw [h] at hll; exact absurd hll (Nat.not_lt_zero _)
        · exact ⟨b, o, e, h j hll⟩
      have hiff := risesA_take l 0 j hll HT.out
      rw [show (if j = 0 then 0 else l.getD (j - 1) 0) = lastB l j from rfl] at hiff
      have hat := lastB_at l j hll
      obtain ⟨x, hx⟩ : ∃ x, l[j] = x := ⟨_, rfl⟩
      obtain ⟨a, ha⟩ : ∃ a, lastB l j = a := ⟨_, rfl⟩
      rw [hx] at c1 hiff hat
      rw [ha] at hiff ⊢
      have i1 : (0 : Int) ≤ (j : Int) := by omega
      have i2 : (j : Int) < (n : Int) := by omega
      have HI : Hid (risesA 0 (l.take (j + 1)) = true ↔ a < x ∧ x ≤ 2147483647) := hiff
      have HA : Hid (lastB l (j + 1) = x) := hat
      clear hiff hat ha hx
      by_cases ho : a < x ∧ x ≤ 2147483647
      · have o1 : ¬ x ≤ a := by omega
        have o2 : ¬ 2147483647 < x := by omega
        go_wp2
        go_roundw
        case rel => exact ⟨trivial, j + 1, by omega, by go_num, by rw [HA.out], HI.out.2 ho⟩
        case measure => simp [intOf]; omega
      · have HF : Hid (false = R) := by
          show false = R
          rw [← HRd.out]
          cases hq : risesA 0 l
          · rfl
          · exact absurd (HI.out.1 (risesA_part l 0 (j + 1) hq)) ho
        clear HRd HI HA HT HR
        by_cases o1 : x ≤ a
        · go_wp2
          go_ret
          exact ⟨ret_bool HF.out, bel0 _⟩
        · have o2 : 2147483647 < x := by omega
          go_wp2
          go_ret
          exact ⟨ret_bool HF.out, bel0 _⟩
    · have : j = n := by omega
      subst this
      have HF : Hid (decide (0 < lastB l j) = R) := by
        show _ = R
        have h1 := HT.out
        rw [← HN.out, List.take_length] at h1
        rw [← HN.out, lastB_pos l h1, ← HRd.out, h1]
        rfl
      clear HRd HT HR
      go_wp2
      go_ret
      exact ⟨ret_bool HF.out, bel0 _⟩

/-- The first number that is not finite. -/
def notFin (l : List Int) : Bool := l.any fun a => !ffin a
theorem notFin_all (l : List Int) : notFin l = !l.all ffin := by
  unfold notFin
  induction l with
  | nil => rfl
  | cons a r ih => simp only [List.any_cons, List.all_cons, ih]; cases ffin a <;> simp

set_option maxRecDepth 100000 in
set_option maxHeartbeats 1000000 in
theorem index_any (l : List Int) (v : Value) (hl : l.length ≤ 35184372087808) (hp : ∀ x ∈ l, 0 ≤ x ∧ x < 4294967296) (w : World) (hv : Row w .u32 v l) :
    Calls Try.prog 95 #[v, .func (.func 90) #[] #[]] w fun e w' => (∃ k : Int, e = .returned (.int .i64 k) ∧ decide (0 ≤ k) = notFin l) ∧ Below w.heap.size w w' := by
  obtain ⟨p, c, rfl, hr⟩ := hv
  have HR : Hid (l = [] ∨ ∃ b o, p = some ⟨b, o, none⟩ ∧ ∀ i (h : i < l.length), w.cell? ⟨b, o + i, none⟩ = some (.int .u32 l[i])) := hr
  obtain ⟨n, hn⟩ : ∃ n, l.length = n := ⟨_, rfl⟩
  have HN : Hid (l.length = n) := hn
  have HP : Hid (∀ x ∈ l, 0 ≤ x ∧ x < 4294967296) := hp
  have hen : Ent 90 := enters_of Try.func90 (by kernel_rfl) rfl
  unfold Ent at hen
  rw [hn] at hl ⊢
  obtain ⟨R, hRd⟩ : ∃ R, notFin l = R := ⟨_, rfl⟩
  have HRd : Hid (notFin l = R) := hRd
  rw [hRd]
  clear hr hn hRd hp
  go_enter Try.func95, Try.ntmps95
  go_wp2
  go_loopw [8] (fun iv wr => Below w.heap.size w wr ∧ ∃ j : Nat, j ≤ n ∧ iv = .int .i64 j ∧ Hid (notFin (l.take j) = false)) (fun iv _ => n - (intOf iv).toNat)
  case atStart => exact ⟨bel0 w, 0, Nat.zero_le _, rfl, (by show _ = _; simp [notFin])⟩
  case round =>
    obtain ⟨hb, j, hj, rfl, HT⟩ := hrel
    by_cases hlt0 : j < n
    · have hll : j < l.length := by rw [HN.out]; exact hlt0
      obtain ⟨b, o, rfl, c1⟩ : ∃ b o, p = some ⟨b, o, none⟩ ∧ wr.cell? ⟨b, o + j, none⟩ = some (.int .u32 l[j]) := by
        rcases HR.out with h | ⟨b, o, e, h⟩
        · rw [h] at hll; exact absurd hll (Nat.not_lt_zero _)
        · exact ⟨b, o, e, bcell (h j hll) hb⟩
      have hx : Pat l[j] := HP.out _ (List.getElem_mem hll)
      have hcall := isNot_any l[j] hx wr
      have i1 : (0 : Int) ≤ (j : Int) := by omega
      have i2 : (j : Int) < (n : Int) := by omega
      have htk : notFin (l.take (j + 1)) = (notFin (l.take j) || !ffin l[j]) := by unfold notFin; rw [List.take_succ_eq_append_getElem hll, List.any_append]; simp
      have hsub : notFin (l.take (j + 1)) = true → notFin l = true := fun h => by
        unfold notFin at h ⊢
        rw [List.any_eq_true] at h ⊢
        obtain ⟨x, hx, h⟩ := h
        exact ⟨x, List.mem_of_mem_take hx, h⟩
      rw [HT.out, Bool.false_or] at htk
      rw [htk] at hsub
      obtain ⟨B, hB⟩ : ∃ B, (!ffin l[j]) = B := ⟨_, rfl⟩
      rw [hB] at hcall htk hsub
      have HW : Hid (Calls Try.prog 90 #[.int .u32 l[j]] wr fun e w' => e = .returned (.bool B) ∧ Below wr.heap.size wr w') := hcall
      cases B
      · have HX : Hid (notFin (l.take (j + 1)) = false) := htk
        clear hcall hB htk hsub hx HR
        go_wp2_with ((with_reducible refine HW.out.mono ?_); rintro e w1 ⟨rfl, hb1⟩)
        go_roundw
        case rel => exact ⟨bel hb hb1, j + 1, by omega, by go_num, HX⟩
        case measure => simp [intOf]; omega
      · have HX : Hid (decide ((0 : Int) ≤ j) = R) := by show _ = R; rw [← HRd.out, hsub rfl]; simp
        clear hcall hB htk hsub hx HR HRd
        go_wp2_with ((with_reducible refine HW.out.mono ?_); rintro e w1 ⟨rfl, hb1⟩)
        go_ret
        exact ⟨⟨j, rfl, HX.out⟩, bel hb hb1⟩
    · have : j = n := by omega
      subst this
      have HX : Hid (decide ((0 : Int) ≤ -1) = R) := by
        show _ = R
        have := HT.out
        rw [← HN.out, List.take_length] at this
        rw [← HRd.out, this]; rfl
      clear HR HRd HT
      go_wp2
      go_ret
      exact ⟨⟨-1, rfl, HX.out⟩, hb⟩

theorem contains_any (l : List Int) (v : Value) (hl : l.length ≤ 35184372087808) (hp : ∀ x ∈ l, 0 ≤ x ∧ x < 4294967296) (w : World) (hv : Row w .u32 v l) :
    Calls Try.prog 89 #[v, .func (.func 90) #[] #[]] w fun e w' => e = .returned (.bool (notFin l)) ∧ Below w.heap.size w w' := by
  have HW : Hid (Calls Try.prog 95 #[v, .func (.func 90) #[] #[]] w fun e w' => (∃ k : Int, e = .returned (.int .i64 k) ∧ decide (0 ≤ k) = notFin l) ∧ Below w.heap.size w w') := index_any l v hl hp w hv
  obtain ⟨R, hR⟩ : ∃ R, notFin l = R := ⟨_, rfl⟩
  rw [hR] at HW ⊢
  clear hv
  go_enter Try.func89, Try.ntmps89
  go_wp2_with (go_at_call 95; (with_reducible refine HW.out.mono ?_); rintro e w1 ⟨⟨k, rfl, hk⟩, hb1⟩)
  go_ret
  exact ⟨rfl, hb1⟩

end Go.Proofs.Ytnogokikiekcbaa
