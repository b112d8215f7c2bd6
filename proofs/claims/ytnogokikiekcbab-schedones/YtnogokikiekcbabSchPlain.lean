import Derived.Test.YtnogokikiekcbabFloatWholes
/- Layer 14, plainly: schedules. No program in it. -/
namespace Go.Proofs.Ytnogokikiekcbab
set_option linter.unusedVariables false
set_option linter.unusedSimpArgs false

/-- A schedule with those in it. -/
structure Sc where
  op : Int
  nums : List Int
  ints : List Int
  kids : List Sc

def scntL : List Sc → Nat
  | [] => 0
  | ⟨_, _, _, l⟩ :: r => 1 + scntL l + scntL r
def scnt (t : Sc) : Nat := 1 + scntL t.kids
theorem scntL_nil : scntL [] = 0 := by simp [scntL]
theorem scntL_cons (t : Sc) (r : List Sc) : scntL (t :: r) = scnt t + scntL r := by cases t; simp [scntL, scnt]

/-- Induction over rows of schedules. -/
theorem sforest {P : List Sc → Prop} (h0 : P []) (h1 : ∀ (t : Sc) (r : List Sc), P t.kids → P r → P (t :: r)) : ∀ l, P l := by
  intro l
  induction l using scntL.induct with
  | case1 => exact h0
  | case2 k n i l r hl hr => exact h1 ⟨k, n, i, l⟩ r hl hr
/-- Induction over schedules: what holds of all in one holds of it. -/
theorem stree {P : Sc → Prop} (h : ∀ t : Sc, (∀ k ∈ t.kids, P k) → P t) : ∀ t, P t := by
  have : ∀ l : List Sc, ∀ t ∈ l, P t := by
    apply sforest (P := fun l => ∀ t ∈ l, P t)
    · intro t ht; cases ht
    · intro t r h1 h2 u hu
      rcases List.mem_cons.1 hu with rfl | hu
      · exact h _ h1
      · exact h2 u hu
  intro t
  exact this [t] t (by simp)

/-- What each schedule keeps to: its patterns and whole numbers. -/
def sokL : List Sc → Prop
  | [] => True
  | ⟨op, n, i, l⟩ :: r => ((-9223372036854775808 ≤ op ∧ op ≤ 9223372036854775807) ∧ (∀ x ∈ n, 0 ≤ x ∧ x < 4294967296) ∧ (∀ x ∈ i, -9223372036854775808 ≤ x ∧ x ≤ 9223372036854775807) ∧ n.length ≤ 35184372087808 ∧ i.length ≤ 17592186043904 ∧ l.length ≤ 17592186043904) ∧ sokL l ∧ sokL r
def sok (t : Sc) : Prop := ((-9223372036854775808 ≤ t.op ∧ t.op ≤ 9223372036854775807) ∧ (∀ x ∈ t.nums, 0 ≤ x ∧ x < 4294967296) ∧ (∀ x ∈ t.ints, -9223372036854775808 ≤ x ∧ x ≤ 9223372036854775807) ∧ t.nums.length ≤ 35184372087808 ∧ t.ints.length ≤ 17592186043904 ∧ t.kids.length ≤ 17592186043904) ∧ sokL t.kids
theorem sokL_cons (t : Sc) (r : List Sc) : sokL (t :: r) ↔ sok t ∧ sokL r := by cases t; simp [sokL, sok, and_assoc]
theorem sokL_nil : sokL [] := by simp [sokL]
theorem sokL_iff (l : List Sc) : sokL l ↔ ∀ t ∈ l, sok t := by
  induction l with
  | nil => simp [sokL_nil]
  | cons t r ih => rw [sokL_cons, ih]; simp

def isPow (n : Int) : Bool := decide (1 ≤ n) && decide (n ≤ 1024)
def isStp (n : Int) : Bool := decide (1 ≤ n) && decide (n ≤ 2147483647)
def isCnt (n : Int) : Bool := decide (0 ≤ n) && decide (n ≤ 2147483647)
/-- Boundaries that rise, from above a number on. -/
def risesA (a : Int) : List Int → Bool
  | [] => true
  | n :: r => decide (a < n) && decide (n ≤ 2147483647) && risesA n r
def bnds (l : List Int) : Bool := risesA 0 l && !l.isEmpty
def hasN (s : Sc) (a b c : Nat) : Bool := s.nums.length == a && s.ints.length == b && s.kids.length == c && s.nums.all ffin
/-- A schedule's row. -/
def fitsP (s : Sc) : Bool :=
  if s.op = 1 then hasN s 1 0 0
  else if s.op = 2 then hasN s 2 3 0 && isPow (s.ints.getD 0 0) && isStp (s.ints.getD 1 0) && isCnt (s.ints.getD 2 0)
  else if s.op = 3 then hasN s 2 2 0 && fless 0 (s.nums.getD 1 0) && isStp (s.ints.getD 0 0) && isCnt (s.ints.getD 1 0)
  else if s.op = 4 then hasN s 2 1 0 && isStp (s.ints.getD 0 0)
  else if s.op = 5 then hasN s (s.ints.length + 1) s.ints.length 0 && bnds s.ints
  else if s.op = 6 then hasN s 0 s.ints.length (s.ints.length + 1) && bnds s.ints
  else if s.op = 7 then hasN s 1 1 0 && isStp (s.ints.getD 0 0)
  else if s.op = 8 ∨ s.op = 9 ∨ s.op = 10 ∨ s.op = 11 then hasN s 0 0 2
  else if s.op = 12 ∨ s.op = 13 then hasN s 0 1 1 && isCnt (s.ints.getD 0 0)
  else false

/-- So deep at most, so many at most: how many are left, or none where it may not be. -/
def mayL (d : Nat) (n : Nat) : List Sc → Option Nat
  | [] => some n
  | ⟨op, ns, is, l⟩ :: r =>
    match (if d = 0 ∨ n = 0 ∨ fitsP ⟨op, ns, is, l⟩ = false then none else mayL (d - 1) (n - 1) l) with
    | none => none
    | some m => mayL d m r
def may (d n : Nat) (t : Sc) : Option Nat := if d = 0 ∨ n = 0 ∨ fitsP t = false then none else mayL (d - 1) (n - 1) t.kids
theorem mayL_nil (d n : Nat) : mayL d n [] = some n := by simp [mayL]
theorem mayL_cons (d n : Nat) (t : Sc) (r : List Sc) : mayL d n (t :: r) = (may d n t).bind fun m => mayL d m r := by
  cases t
  rw [mayL]
  unfold may
  cases (if d = 0 ∨ n = 0 ∨ fitsP _ = false then none else mayL (d - 1) (n - 1) _) <;> rfl
theorem mayL_le : ∀ (l : List Sc) (d n m : Nat), mayL d n l = some m → m + scntL l = n := by
  apply sforest (P := fun l => ∀ (d n m : Nat), mayL d n l = some m → m + scntL l = n)
  · intro d n m h
    rw [mayL_nil] at h
    rw [scntL_nil]; simpa using h.symm
  · intro t r h1 h2 d n m h
    rw [mayL_cons] at h
    obtain ⟨k, hk, h⟩ := Option.bind_eq_some_iff.1 h
    unfold may at hk
    split at hk
    · cases hk
    · rename_i hc
      have e1 := h1 _ _ _ hk
      have e2 := h2 _ _ _ h
      rw [scntL_cons, scnt]
      omega
theorem may_le {d n m : Nat} {t : Sc} (h : may d n t = some m) : m + scnt t = n := by
  have := mayL_le [t] d n m (by rw [mayL_cons, h]; exact mayL_nil _ _)
  rw [scntL_cons, scntL_nil] at this
  omega
/-- All rows fit. -/
def allF : List Sc → Prop
  | [] => True
  | ⟨op, ns, is, l⟩ :: r => (fitsP ⟨op, ns, is, l⟩ = true ∧ allF l) ∧ allF r
def allT (t : Sc) : Prop := fitsP t = true ∧ allF t.kids
theorem allF_cons (t : Sc) (r : List Sc) : allF (t :: r) ↔ allT t ∧ allF r := by cases t; simp [allF, allT]
theorem allF_iff (l : List Sc) : allF l ↔ ∀ t ∈ l, allT t := by
  induction l with
  | nil => simp [allF]
  | cons t r ih => rw [allF_cons, ih]; simp
theorem mayL_all : ∀ (l : List Sc) (d n m : Nat), mayL d n l = some m → allF l := by
  apply sforest (P := fun l => ∀ (d n m : Nat), mayL d n l = some m → allF l)
  · intro d n m h; simp [allF]
  · intro t r h1 h2 d n m h
    rw [mayL_cons] at h
    obtain ⟨k, hk, h⟩ := Option.bind_eq_some_iff.1 h
    unfold may at hk
    split at hk
    · cases hk
    · rename_i hc
      rw [allF_cons]
      refine ⟨⟨?_, h1 _ _ _ hk⟩, h2 _ _ _ h⟩
      cases hf : fitsP t
      · exact absurd (Or.inr (Or.inr hf)) hc
      · rfl
theorem may_all {d n m : Nat} {t : Sc} (h : may d n t = some m) : allT t := by
  have := mayL_all [t] d n m (by rw [mayL_cons, h]; exact mayL_nil _ _)
  exact ((allF_cons _ _).1 this).1
/-- One that stands in another may be, at the same limits. -/
theorem may_more : ∀ (l : List Sc) (d n m d' n' : Nat), mayL d n l = some m → d ≤ d' → n ≤ n' → ∃ m', mayL d' n' l = some m' ∧ m ≤ m' := by
  apply sforest (P := fun l => ∀ (d n m d' n' : Nat), mayL d n l = some m → d ≤ d' → n ≤ n' → ∃ m', mayL d' n' l = some m' ∧ m ≤ m')
  · intro d n m d' n' h hd hn
    rw [mayL_nil] at h ⊢
    simp only [Option.some.injEq] at h
    exact ⟨n', rfl, by omega⟩
  · intro t r h1 h2 d n m d' n' h hd hn
    rw [mayL_cons] at h ⊢
    obtain ⟨k, hk, h⟩ := Option.bind_eq_some_iff.1 h
    unfold may at hk
    split at hk
    · cases hk
    · rename_i hc
      obtain ⟨k', e1, g1⟩ := h1 _ _ _ (d' - 1) (n' - 1) hk (by omega) (by omega)
      obtain ⟨m', e2, g2⟩ := h2 _ _ _ d' k' h hd g1
      refine ⟨m', ?_, g2⟩
      unfold may
      rw [if_neg (fun h => hc (h.elim (fun h => .inl (by omega)) (fun h => h.elim (fun h => .inr (.inl (by omega))) (fun h => .inr (.inr h))))), e1]
      exact e2
theorem mayL_get : ∀ (l : List Sc) (d n m : Nat), mayL d n l = some m → ∀ t ∈ l, ∃ m', may d n t = some m' := by
  intro l
  induction l with
  | nil => intro d n m _ t ht; cases ht
  | cons u r ih =>
    intro d n m h t ht
    rw [mayL_cons] at h
    obtain ⟨k, hk, h⟩ := Option.bind_eq_some_iff.1 h
    rcases List.mem_cons.1 ht with rfl | ht
    · exact ⟨k, hk⟩
    · obtain ⟨m', h'⟩ := ih d k m h t ht
      have hle := may_le hk
      obtain ⟨m'', e, _⟩ := may_more [t] d k m' d n (by rw [mayL_cons, h']; exact mayL_nil _ _) (Nat.le_refl _) (by omega)
      rw [mayL_cons] at e
      obtain ⟨q, hq, _⟩ := Option.bind_eq_some_iff.1 e
      exact ⟨q, hq⟩

/-- Wave: the polynomial, and the wave. -/
def facs : List Int := [3167971577, 1047591555, 3215649252, 1082253560, 3231574502, 1065353216]
def fac (k : Nat) : Int := facs.getD k 0
def qrN (u : Int) : Nat → Int
  | 0 => 989653445
  | k + 1 => fadd (fmul (qrN u k) u) (fac k)
def qrt (t : Int) : Int := qrN (fmul t t) 6
def clmp (x : Int) : Int := fmin (fmax x 0) 1065353216
def wave (x : Int) : Int := let y := clmp x
  if y = 1056964608 then 0 else if fless 1056964608 y = true then fneg (qrt (fsub 1065353216 y)) else qrt y

def rat (a b : Int) : Int := fdiv (ffrom a) (ffrom b)
def polyV (a b p s g n : Int) : Int := fadd (fmul (fsub a b) (fpow (fsub 1065353216 (rat (min (max (n - g) 0) s) s)) p)) b
def expoV (a r s g n : Int) : Int := fmul a (fpow r (max (n - g) 0 / s))
def cosV (a al s n : Int) : Int := fmul (fadd (fmul (fsub 1065353216 al) (fmul 1056964608 (fadd 1065353216 (wave (rat (min n s) s))))) al) a
def pieceV (n : Int) : Int → List Int → List Int → Int
  | v, b :: bs, s :: ss => if b ≤ n then pieceV n (fmul v s) bs ss else v
  | v, _, _ => v
def invV (a s n : Int) : Int := fmul a (fsqrt (rat s (max n s)))
/-- How many boundaries are at most n; and the last of them. -/
def kidOf (n : Int) : List Int → Nat
  | [] => 0
  | b :: bs => if b ≤ n then kidOf n bs + 1 else 0
def fromOf (l : List Int) (k : Nat) : Int := if k = 0 then 0 else l.getD (k - 1) 0

/-- A row's value, what those in it are being given. -/
def rowV (s : Sc) (K : List (Int → Int)) (n : Int) : Int :=
  if s.op = 1 then s.nums.getD 0 0
  else if s.op = 2 then polyV (s.nums.getD 0 0) (s.nums.getD 1 0) (s.ints.getD 0 0) (s.ints.getD 1 0) (s.ints.getD 2 0) n
  else if s.op = 3 then expoV (s.nums.getD 0 0) (s.nums.getD 1 0) (s.ints.getD 0 0) (s.ints.getD 1 0) n
  else if s.op = 4 then cosV (s.nums.getD 0 0) (s.nums.getD 1 0) (s.ints.getD 0 0) n
  else if s.op = 5 then pieceV n (s.nums.getD 0 0) s.ints s.nums.tail
  else if s.op = 6 then K.getD (kidOf n s.ints) id (n - fromOf s.ints (kidOf n s.ints))
  else if s.op = 7 then invV (s.nums.getD 0 0) (s.ints.getD 0 0) n
  else if s.op = 8 then fadd (K.getD 0 id n) (K.getD 1 id n)
  else if s.op = 9 then fmul (K.getD 0 id n) (K.getD 1 id n)
  else if s.op = 10 then fmin (K.getD 0 id n) (K.getD 1 id n)
  else if s.op = 11 then fmax (K.getD 0 id n) (K.getD 1 id n)
  else if s.op = 12 then K.getD 0 id (max (n - s.ints.getD 0 0) 0)
  else K.getD 0 id (min n (s.ints.getD 0 0))
def valsL : List Sc → List (Int → Int)
  | [] => []
  | ⟨op, ns, is, l⟩ :: r => rowV ⟨op, ns, is, l⟩ (valsL l) :: valsL r
def valT (t : Sc) : Int → Int := rowV t (valsL t.kids)
theorem valsL_map (l : List Sc) : valsL l = l.map valT := by
  induction l with
  | nil => simp [valsL]
  | cons t r ih => cases t; rw [valsL, ih]; rfl
theorem vals_at (t : Sc) {i : Nat} (h : i < t.kids.length) : (valsL t.kids).getD i id = valT t.kids[i] := by
  rw [valsL_map, List.getD_eq_getElem?_getD, List.getElem?_map, List.getElem?_eq_getElem h]
  rfl

/-- Patterns. -/
def Pat (a : Int) : Prop := 0 ≤ a ∧ a < 4294967296
theorem pat_add (a b : Int) : Pat (fadd a b) := fadd_lo a b
theorem pat_sub (a b : Int) : Pat (fsub a b) := fsub_lo a b
theorem pat_mul (a b : Int) : Pat (fmul a b) := fmul_lo a b
theorem pat_div (a b : Int) : Pat (fdiv a b) := fdiv_lo a b
theorem pat_sqrt (a : Int) : Pat (fsqrt a) := fsqrt_lo a
theorem pat_from (n : Int) : Pat (ffrom n) := ffrom_lo n
theorem pat_neg {a : Int} (h : Pat a) : Pat (fneg a) := fneg_lo a h.1 h.2
theorem pat_min {a b : Int} (h : Pat a) (k : Pat b) : Pat (fmin a b) := by unfold fmin; split <;> first | exact h | exact k | (unfold Pat; decide) | (split <;> assumption)
theorem pat_max {a b : Int} (h : Pat a) (k : Pat b) : Pat (fmax a b) := by unfold fmax; split <;> first | exact h | exact k | (unfold Pat; decide) | (split <;> assumption)
theorem pat_pow {x : Int} (n : Int) (h : Pat x) : Pat (fpow x n) := fpow_lo x n h.1 h.2
theorem pat_rat (a b : Int) : Pat (rat a b) := fdiv_lo _ _
theorem pat_qrN (u : Int) : ∀ k, Pat (qrN u k)
  | 0 => ⟨by show (0 : Int) ≤ 989653445; decide, by show (989653445 : Int) < 4294967296; decide⟩
  | k + 1 => fadd_lo _ _
theorem pat_qrt (t : Int) : Pat (qrt t) := pat_qrN _ _
theorem pat_c (n : Nat) (h : n < 4294967296) : Pat (n : Int) := ⟨by omega, by omega⟩
theorem pat_0 : Pat 0 := ⟨by decide, by decide⟩
theorem pat_1 : Pat 1065353216 := ⟨by decide, by decide⟩
theorem pat_h : Pat 1056964608 := ⟨by decide, by decide⟩
theorem pat_clmp {x : Int} (h : Pat x) : Pat (clmp x) := pat_min (pat_max h (pat_c 0 (by decide))) (pat_c 1065353216 (by decide))
theorem pat_wave {x : Int} (h : Pat x) : Pat (wave x) := by
  unfold wave
  simp only
  split
  · exact pat_c 0 (by decide)
  · split
    · exact pat_neg (pat_qrt _)
    · exact pat_qrt _
theorem pat_facs (k : Nat) : Pat (fac k) := by
  unfold fac
  match k with
  | 0 => unfold Pat facs; decide
  | 1 => unfold Pat facs; decide
  | 2 => unfold Pat facs; decide
  | 3 => unfold Pat facs; decide
  | 4 => unfold Pat facs; decide
  | 5 => unfold Pat facs; decide
  | k + 6 => unfold Pat facs; simp

theorem risesA_mono : ∀ (l : List Int) (a b : Int), b ≤ a → risesA a l = true → risesA b l = true
  | [], _, _, _, _ => rfl
  | n :: r, a, b, h, k => by
    simp only [risesA, Bool.and_eq_true, decide_eq_true_eq] at k ⊢
    exact ⟨⟨by omega, k.1.2⟩, k.2⟩
theorem risesA_len : ∀ (l : List Int) (a : Int), risesA a l = true → a ≤ 2147483647 → (l.length : Int) ≤ 2147483647 - a
  | [], a, _, h => by simp; omega
  | n :: r, a, k, h => by
    simp only [risesA, Bool.and_eq_true, decide_eq_true_eq] at k
    have := risesA_len r n k.2 k.1.2
    simp only [List.length_cons]
    omega
theorem risesA_get : ∀ (l : List Int) (a : Int), risesA a l = true → ∀ i (h : i < l.length), a < l[i] ∧ l[i] ≤ 2147483647
  | [], a, _, i, h => absurd h (Nat.not_lt_zero _)
  | n :: r, a, k, i, h => by
    simp only [risesA, Bool.and_eq_true, decide_eq_true_eq] at k
    cases i with
    | zero => exact ⟨k.1.1, k.1.2⟩
    | succ i =>
      have := risesA_get r n k.2 i (by simpa using h)
      simp only [List.getElem_cons_succ]
      omega

end Go.Proofs.Ytnogokikiekcbab
