import Derived.Test.YtnhpnmilgcjeaaaDoorLexPlain
/- Layer 7, plainly: trees. No program in it. -/
namespace Go.Proofs.YtnhpnmilgcjeaaaDoor
set_option linter.unusedVariables false
set_option linter.unusedSimpArgs false

/-- A node with its arguments. -/
structure Nd where
  kind : Int
  name : ByteArray
  num : Int
  int_ : Int
  key : ByteArray
  args : List Nd
  at_ : Int

def cntL : List Nd → Nat
  | [] => 0
  | ⟨_, _, _, _, _, l, _⟩ :: r => 1 + cntL l + cntL r
def cnt (t : Nd) : Nat := 1 + cntL t.args
theorem cntL_nil : cntL [] = 0 := by simp [cntL]
theorem cntL_cons (t : Nd) (r : List Nd) : cntL (t :: r) = cnt t + cntL r := by cases t; simp [cntL, cnt]

/-- Induction over rows of trees. -/
theorem forest {P : List Nd → Prop} (h0 : P []) (h1 : ∀ (t : Nd) (r : List Nd), P t.args → P r → P (t :: r)) : ∀ l, P l := by
  intro l
  induction l using cntL.induct with
  | case1 => exact h0
  | case2 k n x i y l a r hl hr => exact h1 ⟨k, n, x, i, y, l, a⟩ r hl hr

def depL : List Nd → Nat
  | [] => 0
  | ⟨_, _, _, _, _, l, _⟩ :: r => max (depL l + 1) (depL r)
def dep (t : Nd) : Nat := depL t.args + 1
theorem depL_nil : depL [] = 0 := by simp [depL]
theorem depL_cons (t : Nd) (r : List Nd) : depL (t :: r) = max (dep t) (depL r) := by cases t; simp [depL, dep]

def stripL : List Nd → List Nd
  | [] => []
  | ⟨k, n, x, i, y, l, _⟩ :: r => ⟨k, n, x, i, y, stripL l, 0⟩ :: stripL r
def strip (t : Nd) : Nd := ⟨t.kind, t.name, t.num, t.int_, t.key, stripL t.args, 0⟩
theorem stripL_nil : stripL [] = [] := by simp [stripL]
theorem stripL_cons (t : Nd) (r : List Nd) : stripL (t :: r) = strip t :: stripL r := by cases t; simp [stripL, strip]

def namesL : List Nd → List ByteArray
  | [] => []
  | ⟨k, n, _, _, _, l, _⟩ :: r => (if k == 1 then [n] else []) ++ namesL l ++ namesL r
def names (t : Nd) : List ByteArray := (if t.kind == 1 then [t.name] else []) ++ namesL t.args
theorem namesL_nil : namesL [] = [] := by simp [namesL]
theorem namesL_cons (t : Nd) (r : List Nd) : namesL (t :: r) = names t ++ namesL r := by cases t; simp [namesL, names]

def eqL : List Nd → List Nd → Bool
  | [], [] => true
  | ⟨k, n, x, i, y, l, _⟩ :: r, ⟨k', n', x', i', y', l', _⟩ :: r' => (k == k' && n.toList == n'.toList && x == x' && i == i' && y.toList == y'.toList && eqL l l') && eqL r r'
  | _, _ => false
def eqT (a b : Nd) : Bool := a.kind == b.kind && a.name.toList == b.name.toList && a.num == b.num && a.int_ == b.int_ && a.key.toList == b.key.toList && eqL a.args b.args
theorem eqL_nil : eqL [] [] = true := by simp [eqL]
theorem eqL_cons (t u : Nd) (r s : List Nd) : eqL (t :: r) (u :: s) = (eqT t u && eqL r s) := by cases t; cases u; simp [eqL, eqT]
theorem eqL_len : ∀ (l m : List Nd), eqL l m = true → l.length = m.length
  | [], [], _ => rfl
  | [], u :: s, h => by simp [eqL] at h
  | t :: r, [], h => by simp [eqL] at h
  | t :: r, u :: s, h => by
    rw [eqL_cons, Bool.and_eq_true] at h
    have := eqL_len r s h.2
    simp [this]

/-- What each node keeps to. -/
def okL : List Nd → Prop
  | [] => True
  | ⟨_, n, x, _, y, l, _⟩ :: r => (n.size ≤ 140737488351232 ∧ y.size ≤ 140737488351232 ∧ 0 ≤ x ∧ x < 4294967296) ∧ okL l ∧ okL r
def ok1 (t : Nd) : Prop := (t.name.size ≤ 140737488351232 ∧ t.key.size ≤ 140737488351232 ∧ 0 ≤ t.num ∧ t.num < 4294967296) ∧ okL t.args
theorem okL_cons (t : Nd) (r : List Nd) : okL (t :: r) ↔ ok1 t ∧ okL r := by cases t; simp [okL, ok1, and_assoc]
theorem okL_nil : okL [] := by simp [okL]
theorem okL_get {l : List Nd} (h : okL l) {i : Nat} (hi : i < l.length) : ok1 l[i] := by
  induction l generalizing i with
  | nil => exact absurd hi (Nat.not_lt_zero _)
  | cons t r ih =>
    rw [okL_cons] at h
    cases i with
    | zero => exact h.1
    | succ i => exact ih h.2 (by simpa using hi)

theorem cntL_len : ∀ l : List Nd, l.length ≤ cntL l
  | [] => Nat.zero_le _
  | t :: r => by have := cntL_len r; rw [cntL_cons, List.length_cons]; unfold cnt; omega
theorem depL_cnt : ∀ l : List Nd, depL l ≤ cntL l := by
  apply forest
  · rw [depL_nil]; exact Nat.zero_le _
  · intro t r h1 h2
    rw [depL_cons, cntL_cons]
    unfold dep cnt
    omega
theorem cntL_append : ∀ (l m : List Nd), cntL (l ++ m) = cntL l + cntL m
  | [], m => by simp [cntL]
  | t :: r, m => by rw [List.cons_append, cntL_cons, cntL_cons, cntL_append r m]; omega
theorem depL_append : ∀ (l m : List Nd), depL (l ++ m) = max (depL l) (depL m)
  | [], m => by simp [depL]
  | t :: r, m => by rw [List.cons_append, depL_cons, depL_cons, depL_append r m]; omega
theorem namesL_append : ∀ (l m : List Nd), namesL (l ++ m) = namesL l ++ namesL m
  | [], m => by simp [namesL]
  | t :: r, m => by rw [List.cons_append, namesL_cons, namesL_cons, namesL_append r m]; simp
theorem stripL_append : ∀ (l m : List Nd), stripL (l ++ m) = stripL l ++ stripL m
  | [], m => by simp [stripL]
  | t :: r, m => by rw [List.cons_append, stripL_cons, stripL_cons, stripL_append r m]; simp
theorem ntake_succ {l : List Nd} {i : Nat} (h : i < l.length) : l.take (i + 1) = l.take i ++ [l[i]] := by
  rw [List.take_succ_eq_append_getElem h]
theorem cntL_one (t : Nd) : cntL [t] = cnt t := by rw [cntL_cons, cntL_nil]; rfl
theorem depL_one (t : Nd) : depL [t] = dep t := by rw [depL_cons, depL_nil]; omega
theorem namesL_one (t : Nd) : namesL [t] = names t := by rw [namesL_cons, namesL_nil]; simp
theorem stripL_one (t : Nd) : stripL [t] = [strip t] := by rw [stripL_cons, stripL_nil]
theorem cntL_take {l : List Nd} {i : Nat} (h : i < l.length) : cntL (l.take (i + 1)) = cntL (l.take i) + cnt l[i] := by rw [ntake_succ h, cntL_append, cntL_one]
theorem depL_take {l : List Nd} {i : Nat} (h : i < l.length) : depL (l.take (i + 1)) = max (depL (l.take i)) (dep l[i]) := by rw [ntake_succ h, depL_append, depL_one]
theorem namesL_take {l : List Nd} {i : Nat} (h : i < l.length) : namesL (l.take (i + 1)) = namesL (l.take i) ++ names l[i] := by rw [ntake_succ h, namesL_append, namesL_one]
theorem stripL_take {l : List Nd} {i : Nat} (h : i < l.length) : stripL (l.take (i + 1)) = stripL (l.take i) ++ [strip l[i]] := by rw [ntake_succ h, stripL_append, stripL_one]
theorem cntL_take_le (l : List Nd) (i : Nat) : cntL (l.take i) ≤ cntL l := by
  have h := cntL_append (l.take i) (l.drop i)
  rw [List.take_append_drop] at h
  omega
theorem cnt_get {l : List Nd} {i : Nat} (h : i < l.length) : cnt l[i] ≤ cntL l := by
  have h1 := cntL_take h
  have h2 := cntL_take_le l (i + 1)
  omega
theorem depL_take_le (l : List Nd) (i : Nat) : depL (l.take i) ≤ depL l := by
  have h := depL_append (l.take i) (l.drop i)
  rw [List.take_append_drop] at h
  omega
theorem dep_get {l : List Nd} {i : Nat} (h : i < l.length) : dep l[i] ≤ depL l := by
  have h1 := depL_take h
  have h2 := depL_take_le l (i + 1)
  omega
theorem stripL_len : ∀ l : List Nd, (stripL l).length = l.length
  | [] => by simp [stripL]
  | t :: r => by rw [stripL_cons]; simp [stripL_len r]
theorem namesL_le : ∀ l : List Nd, (namesL l).length ≤ cntL l := by
  apply forest
  · rw [namesL_nil]; exact Nat.zero_le _
  · intro t r h1 h2
    rw [namesL_cons, cntL_cons, List.length_append]
    unfold names cnt
    rw [List.length_append]
    split <;> simp <;> omega
theorem names_le (t : Nd) : (names t).length ≤ cnt t := by
  have := namesL_le [t]
  rwa [namesL_one, cntL_one] at this
theorem dep_cnt (t : Nd) : dep t ≤ cnt t := by
  have := depL_cnt [t]
  rwa [depL_one, cntL_one] at this

theorem eqL_strip : ∀ l : List Nd, eqL l (stripL l) = true := by
  apply forest
  · rw [stripL_nil, eqL_nil]
  · intro t r h1 h2
    rw [stripL_cons, eqL_cons, h2]
    unfold eqT strip
    simp [h1]
theorem eqT_strip (t : Nd) : eqT t (strip t) = true := by
  have := eqL_strip [t]
  rwa [stripL_one, eqL_cons, eqL_nil, Bool.and_true] at this
theorem eqL_self : ∀ l : List Nd, eqL l l = true := by
  apply forest
  · rw [eqL_nil]
  · intro t r h1 h2
    rw [eqL_cons, h2]
    unfold eqT
    simp [h1]
theorem eqT_self (t : Nd) : eqT t t = true := by
  have := eqL_self [t]
  rwa [eqL_cons, eqL_nil, Bool.and_true] at this
theorem eqL_comm : ∀ l m : List Nd, eqL l m = eqL m l := by
  apply forest
  · intro m
    cases m with
    | nil => rfl
    | cons u s => simp [eqL]
  · intro t r h1 h2 m
    cases m with
    | nil => simp [eqL]
    | cons u s =>
      rw [eqL_cons, eqL_cons, h2 s]
      unfold eqT
      rw [h1 u.args, Bool.beq_comm (a := t.kind), Bool.beq_comm (a := t.name.toList), Bool.beq_comm (a := t.num), Bool.beq_comm (a := t.int_), Bool.beq_comm (a := t.key.toList)]
theorem eqT_comm (a b : Nd) : eqT a b = eqT b a := by
  have := eqL_comm [a] [b]
  rwa [eqL_cons, eqL_cons, eqL_nil, Bool.and_true, Bool.and_true] at this
theorem eqL_false_of {l m : List Nd} (hl : l.length = m.length) {i : Nat} (hi : i < l.length) (hm : i < m.length) (h : eqT l[i] m[i] = false) : eqL l m = false := by
  induction l generalizing m i with
  | nil => exact absurd hi (Nat.not_lt_zero _)
  | cons t r ih =>
    cases m with
    | nil => simp at hl
    | cons u s =>
      rw [eqL_cons]
      cases i with
      | zero =>
        have e : eqT t u = false := h
        rw [e]; rfl
      | succ i => rw [ih (m := s) (by simpa using hl) (by simpa using hi) (by simpa using hm) (by simpa using h), Bool.and_false]
theorem eqL_true_of {l m : List Nd} (hl : l.length = m.length) (h : ∀ i (hi : i < l.length) (hm : i < m.length), eqT l[i] m[i] = true) : eqL l m = true := by
  induction l generalizing m with
  | nil =>
    cases m with
    | nil => exact eqL_nil
    | cons u s => simp at hl
  | cons t r ih =>
    cases m with
    | nil => simp at hl
    | cons u s =>
      rw [eqL_cons, ih (m := s) (by simpa using hl) fun i hi hm => h (i + 1) (Nat.succ_lt_succ hi) (Nat.succ_lt_succ hm)]
      have := h 0 (by simp) (by simp)
      simpa using this

/-- What is left of so many nodes. -/
def roomL : List Nd → Int → Int
  | [], m => m
  | ⟨_, _, _, _, _, l, _⟩ :: r, m => if m < 0 then m else roomL r (roomL l (m - 1))
def room (t : Nd) (m : Int) : Int := roomL t.args (m - 1)
theorem roomL_cons (t : Nd) (r : List Nd) (m : Int) : roomL (t :: r) m = if m < 0 then m else roomL r (room t m) := by cases t; rw [roomL]; rfl
theorem roomL_nil (m : Int) : roomL [] m = m := by simp [roomL]
theorem roomL_val : ∀ (l : List Nd) (m : Int), -1 ≤ m → roomL l m = if m < 0 then -1 else max (m - cntL l) (-1) := by
  apply forest
  · intro m h
    rw [roomL_nil, cntL_nil]
    split <;> omega
  · intro t r h1 h2 m h
    rw [roomL_cons, cntL_cons]
    unfold room cnt
    by_cases c : m < 0
    · rw [if_pos c, if_pos c]; omega
    · rw [if_neg c, if_neg c, h1 (m - 1) (by omega)]
      by_cases d : m - 1 < 0
      · rw [if_pos d, h2 _ (by omega)]
        simp
        omega
      · rw [if_neg d, h2 _ (by omega)]
        split <;> omega
theorem room_big (t : Nd) : decide (room t 9000 < 0) = decide (9000 < cnt t) := by
  unfold room
  rw [roomL_val _ _ (by decide)]
  have := Nat.zero_le (cntL t.args)
  unfold cnt
  rw [Bool.eq_iff_iff, decide_eq_true_iff, decide_eq_true_iff]
  simp
  omega
theorem room_lo (t : Nd) (m : Int) (h : 0 ≤ m) : -1 ≤ room t m ∧ room t m ≤ m := by
  unfold room
  rw [roomL_val _ _ (by omega)]
  split <;> omega

/-- One walk that hands the nodes on, with what it is asked. -/
def wkL {σ : Type} (g : σ → Nd → Int → Option Nd → Bool × σ) : List Nd → Int → Option Nd → σ → Bool × σ
  | [], _, _, s => (true, s)
  | ⟨k, n, x, i, y, l, a⟩ :: r, d, u, s =>
    if (g s ⟨k, n, x, i, y, l, a⟩ d u).1 then
      if (wkL g l (d + 1) (some ⟨k, n, x, i, y, l, a⟩) (g s ⟨k, n, x, i, y, l, a⟩ d u).2).1 then
        wkL g r d u (wkL g l (d + 1) (some ⟨k, n, x, i, y, l, a⟩) (g s ⟨k, n, x, i, y, l, a⟩ d u).2).2
      else (false, (wkL g l (d + 1) (some ⟨k, n, x, i, y, l, a⟩) (g s ⟨k, n, x, i, y, l, a⟩ d u).2).2)
    else (false, (g s ⟨k, n, x, i, y, l, a⟩ d u).2)
def wk {σ : Type} (g : σ → Nd → Int → Option Nd → Bool × σ) (t : Nd) (d : Int) (u : Option Nd) (s : σ) : Bool × σ :=
  if (g s t d u).1 then wkL g t.args (d + 1) (some t) (g s t d u).2 else (false, (g s t d u).2)
section
variable {σ : Type} (g : σ → Nd → Int → Option Nd → Bool × σ)
theorem wkL_nil (d : Int) (u : Option Nd) (s : σ) : wkL g [] d u s = (true, s) := by simp [wkL]
theorem wkL_cons (t : Nd) (r : List Nd) (d : Int) (u : Option Nd) (s : σ) :
    wkL g (t :: r) d u s = if (wk g t d u s).1 then wkL g r d u (wk g t d u s).2 else (false, (wk g t d u s).2) := by
  cases t
  rw [wkL]
  unfold wk
  split
  · rfl
  · rfl
theorem wkL_append : ∀ (l m : List Nd) (d : Int) (u : Option Nd) (s : σ),
    wkL g (l ++ m) d u s = if (wkL g l d u s).1 then wkL g m d u (wkL g l d u s).2 else (false, (wkL g l d u s).2)
  | [], m, d, u, s => by rw [wkL_nil]; rfl
  | t :: r, m, d, u, s => by
    rw [List.cons_append, wkL_cons, wkL_cons]
    split
    · exact wkL_append r m d u _
    · rfl
theorem wkL_one (t : Nd) (d : Int) (u : Option Nd) (s : σ) : wkL g [t] d u s = wk g t d u s := by
  rw [wkL_cons, wkL_nil]
  split
  · rename_i h
    rw [← h]
  · rename_i h
    have : (wk g t d u s).1 = false := by simpa using h
    rw [← this]
theorem wkL_take {l : List Nd} {i : Nat} (h : i < l.length) (d : Int) (u : Option Nd) (s : σ) (h1 : (wkL g (l.take i) d u s).1 = true) :
    wkL g (l.take (i + 1)) d u s = wk g l[i] d u (wkL g (l.take i) d u s).2 := by
  rw [ntake_succ h, wkL_append, if_pos h1, wkL_one]
theorem wkL_stop {l : List Nd} {i : Nat} (h : i ≤ l.length) (d : Int) (u : Option Nd) (s : σ) (h1 : (wkL g (l.take i) d u s).1 = false) :
    wkL g l d u s = wkL g (l.take i) d u s := by
  have e := wkL_append g (l.take i) (l.drop i) d u s
  rw [List.take_append_drop, if_neg (by rw [h1]; decide)] at e
  rw [e, ← h1]
end

end Go.Proofs.YtnhpnmilgcjeaaaDoor
