import Derived.Test.YtnhpnmilgcjeaaaDoorMaskAid
/- Masks, plainly: which parameters a tree means, and its first fault; parameters as they lie in memory. -/
namespace Go.Proofs.YtnhpnmilgcjeaaaDoor
open Go.RowKit
set_option linter.unusedVariables false
set_option linter.unusedSimpArgs false

structure Par where
  name : ByteArray
  kind : Int
  len : Int
def pv (p : Par) : Value := .agg #[.string p.name, .int .i64 p.kind, .int .i64 p.len]
def AtP (w : World) (b o : Nat) (p : Par) : Prop :=
  w.cell? ⟨b, o, none⟩ = some (.string p.name) ∧ w.cell? ⟨b, o + 1, none⟩ = some (.int .i64 p.kind) ∧ w.cell? ⟨b, o + 2, none⟩ = some (.int .i64 p.len)
theorem AtP.below {w w' : World} {b o : Nat} {p : Par} (h : AtP w b o p) (k : Below w.heap.size w w') : AtP w' b o p :=
  ⟨(k.cell (mcell_lt h.1)).trans h.1, (k.cell (mcell_lt h.2.1)).trans h.2.1, (k.cell (mcell_lt h.2.2)).trans h.2.2⟩
/-- A slice that reads as these parameters. -/
def Row (w : World) (p : Option Addr) (l : List Par) : Prop := l = [] ∨ ∃ b o, p = some ⟨b, o, none⟩ ∧ ∀ i (h : i < l.length), AtP w b (o + i * 3) l[i]
theorem Row.below {w w' : World} {p : Option Addr} {l : List Par} (h : Row w p l) (k : Below w.heap.size w w') : Row w' p l :=
  h.imp id fun ⟨b, o, hp, h⟩ => ⟨b, o, hp, fun i hi => (h i hi).below k⟩
theorem Row.at {w : World} {p : Option Addr} {l : List Par} (h : Row w p l) {i : Nat} (hi : i < l.length) : ∃ b o, p = some ⟨b, o, none⟩ ∧ AtP w b (o + i * 3) l[i] := by
  rcases h with h | ⟨b, o, hp, h⟩
  · rw [h] at hi; exact absurd hi (Nat.not_lt_zero _)
  · exact ⟨b, o, hp, h i hi⟩

def nAll : Gs := [97, 108, 108]
def nNone : Gs := [110, 111, 110, 101]
def nReal : Gs := [114, 101, 97, 108]
def nComplex : Gs := [99, 111, 109, 112, 108, 101, 120]
def nNot : Gs := [110, 111, 116]
def nAnd : Gs := [97, 110, 100]
def nOr : Gs := [111, 114]

/-- Does a mask mean a parameter? s: what its arguments say. -/
def inOne (k : Int) (nm : ByteArray) (p : Par) (s : List Bool) : Bool :=
  if k == 5 then matchP (gs nm) (gs p.name)
  else if gs nm == nAll then true
  else if gs nm == nReal then p.kind == 1
  else if gs nm == nComplex then p.kind == 2
  else if gs nm == nNot then !(s.headD false)
  else if gs nm == nAnd then s.all id
  else if gs nm == nOr then s.any id
  else false
def inL (p : Par) : List Nd → List Bool
  | [] => []
  | ⟨k, nm, _, _, _, l, _⟩ :: r => inOne k nm p (inL p l) :: inL p r
def inM (p : Par) (t : Nd) : Bool := inOne t.kind t.name p (inL p t.args)
theorem inL_nil (p : Par) : inL p [] = [] := by simp [inL]
theorem inL_cons (p : Par) (t : Nd) (r : List Nd) : inL p (t :: r) = inM p t :: inL p r := by cases t; simp [inL, inM]
theorem inL_map (p : Par) : ∀ l : List Nd, inL p l = l.map (inM p)
  | [] => inL_nil p
  | t :: r => by rw [inL_cons, inL_map p r]; rfl

/-- May a call of that name have so many arguments? -/
def okName (nm : ByteArray) (n : Nat) : Bool :=
  if gs nm == nAll || gs nm == nNone || gs nm == nReal || gs nm == nComplex then n == 0
  else if gs nm == nNot then n == 1
  else if gs nm == nAnd || gs nm == nOr then decide (1 ≤ n)
  else false
def faultOne (ps : List Par) (k : Int) (nm : ByteArray) (n : Nat) (a : Int) (sub : Int × Int) : Int × Int :=
  if k == 5 then (if (ps.any fun p => matchP (gs nm) (gs p.name)) then (0, 0) else (111, a))
  else if k != 1 || !okName nm n then (110, a) else sub
def faultL (ps : List Par) : List Nd → Int × Int
  | [] => (0, 0)
  | ⟨k, nm, _, _, key, l, a⟩ :: r =>
    if key.size != 0 then (110, a)
    else if (faultOne ps k nm l.length a (faultL ps l)).1 ≠ 0 then faultOne ps k nm l.length a (faultL ps l)
    else faultL ps r
def faultM (ps : List Par) (t : Nd) : Int × Int := faultOne ps t.kind t.name t.args.length t.at_ (faultL ps t.args)
theorem faultL_nil (ps : List Par) : faultL ps [] = (0, 0) := by simp [faultL]
theorem faultL_cons (ps : List Par) (t : Nd) (r : List Nd) : faultL ps (t :: r) = if t.key.size != 0 then (110, t.at_) else if (faultM ps t).1 ≠ 0 then faultM ps t else faultL ps r := by
  cases t
  rw [faultL]
  rfl
theorem faultL_key {ps : List Par} {l : List Nd} {j : Nat} (hj : j < l.length) (h : ∀ i (h : i < l.length), i < j → l[i].key.size = 0 ∧ (faultM ps l[i]).1 = 0) (hk : l[j].key.size ≠ 0) : faultL ps l = (110, l[j].at_) := by
  induction l generalizing j with
  | nil => exact absurd hj (Nat.not_lt_zero _)
  | cons t r ih =>
    rw [faultL_cons]
    cases j with
    | zero => rw [if_pos (by simpa using hk)]; rfl
    | succ j =>
      have h0 := h 0 (by simp) (by omega)
      simp only [List.getElem_cons_zero] at h0
      rw [if_neg (by simp [h0.1]), if_neg (by simp [h0.2])]
      exact ih (j := j) (by simpa using hj) (fun i hi hij => by have := h (i + 1) (by simpa using hi) (by omega); simpa using this) (by simpa using hk)
theorem faultL_err {ps : List Par} {l : List Nd} {j : Nat} (hj : j < l.length) (h : ∀ i (h : i < l.length), i < j → l[i].key.size = 0 ∧ (faultM ps l[i]).1 = 0) (hk : l[j].key.size = 0) (he : (faultM ps l[j]).1 ≠ 0) : faultL ps l = faultM ps l[j] := by
  induction l generalizing j with
  | nil => exact absurd hj (Nat.not_lt_zero _)
  | cons t r ih =>
    rw [faultL_cons]
    cases j with
    | zero =>
      simp only [List.getElem_cons_zero] at hk he ⊢
      rw [if_neg (by simp [hk]), if_pos he]
    | succ j =>
      have h0 := h 0 (by simp) (by omega)
      simp only [List.getElem_cons_zero] at h0
      rw [if_neg (by simp [h0.1]), if_neg (by simp [h0.2])]
      exact ih (j := j) (by simpa using hj) (fun i hi hij => by have := h (i + 1) (by simpa using hi) (by omega); simpa using this) (by simpa using hk) (by simpa using he)
theorem faultL_ok {ps : List Par} {l : List Nd} (h : ∀ i (h : i < l.length), l[i].key.size = 0 ∧ (faultM ps l[i]).1 = 0) : faultL ps l = (0, 0) := by
  induction l with
  | nil => exact faultL_nil ps
  | cons t r ih =>
    rw [faultL_cons]
    have h0 := h 0 (by simp)
    simp only [List.getElem_cons_zero] at h0
    rw [if_neg (by simp [h0.1]), if_neg (by simp [h0.2])]
    exact ih fun i hi => by have := h (i + 1) (by simpa using hi); simpa using this
theorem faultL_all {ps : List Par} {l : List Nd} (h : (faultL ps l).1 = 0) : ∀ i (h : i < l.length), l[i].key.size = 0 ∧ (faultM ps l[i]).1 = 0 := by
  induction l with
  | nil => intro i hi; exact absurd hi (Nat.not_lt_zero _)
  | cons t r ih =>
    rw [faultL_cons] at h
    split at h
    · exact absurd h (by show ¬ (110 : Int) = 0; decide)
    · rename_i h1
      split at h
      · rename_i h2; exact absurd h h2
      · rename_i h2
        intro i hi
        cases i with
        | zero => exact ⟨by simpa using h1, by simpa using h2⟩
        | succ i => have := ih h i (by simpa using hi); simpa using this
/-- A call without a fault. -/
theorem fault_call {ps : List Par} {t : Nd} (h : (faultM ps t).1 = 0) (h5 : (t.kind == 5) = false) : t.kind = 1 ∧ okName t.name t.args.length = true ∧ ∀ i (h : i < t.args.length), t.args[i].key.size = 0 ∧ (faultM ps t.args[i]).1 = 0 := by
  unfold faultM faultOne at h
  rw [h5] at h
  simp only [Bool.false_eq_true, if_false] at h
  split at h
  · exact absurd h (by show ¬ (110 : Int) = 0; decide)
  · rename_i h1
    simp at h1
    exact ⟨h1.1, h1.2, faultL_all h⟩

/-- A text by its bytes, as the walk asks it. -/
theorem toList_gs (s : ByteArray) : s.toList = gs s := by rw [ByteArray.toList_eq]; rfl
theorem name_is {s : ByteArray} {g : Gs} (h : gs s = g) : (s.toList == g) = true := by rw [toList_gs, h]; simp
theorem name_no {s : ByteArray} {g : Gs} (h : (gs s == g) = false) : (s.toList == g) = false := by rw [toList_gs]; exact h

def indP (ps : List Par) (t : Nd) : List Nat := (List.range ps.length).filter fun i => match ps[i]? with | some p => inM p t | none => false
structure SetR where
  list : List Nat
  err : Int
  place : Int
/-- M2. -/
def setP (ps : List Par) (t : Nd) : SetR :=
  if dep t > 64 then ⟨[], 81, t.at_⟩ else if (faultM ps t).1 ≠ 0 then ⟨[], (faultM ps t).1, (faultM ps t).2⟩ else ⟨indP ps t, 0, 0⟩

end Go.Proofs.YtnhpnmilgcjeaaaDoor
