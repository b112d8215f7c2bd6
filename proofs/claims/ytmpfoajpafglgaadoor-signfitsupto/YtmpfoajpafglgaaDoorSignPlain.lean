import Derived.RowKit3
/- Layer 10, plainly: parameters, signatures, their text. No program in it. -/
namespace Go.Proofs.YtmpfoajpafglgaaDoor
set_option linter.unusedVariables false
set_option linter.unusedSimpArgs false

abbrev Bs := List UInt8
def bs (s : ByteArray) : Bs := s.data.toList
def nb (b : UInt8) : Int := (b.toNat : Int)
def hd : Bs → Int
  | [] => 0
  | b :: _ => nb b
theorem bs_length (s : ByteArray) : (bs s).length = s.size := by simp [bs]
theorem of_bs (s : ByteArray) : (⟨(bs s).toArray⟩ : ByteArray) = s := by simp [bs]
theorem bs_of (x : Bs) : bs ⟨x.toArray⟩ = x := by simp [bs]
theorem bs_inj {s t : ByteArray} (h : bs s = bs t) : s = t := by rw [← of_bs s, ← of_bs t, h]
theorem drop_at (s : ByteArray) (k : Nat) (h : k < s.size) : (bs s).drop k = s[k] :: (bs s).drop (k + 1) := by
  have hk : k < (bs s).length := by rw [bs_length]; exact h
  rw [List.drop_eq_getElem_cons hk]
  congr 1
theorem drop_end (s : ByteArray) (k : Nat) (h : s.size ≤ k) : (bs s).drop k = [] := List.drop_of_length_le (by rw [bs_length]; exact h)

structure Par where
  name : ByteArray
  kind : Int
  len : Int

def pIn (c : Int) : Bool :=
  (decide (97 ≤ c) && decide (c ≤ 122)) || (decide (65 ≤ c) && decide (c ≤ 90)) || (decide (48 ≤ c) && decide (c ≤ 57)) || c == 95 || c == 46 || c == 47 || c == 45
def namedP (s : ByteArray) : Bool := (s.size != 0 && decide (s.size ≤ 64)) && (bs s).all fun b => pIn (nb b)
def mayP (p : Par) : Bool := (namedP p.name && (p.kind == 1 || p.kind == 2)) && (decide (1 ≤ p.len) && decide (p.len ≤ 4096))
def numP (p : Par) : Int := if mayP p then (if p.kind == 2 then 2 * p.len else p.len) else 0
def totP : List Par → Int
  | [] => 0
  | p :: r => numP p + totP r
/-- Where a name stands first. -/
def findP (s : ByteArray) : List Par → Option Nat
  | [] => none
  | p :: r => if p.name = s then some 0 else (findP s r).map (· + 1)
/-- Does a name stand twice? -/
def twiceP : List Par → Bool
  | [] => false
  | p :: r => (r.any fun q => decide (q.name = p.name)) || twiceP r
def checkP (l : List Par) : Int :=
  if l.length > 64 then 2 else if l.all mayP = false then 100 else if twiceP l then 101 else if totP l > 65536 then 102 else 0
def fitsP : List Par → List Nat → Bool
  | [], [] => true
  | p :: r, n :: m => decide ((n : Int) = numP p) && fitsP r m
  | _, _ => false

theorem num_bounds (p : Par) : 0 ≤ numP p ∧ numP p ≤ 8192 := by
  unfold numP
  split
  · rename_i h
    unfold mayP at h
    simp at h
    split <;> omega
  · decide
theorem tot_snoc (l : List Par) (p : Par) : totP (l ++ [p]) = totP l + numP p := by
  induction l with
  | nil => simp [totP]
  | cons q r ih => simp only [List.cons_append, totP, ih]; omega
theorem tot_bounds (l : List Par) : 0 ≤ totP l ∧ totP l ≤ 8192 * (l.length : Int) := by
  induction l with
  | nil => simp [totP]
  | cons q r ih => have := num_bounds q; simp only [totP, List.length_cons]; omega
theorem take_succ {α : Type} {l : List α} {i : Nat} (h : i < l.length) : l.take (i + 1) = l.take i ++ [l[i]] := by simp

theorem find_some {s : ByteArray} : ∀ {l : List Par} {i : Nat}, (h : i < l.length) → l[i].name = s → (∀ j (h : j < l.length), j < i → l[j].name ≠ s) → findP s l = some i
  | [], i, h, _, _ => absurd h (Nat.not_lt_zero _)
  | p :: r, 0, _, e, _ => by simp only [findP]; rw [if_pos (show p.name = s from e)]
  | p :: r, i + 1, h, e, hn => by
    have h0 := hn 0 (by simp) (by omega)
    simp only [List.getElem_cons_zero] at h0
    simp only [findP]
    rw [if_neg h0, find_some (l := r) (i := i) (by simpa using h) (by simpa using e) (fun j hj hji => by have := hn (j + 1) (by simpa using hj) (by omega); simpa using this)]
    rfl
theorem find_none {s : ByteArray} : ∀ {l : List Par}, (∀ j (h : j < l.length), l[j].name ≠ s) → findP s l = none
  | [], _ => rfl
  | p :: r, hn => by
    have h0 := hn 0 (by simp)
    simp only [List.getElem_cons_zero] at h0
    simp only [findP]
    rw [if_neg h0, find_none (l := r) (fun j hj => by have := hn (j + 1) (by simpa using hj); simpa using this)]
    rfl
theorem twice_iff : ∀ {l : List Par}, twiceP l = true ↔ ∃ i j, ∃ (hi : i < l.length) (hj : j < l.length), j < i ∧ l[j].name = l[i].name
  | [] => by simp [twiceP]
  | p :: r => by
    simp only [twiceP, Bool.or_eq_true, List.any_eq_true, decide_eq_true_eq]
    rw [twice_iff (l := r)]
    constructor
    · rintro (⟨q, hq, e⟩ | ⟨i, j, hi, hj, hji, e⟩)
      · obtain ⟨k, hk, rfl⟩ := List.mem_iff_getElem.1 hq
        exact ⟨k + 1, 0, by simpa using hk, by simp, by omega, by simpa using e.symm⟩
      · exact ⟨i + 1, j + 1, by simpa using hi, by simpa using hj, by omega, by simpa using e⟩
    · rintro ⟨i, j, hi, hj, hji, e⟩
      cases i with
      | zero => omega
      | succ i =>
        cases j with
        | zero =>
          simp only [List.getElem_cons_zero, List.getElem_cons_succ] at e
          exact .inl ⟨r[i]'(by simpa using hi), List.getElem_mem _, e.symm⟩
        | succ j =>
          simp only [List.getElem_cons_succ] at e
          exact .inr ⟨i, j, by simpa using hi, by simpa using hj, by omega, e⟩

/- The text. -/
/-- Lines: cut at each byte 10; an empty rest is none. -/
def linesA : Bs → Bs → List Bs
  | cur, [] => if cur.isEmpty then [] else [cur]
  | cur, b :: t => if nb b == 10 then cur :: linesA [] t else linesA (cur ++ [b]) t
/-- Words: cut at each blank. -/
def wordsA : Bs → Bs → List Bs
  | cur, [] => [cur]
  | cur, b :: t => if nb b == 32 then cur :: wordsA [] t else wordsA (cur ++ [b]) t
def pDigit (c : Int) : Bool := decide (48 ≤ c) && decide (c ≤ 57)
def valA : Int → Bs → Int
  | n, [] => n
  | n, b :: t => valA (n * 10 + (nb b - 48)) t
def lenP (s : Bs) : Option Int :=
  if s.isEmpty || decide (4 < s.length) || hd s == 48 then none
  else if (s.all fun b => pDigit (nb b)) then (if valA 0 s ≤ 4096 then some (valA 0 s) else none) else none
def realB : Bs := [114, 101, 97, 108]
def complexB : Bs := [99, 111, 109, 112, 108, 101, 120]
def parL (a k n : Bs) : Option Par :=
  if k == realB || k == complexB then
    (match lenP n with
      | some m => if mayP ⟨⟨a.toArray⟩, if k == complexB then 2 else 1, m⟩ then some ⟨⟨a.toArray⟩, if k == complexB then 2 else 1, m⟩ else none
      | none => none)
  else none
def lineP (s : Bs) : Option Par :=
  match wordsA [] s with
  | [a, k, n] => parL a k n
  | _ => none
structure Red where
  list : List Par
  err : Int
  line : Nat
/-- The lines, behind n others; acc: what they told. -/
def readL : List Par → Nat → List Bs → Red
  | acc, n, [] => ⟨acc, 0, 0⟩
  | acc, n, x :: r => if x.isEmpty || hd x == 35 then readL acc (n + 1) r else
    match lineP x with
    | none => ⟨[], 250, n + 1⟩
    | some p => readL (acc ++ [p]) (n + 1) r
/-- SG2. -/
def parseP (s : Bs) : Red :=
  if s.length > 65536 then ⟨[], 2, 0⟩
  else if (readL [] 0 (linesA [] s)).err ≠ 0 then readL [] 0 (linesA [] s)
  else if checkP (readL [] 0 (linesA [] s)).list ≠ 0 then ⟨[], checkP (readL [] 0 (linesA [] s)).list, 0⟩
  else readL [] 0 (linesA [] s)

/-- A number's digits (f rounds). -/
def digF : Nat → Nat → Bs
  | 0, n => []
  | f + 1, n => if n < 10 then [(48 + n).toUInt8] else digF f (n / 10) ++ [(48 + n % 10).toUInt8]
def digB (n : Nat) : Bs := digF 20 n
def kindB (k : Int) : Bs := if k == 2 then [32, 99, 111, 109, 112, 108, 101, 120, 32] else [32, 114, 101, 97, 108, 32]
def lineB (p : Par) : Bs := bs p.name ++ kindB p.kind ++ digB p.len.toNat ++ [10]
def textB (l : List Par) : Bs := l.flatMap lineB
/-- SG3. -/
def printP (l : List Par) : Bs × Int := if checkP l ≠ 0 then ([], checkP l) else (textB l, 0)

theorem readL_err : ∀ (ls : List Bs) (acc : List Par) (n : Nat), (readL acc n ls).err ≠ 0 → (readL acc n ls).list = [] ∧ (readL acc n ls).err = 250
  | [], acc, n, h => absurd rfl h
  | x :: r, acc, n, h => by
    unfold readL at h ⊢
    split at h
    · rename_i hx
      rw [if_pos hx]
      exact readL_err r acc (n + 1) h
    · rename_i hx
      rw [if_neg hx]
      cases hp : lineP x with
      | none => rw [hp] at h; exact ⟨rfl, rfl⟩
      | some p => rw [hp] at h; exact readL_err r (acc ++ [p]) (n + 1) h
theorem readL_ok : ∀ (ls : List Bs) (acc : List Par) (n : Nat), (readL acc n ls).err = 0 → (readL acc n ls).line = 0
  | [], acc, n, h => rfl
  | x :: r, acc, n, h => by
    unfold readL at h ⊢
    split at h
    · rename_i hx
      rw [if_pos hx]
      exact readL_ok r acc (n + 1) h
    · rename_i hx
      rw [if_neg hx]
      cases hp : lineP x with
      | none => rw [hp] at h; exact absurd h (show ¬ (250 : Int) = 0 by decide)
      | some p => rw [hp] at h; exact readL_ok r (acc ++ [p]) (n + 1) h
theorem check_bounds (l : List Par) : 0 ≤ checkP l ∧ checkP l ≤ 102 := by
  unfold checkP
  repeat' split
  all_goals omega
theorem check_len {l : List Par} (h : checkP l = 0) : l.length ≤ 64 := by
  unfold checkP at h
  split at h
  · omega
  · omega
theorem check_may {l : List Par} (h : checkP l = 0) : ∀ p ∈ l, mayP p = true := by
  unfold checkP at h
  split at h
  · omega
  · split at h
    · omega
    · rename_i h2
      rw [Bool.not_eq_false, List.all_eq_true] at h2
      exact h2
/-- What is told: no error and what may be, or an error and nothing. -/
theorem parse_told (s : Bs) : ((parseP s).err = 0 ∧ checkP (parseP s).list = 0 ∧ (parseP s).line = 0) ∨ ((parseP s).err ≠ 0 ∧ (parseP s).list = []) := by
  unfold parseP
  split
  · exact .inr ⟨by decide, rfl⟩
  · split
    · rename_i h
      exact .inr ⟨h, (readL_err _ _ _ h).1⟩
    · rename_i h
      split
      · rename_i h2
        exact .inr ⟨h2, rfl⟩
      · rename_i h2
        have h' : (readL [] 0 (linesA [] s)).err = 0 := by simpa using h
        exact .inl ⟨h', by simpa using h2, readL_ok _ _ _ h'⟩
theorem parse_len (s : Bs) : (parseP s).list.length ≤ 64 := by
  rcases parse_told s with h | h
  · exact check_len h.2.1
  · rw [h.2]; decide
theorem parse_bounds (s : Bs) : 0 ≤ (parseP s).err ∧ (parseP s).err ≤ 250 := by
  unfold parseP
  split
  · decide
  · split
    · rename_i h
      rw [(readL_err _ _ _ h).2]
      decide
    · rename_i h
      split
      · rename_i h2
        have := check_bounds (readL [] 0 (linesA [] s)).list
        exact ⟨this.1, Int.le_trans this.2 (by decide)⟩
      · have h' : (readL [] 0 (linesA [] s)).err = 0 := by simpa using h
        rw [h']
        decide

end Go.Proofs.YtmpfoajpafglgaaDoor
