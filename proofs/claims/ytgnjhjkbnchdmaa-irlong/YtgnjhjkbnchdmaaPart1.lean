import Derived.RowKit3
import Derived.Test.YtgnjhjkbnchdmaaRows
import Derived.WalkKit
import Derived.WalkSpells
import Derived.WalkLawsBesides
import Derived.LoopN
import Derived.Below
import Derived.OwnWalk
import Derived.Shelf.Abstract
import Derived.Deep.AppendLies
import Derived.Maps.AppendAt
import Derived.Laws.AppendOwnNone
import Derived.Deep.OwnRows
import Derived.Deep.DeepCutAuto
import Derived.Deep.QuietTactic
import Derived.Deep.RegionHeld3
import Derived.BigQuiet
import Derived.Handy
/- Layer 10, plainly: parameters, signatures, their text. No program in it. -/
namespace Go.Proofs.Ytgnjhjkbnchdmaa
set_option linter.unusedVariables false
set_option linter.unusedSimpArgs false

abbrev Bs := List UInt8
def bs (s : ByteArray) : Bs := s.data.toList
def nb (b : UInt8) : Int := (b.toNat : Int)
def hd : Bs → Int
  | [] => 0
  | b :: _ => nb b
theorem bs_length (s : ByteArray) : (bs s).length = s.size := by simp [bs]
theorem of_bs (s : ByteArray) : (⟨(bs s).toArray⟩ : ByteArray) = s := by simp [bs]
theorem bs_inj {s t : ByteArray} (h : bs s = bs t) : s = t := by rw [← of_bs s, ← of_bs t, h]
structure Par where
  name : ByteArray
  kind : Int
  len : Int

def pIn (c : Int) : Bool :=
  (decide (97 ≤ c) && decide (c ≤ 122)) || (decide (65 ≤ c) && decide (c ≤ 90)) || (decide (48 ≤ c) && decide (c ≤ 57)) || c == 95 || c == 46 || c == 47 || c == 45
def namedP (s : ByteArray) : Bool := (s.size != 0 && decide (s.size ≤ 64)) && (bs s).all fun b => pIn (nb b)
def mayP (p : Par) : Bool := (namedP p.name && (p.kind == 1 || p.kind == 2)) && (decide (1 ≤ p.len) && decide (p.len ≤ 4096))
def numP (p : Par) : Int := if mayP p then (if p.kind == 2 then 2 * p.len else p.len) else 0
def totP : List Par → Int
  | [] => 0
  | p :: r => numP p + totP r
/-- Where a name stands first. -/
def findP (s : ByteArray) : List Par → Option Nat
  | [] => none
  | p :: r => if p.name = s then some 0 else (findP s r).map (· + 1)
/-- Does a name stand twice? -/
def twiceP : List Par → Bool
  | [] => false
  | p :: r => (r.any fun q => decide (q.name = p.name)) || twiceP r
def checkP (l : List Par) : Int :=
  if l.length > 64 then 2 else if l.all mayP = false then 100 else if twiceP l then 101 else if totP l > 65536 then 102 else 0
theorem num_bounds (p : Par) : 0 ≤ numP p ∧ numP p ≤ 8192 := by
  unfold numP
  split
  · rename_i h
    unfold mayP at h
    simp at h
    split <;> omega
  · decide
theorem tot_snoc (l : List Par) (p : Par) : totP (l ++ [p]) = totP l + numP p := by
  induction l with
  | nil => simp [totP]
  | cons q r ih => simp only [List.cons_append, totP, ih]; omega
theorem tot_bounds (l : List Par) : 0 ≤ totP l ∧ totP l ≤ 8192 * (l.length : Int) := by
  induction l with
  | nil => simp [totP]
  | cons q r ih => have := num_bounds q; simp only [totP, List.length_cons]; omega
theorem take_succ {α : Type} {l : List α} {i : Nat} (h : i < l.length) : l.take (i + 1) = l.take i ++ [l[i]] := by simp

theorem find_some {s : ByteArray} : ∀ {l : List Par} {i : Nat}, (h : i < l.length) → l[i].name = s → (∀ j (h : j < l.length), j < i → l[j].name ≠ s) → findP s l = some i
  | [], i, h, _, _ => absurd h (Nat.not_lt_zero _)
  | p :: r, 0, _, e, _ => by simp only [findP]; rw [if_pos (show p.name = s from e)]
  | p :: r, i + 1, h, e, hn => by
    have h0 := hn 0 (by simp) (by omega)
    simp only [List.getElem_cons_zero] at h0
    simp only [findP]
    rw [if_neg h0, find_some (l := r) (i := i) (by simpa using h) (by simpa using e) (fun j hj hji => by have := hn (j + 1) (by simpa using hj) (by omega); simpa using this)]
    rfl
theorem find_none {s : ByteArray} : ∀ {l : List Par}, (∀ j (h : j < l.length), l[j].name ≠ s) → findP s l = none
  | [], _ => rfl
  | p :: r, hn => by
    have h0 := hn 0 (by simp)
    simp only [List.getElem_cons_zero] at h0
    simp only [findP]
    rw [if_neg h0, find_none (l := r) (fun j hj => by have := hn (j + 1) (by simpa using hj); simpa using this)]
    rfl
theorem twice_iff : ∀ {l : List Par}, twiceP l = true ↔ ∃ i j, ∃ (hi : i < l.length) (hj : j < l.length), j < i ∧ l[j].name = l[i].name
  | [] => by simp [twiceP]
  | p :: r => by
    simp only [twiceP, Bool.or_eq_true, List.any_eq_true, decide_eq_true_eq]
    rw [twice_iff (l := r)]
    constructor
    · rintro (⟨q, hq, e⟩ | ⟨i, j, hi, hj, hji, e⟩)
      · obtain ⟨k, hk, rfl⟩ := List.mem_iff_getElem.1 hq
        exact ⟨k + 1, 0, by simpa using hk, by simp, by omega, by simpa using e.symm⟩
      · exact ⟨i + 1, j + 1, by simpa using hi, by simpa using hj, by omega, by simpa using e⟩
    · rintro ⟨i, j, hi, hj, hji, e⟩
      cases i with
      | zero => omega
      | succ i =>
        cases j with
        | zero =>
          simp only [List.getElem_cons_zero, List.getElem_cons_succ] at e
          exact .inl ⟨r[i]'(by simpa using hi), List.getElem_mem _, e.symm⟩
        | succ j =>
          simp only [List.getElem_cons_succ] at e
          exact .inr ⟨i, j, by simpa using hi, by simpa using hj, by omega, e⟩

end Go.Proofs.Ytgnjhjkbnchdmaa
/- Signatures as they lie in memory. -/
namespace Go.Proofs.Ytgnjhjkbnchdmaa
open Go.RowKit
set_option linter.unusedVariables false
set_option linter.unusedSimpArgs false

theorem bel {a b c : World} (h : Below a.heap.size a b) (k : Below b.heap.size b c) : Below a.heap.size a c := h.trans (k.mono h.size)
theorem bel0 (w : World) : Below w.heap.size w w := Below.refl _ _
theorem bel_alloc (w : World) (o : Obj) : Below w.heap.size w (w.alloc o) := (Below.refl _ _).alloc (Nat.le_refl _) o
theorem bel_d (w : World) : Below w.heap.size w w.drew := (Below.refl _ _).drew
theorem mcell_lt {w : World} {a : Addr} {v : Value} (h : w.cell? a = some v) : a.block < w.heap.size := by
  rcases Nat.lt_or_ge a.block w.heap.size with c | c
  · exact c
  · have : w.heap[a.block]? = none := Array.getElem?_eq_none c
    simp [World.cell?, this] at h
theorem ret_bool {a b : Bool} (h : a = b) : Ending.returned (.bool a) = .returned (.bool b) := by rw [h]
theorem ret_int {k : IntKind} {a b : Int} (h : a = b) : Ending.returned (.int k a) = .returned (.int k b) := by rw [h]
/-- A parameter as a value, and its cells. -/
def pv (p : Par) : Value := .agg #[.string p.name, .int .i64 p.kind, .int .i64 p.len]
def parCells (p : Par) : List Value := [.string p.name, .int .i64 p.kind, .int .i64 p.len]
def AtP (w : World) (b o : Nat) (p : Par) : Prop :=
  w.cell? ⟨b, o, none⟩ = some (.string p.name) ∧ w.cell? ⟨b, o + 1, none⟩ = some (.int .i64 p.kind) ∧ w.cell? ⟨b, o + 2, none⟩ = some (.int .i64 p.len)
theorem AtP.below {w w' : World} {b o : Nat} {p : Par} (h : AtP w b o p) (k : Below w.heap.size w w') : AtP w' b o p :=
  ⟨(k.cell (mcell_lt h.1)).trans h.1, (k.cell (mcell_lt h.2.1)).trans h.2.1, (k.cell (mcell_lt h.2.2)).trans h.2.2⟩
/-- A slice that reads as these parameters. -/
def Row (w : World) (p : Option Addr) (l : List Par) : Prop := l = [] ∨ ∃ b o, p = some ⟨b, o, none⟩ ∧ ∀ i (h : i < l.length), AtP w b (o + i * 3) l[i]
def Rd (w : World) (v : Value) (l : List Par) : Prop := ∃ p c, v = .slice p l.length c ∧ Row w p l
theorem Row.below {w w' : World} {p : Option Addr} {l : List Par} (h : Row w p l) (k : Below w.heap.size w w') : Row w' p l :=
  h.imp id fun ⟨b, o, hp, h⟩ => ⟨b, o, hp, fun i hi => (h i hi).below k⟩
theorem Rd.below {w w' : World} {v : Value} {l : List Par} (h : Rd w v l) (k : Below w.heap.size w w') : Rd w' v l := by
  obtain ⟨p, c, hv, h⟩ := h
  exact ⟨p, c, hv, h.below k⟩
theorem Row.at {w : World} {p : Option Addr} {l : List Par} (h : Row w p l) {i : Nat} (hi : i < l.length) : ∃ b o, p = some ⟨b, o, none⟩ ∧ AtP w b (o + i * 3) l[i] := by
  rcases h with h | ⟨b, o, hp, h⟩
  · rw [h] at hi; exact absurd hi (Nat.not_lt_zero _)
  · exact ⟨b, o, hp, h i hi⟩

end Go.Proofs.Ytgnjhjkbnchdmaa
/- Plain facts on patterns of 32 bits: no program is in sight. -/
namespace Go.Proofs.Ytgnjhjkbnchdmaa
open Go.RowKit
set_option linter.unusedVariables false

theorem and_mask (a : Int) (k : Nat) (hk : k < 32) (h0 : 0 ≤ a) (h1 : a < 4294967296) : bits .and .u32 a ((2 ^ k - 1 : Nat) : Int) = a % ((2 ^ k : Nat) : Int) := by
  have hp : 2 ^ k < 2 ^ 32 := Nat.pow_lt_pow_right (by omega) hk
  have hq : 0 < 2 ^ k := Nat.two_pow_pos k
  obtain ⟨n, rfl⟩ := Int.eq_ofNat_of_zero_le h0
  rw [u32_and _ _ h0 h1 (by omega) (by omega), Int.toNat_natCast, Int.toNat_natCast, Nat.and_two_pow_sub_one_eq_mod]
  rfl
theorem and_23 (a : Int) (h0 : 0 ≤ a) (h1 : a < 4294967296) : bits .and .u32 a 8388607 = a % 8388608 := and_mask a 23 (by omega) h0 h1
theorem and_8 (a : Int) (h0 : 0 ≤ a) (h1 : a < 4294967296) : bits .and .u32 a 255 = a % 256 := and_mask a 8 (by omega) h0 h1
theorem and_sign (a : Int) (h0 : 0 ≤ a) (h1 : a < 4294967296) : bits .and .u32 a 2147483648 = if 2147483648 ≤ a then 2147483648 else 0 := by
  rw [u32_and a _ h0 h1 (by omega) (by omega), show (2147483648 : Int).toNat = 2 ^ 31 from rfl, nat_bit]
  split <;> omega
theorem and_sign_ne (a : Int) (h0 : 0 ≤ a) (h1 : a < 4294967296) : (bits .and .u32 a 2147483648 != 0) = decide (2147483648 ≤ a) := by
  rw [and_sign a h0 h1]
  split <;> simp [*]
/-- the class of a pattern -/
def cls (a : Int) : Int :=
  if a / 8388608 % 256 = 255 then (if a % 8388608 = 0 then 4 else 5) else if a / 8388608 % 256 = 0 then (if a % 8388608 = 0 then 1 else 2) else 3
/-- is the pattern a NaN? (not reducible: the walk shall not open it) -/
def nan (a : Int) : Bool := decide (2139095040 < a % 2147483648)
theorem nan_iff (a : Int) : nan a = true ↔ 2139095040 < a % 2147483648 := by unfold nan; simp
theorem nan_not (a : Int) : nan a = false ↔ a % 2147483648 ≤ 2139095040 := by unfold nan; simp
theorem cls_nan (a : Int) (h : nan a = true) (h0 : 0 ≤ a) (h1 : a < 4294967296) : cls a = 5 := by
  rw [nan_iff] at h; unfold cls; rw [if_pos (by omega), if_neg (by omega)]
theorem cls_num (a : Int) (h : nan a = false) (h0 : 0 ≤ a) (h1 : a < 4294967296) : cls a ≠ 5 := by
  rw [nan_not] at h; unfold cls; repeat' split
  all_goals omega
def key (a : Int) : Int := if 2147483648 ≤ a then -1 - (a - 2147483648) else a
def ofKey (k : Int) : Int := if k < 0 then 2147483648 + (-1 - k) else k
def canon (a : Int) : Int := if nan a then 2143289344 else a
def next (a : Int) : Int := if nan a then 2143289344 else if a = 2139095040 then a else ofKey (key a + 1)
def mk (m : Bool) (e f : Int) : Int := if m then e * 8388608 + f + 2147483648 else e * 8388608 + f
end Go.Proofs.Ytgnjhjkbnchdmaa
/- Layer 16, plainly: code, rows, what fits, the walk over the instructions. No program in it. -/
namespace Go.Proofs.Ytgnjhjkbnchdmaa
set_option linter.unusedVariables false
set_option linter.unusedSimpArgs false

structure Ty where
  kind : Int
  par : Int
  deriving DecidableEq
structure Sl where
  ty : Ty
  keep : Bool
  bits : Int
  int_ : Int
  deriving DecidableEq
structure Ins where
  op : Int
  d : Int
  a : Int
  b : Int
  c : Int
  n : Int
  bits : Int
  deriving DecidableEq
structure Cd where
  sign : List Par
  regs : List Ty
  slots : List Sl
  list : List Ins
/-- A row: a letter for each of D, A, B, C, N. -/
structure Rw where
  d : Int
  a : Int
  b : Int
  c : Int
  n : Int
  deriving DecidableEq

def rowP (op : Int) : Rw :=
  if op = 1 then ⟨1, 0, 0, 0, 7⟩
  else if op = 2 then ⟨2, 0, 0, 0, 8⟩
  else if op = 3 then ⟨6, 5, 0, 0, 0⟩
  else if 4 ≤ op ∧ op ≤ 10 then ⟨4, 5, 5, 0, 0⟩
  else if 11 ≤ op ∧ op ≤ 14 then ⟨4, 5, 0, 0, 0⟩
  else if op = 15 then ⟨4, 5, 5, 5, 0⟩
  else if op = 16 then ⟨1, 1, 2, 0, 0⟩
  else if op = 17 then ⟨1, 2, 0, 0, 0⟩
  else if op = 18 then ⟨2, 1, 0, 0, 0⟩
  else if 19 ≤ op ∧ op ≤ 20 then ⟨1, 3, 0, 0, 0⟩
  else if op = 21 ∨ op = 25 then ⟨2, 2, 0, 0, 0⟩
  else if op = 26 then ⟨2, 2, 2, 2, 0⟩
  else if 22 ≤ op ∧ op ≤ 28 then ⟨2, 2, 2, 0, 0⟩
  else if 29 ≤ op ∧ op ≤ 30 then ⟨3, 0, 0, 0, 9⟩
  else if op = 31 then ⟨0, 3, 0, 0, 9⟩
  else if op = 32 then ⟨6, 0, 0, 0, 10⟩
  else if op = 33 then ⟨0, 6, 0, 0, 10⟩
  else if op = 34 then ⟨0, 2, 0, 0, 0⟩
  else if op = 36 then ⟨0, 0, 0, 0, 11⟩
  else ⟨0, 0, 0, 0, 0⟩
def knownP (op : Int) : Bool := decide (1 ≤ op) && decide (op ≤ 37)
def elemP (op : Int) : Bool := decide (3 ≤ op) && decide (op ≤ 15)
def loopedP (op : Int) : Bool := (decide (29 ≤ op) && decide (op ≤ 33)) || elemP op

def isPl (n : Int) (k : Nat) : Bool := decide (0 ≤ n) && decide (n < (k : Int))
def wholeB (n : Int) : Bool := decide (0 ≤ n) && decide (n ≤ 2147483647)
def toldB (a : Int) : Bool := decide ((if nan a then 2143289344 else a) = a)
def typeMay (t : Ty) (n : Nat) : Bool := if t.kind = 1 ∨ t.kind = 2 then t.par == 0 else if t.kind = 3 then isPl t.par n else false
def begins (s : Sl) : Bool := if s.ty.kind = 2 then s.bits == 0 && wholeB s.int_ else s.int_ == 0 && toldB s.bits
def slotMay (s : Sl) (n : Nat) : Bool := typeMay s.ty n && begins s
def regT (l : List Ty) (n : Int) : Ty := if isPl n l.length then (l[n.toNat]?).getD ⟨0, 0⟩ else ⟨0, 0⟩
def mainR (i : Ins) (r : Rw) : Int := if r.d = 0 then i.a else i.d
def mainT (l : List Ty) (i : Ins) (r : Rw) : Ty := regT l (mainR i r)
def meansP (l : Int) (t m : Ty) : Bool :=
  if l = 1 then t.kind == 1
  else if l = 2 then t.kind == 2
  else if l = 3 then t.kind == 3
  else if l = 4 then t.kind == 1 || t.kind == 3
  else if l = 5 then decide (t = m) || (t.kind == 1 && m.kind == 3)
  else decide (t = m)
def fitsReg (rs : List Ty) (l n : Int) (m : Ty) : Bool := if l = 0 then n == 0 else isPl n rs.length && meansP l (regT rs n) m
def kindOf (ps : List Par) (n : Int) : Int := ((ps[n.toNat]?).map fun p => p.kind).getD 0
def slotT (ss : List Sl) (n : Int) : Ty := ((ss[n.toNat]?).map fun s => s.ty).getD ⟨0, 0⟩
def fitsN (c : Cd) (n l : Int) (m : Ty) : Bool :=
  if l = 8 then wholeB n
  else if l = 9 then n == 0 || (n == 1 && kindOf c.sign m.par == 2)
  else if l = 10 then isPl n c.slots.length && decide (slotT c.slots n = m)
  else if l = 11 then isPl n c.sign.length
  else n == 0
def fitsRest (c : Cd) (i : Ins) (l : Int) (m : Ty) : Bool := if l = 7 then i.n == 0 && toldB i.bits else i.bits == 0 && fitsN c i.n l m
def fitsC (c : Cd) (i : Ins) (r : Rw) : Bool :=
  fitsReg c.regs r.d i.d (mainT c.regs i r) && (fitsReg c.regs r.a i.a (mainT c.regs i r) && (fitsReg c.regs r.b i.b (mainT c.regs i r) && (fitsReg c.regs r.c i.c (mainT c.regs i r) && fitsRest c i r.n (mainT c.regs i r))))

/-- A block that is open. -/
structure Bk where
  loop : Bool
  par : Int
  ahead : Nat
/-- What is set, in the order in which it was; the blocks that are open, the innermost first. -/
structure Wk where
  set : List Nat
  opens : List Bk
def inLoop (s : Wk) : Bool := match s.opens with | b :: _ => b.loop | [] => false
def innerP (s : Wk) : Int := match s.opens with | b :: _ => b.par | [] => 0
def mayStandP (c : Cd) (s : Wk) (i : Ins) (r : Rw) : Bool :=
  if i.op = 34 ∨ i.op = 36 then !inLoop s && decide (s.opens.length < 64)
  else if i.op = 35 then !s.opens.isEmpty && !inLoop s
  else if i.op = 37 then inLoop s
  else !inLoop s || (loopedP i.op && decide (mainT c.regs i r = ⟨3, innerP s⟩))
def readsP (i : Ins) (r : Rw) : List Int := (if r.a = 0 then [] else [i.a]) ++ ((if r.b = 0 then [] else [i.b]) ++ (if r.c = 0 then [] else [i.c]))
def leaveP (s : Wk) : Wk := match s.opens with
  | b :: r => ⟨if b.loop then s.set else s.set.take b.ahead, r⟩
  | [] => s
def turnP (s : Wk) (i : Ins) : Wk :=
  if i.op = 34 ∨ i.op = 36 then ⟨s.set, ⟨i.op == 36, i.n, s.set.length⟩ :: s.opens⟩ else if i.op = 35 ∨ i.op = 37 then leaveP s else s
def addP (s : Wk) (i : Ins) (r : Rw) : Wk := if r.d ≠ 0 ∧ i.d.toNat ∉ s.set then ⟨s.set ++ [i.d.toNat], s.opens⟩ else s
def passP (s : Wk) (i : Ins) (r : Rw) : Wk := addP (turnP s i) i r
def readOK (s : Wk) (i : Ins) (r : Rw) : Bool := (readsP i r).all fun n => decide (n.toNat ∈ s.set)
def takesP (c : Cd) (s : Wk) (i : Ins) : Bool := knownP i.op && (fitsC c i (rowP i.op) && (mayStandP c s i (rowP i.op) && readOK s i (rowP i.op)))
def stepP (s : Wk) (i : Ins) : Wk := passP s i (rowP i.op)
/-- The instructions from the place k on. -/
def goP (c : Cd) : Wk → Nat → List Ins → Int × Int
  | s, k, [] => if s.opens.isEmpty then (0, 0) else (160, k)
  | s, k, i :: r => if takesP c s i then goP c (stepP s i) (k + 1) r else (160, k)
def typesMay (c : Cd) : Bool := c.regs.all fun t => typeMay t c.sign.length
def slotsMay (c : Cd) : Bool := c.slots.all fun s => slotMay s c.sign.length
def aheadP (c : Cd) : Int :=
  if checkP c.sign ≠ 0 then checkP c.sign
  else if 16384 < c.regs.length ∨ 32768 < c.list.length then 181
  else if 4096 < c.slots.length then 180
  else if typesMay c && slotsMay c then 0 else 160
/-- IR1. -/
def checkC (c : Cd) : Int × Int := if aheadP c ≠ 0 then (aheadP c, -1) else goP c ⟨[], []⟩ 0 c.list

/- What holds of the walk's state. -/
def okO : Nat → List Bk → Prop
  | _, [] => True
  | n, b :: r => b.ahead ≤ n ∧ okO b.ahead r
theorem okO.mono : ∀ {r : List Bk} {n m : Nat}, okO n r → n ≤ m → okO m r
  | [], _, _, _, _ => trivial
  | b :: r, n, m, h, k => ⟨Nat.le_trans h.1 k, h.2⟩
structure OkS (n : Nat) (s : Wk) : Prop where
  nodup : s.set.Nodup
  lt : ∀ x ∈ s.set, x < n
  opens : okO s.set.length s.opens
  nest : s.opens.length ≤ 64
theorem OkS.start (n : Nat) : OkS n ⟨[], []⟩ := ⟨List.nodup_nil, fun x h => absurd h (by simp), trivial, Nat.zero_le _⟩
theorem OkS.leave {n : Nat} {s : Wk} (h : OkS n s) : OkS n (leaveP s) := by
  obtain ⟨X, O⟩ := s
  cases O with
  | nil => exact h
  | cons b r =>
    obtain ⟨h1, h2, ⟨h3, h4⟩, h5⟩ := h
    simp only [leaveP]
    simp only at h1 h2 h3 h4 h5
    split
    · exact ⟨h1, h2, h4.mono h3, by simp at h5 ⊢; omega⟩
    · refine ⟨List.Sublist.nodup (List.take_sublist _ _) h1, fun x hx => h2 x (List.mem_of_mem_take hx), ?_, by simp at h5 ⊢; omega⟩
      simp only [List.length_take]
      rw [Nat.min_eq_left h3]
      exact h4
theorem OkS.turn {n : Nat} {s : Wk} {i : Ins} (h : OkS n s) (hm : i.op = 34 ∨ i.op = 36 → s.opens.length < 64) : OkS n (turnP s i) := by
  unfold turnP
  split
  · rename_i e
    exact ⟨h.nodup, h.lt, ⟨Nat.le_refl _, h.opens⟩, by have := hm e; simp; omega⟩
  · split
    · exact h.leave
    · exact h
theorem OkS.add {n : Nat} {s : Wk} {i : Ins} {r : Rw} (h : OkS n s) (hd : r.d ≠ 0 → i.d.toNat < n) : OkS n (addP s i r) := by
  unfold addP
  split
  · rename_i e
    refine ⟨?_, fun x hx => ?_, h.opens.mono (by simp), h.nest⟩
    · rw [List.nodup_append]
      refine ⟨h.nodup, by simp, fun a ha b hb => ?_⟩
      simp at hb
      subst hb
      exact fun e' => e.2 (e' ▸ ha)
    · rcases List.mem_append.1 hx with hx | hx
      · exact h.lt x hx
      · simp at hx; subst hx; exact hd e.1
  · exact h
theorem nodup_le : ∀ {n : Nat} {l : List Nat}, l.Nodup → (∀ x ∈ l, x < n) → l.length ≤ n := by
  intro n
  induction n with
  | zero => intro l _ h; cases l with
    | nil => exact Nat.le_refl _
    | cons a t => exact absurd (h a (by simp)) (Nat.not_lt_zero _)
  | succ n ih =>
    intro l hd h
    have h1 := ih (l := l.erase n) (hd.erase n) fun x hx => by
      have h2 := h x (List.mem_of_mem_erase hx)
      have h3 : x ≠ n := fun e => by
        subst e
        exact (List.Nodup.not_mem_erase hd) hx
      omega
    have h2 : l.length ≤ (l.erase n).length + 1 := by
      rw [List.length_erase]
      split <;> omega
    omega
theorem OkS.len {n : Nat} {s : Wk} (h : OkS n s) : s.set.length ≤ n := nodup_le h.nodup h.lt

theorem isPl_iff {n : Int} {k : Nat} : isPl n k = true ↔ 0 ≤ n ∧ n < (k : Int) := by unfold isPl; simp
theorem fitsReg_lt {rs : List Ty} {l n : Int} {m : Ty} (h : fitsReg rs l n m = true) (hl : l ≠ 0) : 0 ≤ n ∧ n < (rs.length : Int) := by
  unfold fitsReg at h
  rw [if_neg hl] at h
  simp only [Bool.and_eq_true] at h
  exact isPl_iff.1 h.1
theorem fitsC_d {c : Cd} {i : Ins} {r : Rw} (h : fitsC c i r = true) : fitsReg c.regs r.d i.d (mainT c.regs i r) = true := by
  unfold fitsC at h; simp only [Bool.and_eq_true] at h; exact h.1
theorem fitsC_a {c : Cd} {i : Ins} {r : Rw} (h : fitsC c i r = true) : fitsReg c.regs r.a i.a (mainT c.regs i r) = true := by
  unfold fitsC at h; simp only [Bool.and_eq_true] at h; exact h.2.1
theorem fitsC_b {c : Cd} {i : Ins} {r : Rw} (h : fitsC c i r = true) : fitsReg c.regs r.b i.b (mainT c.regs i r) = true := by
  unfold fitsC at h; simp only [Bool.and_eq_true] at h; exact h.2.2.1
theorem fitsC_c {c : Cd} {i : Ins} {r : Rw} (h : fitsC c i r = true) : fitsReg c.regs r.c i.c (mainT c.regs i r) = true := by
  unfold fitsC at h; simp only [Bool.and_eq_true] at h; exact h.2.2.2.1
theorem takes_open {c : Cd} {s : Wk} {i : Ins} (h : takesP c s i = true) : knownP i.op = true ∧ fitsC c i (rowP i.op) = true ∧ mayStandP c s i (rowP i.op) = true ∧ readOK s i (rowP i.op) = true := by
  unfold takesP at h; simp only [Bool.and_eq_true] at h; exact h
theorem stand_open {c : Cd} {s : Wk} {i : Ins} {r : Rw} (h : mayStandP c s i r = true) (e : i.op = 34 ∨ i.op = 36) : s.opens.length < 64 := by
  unfold mayStandP at h
  rw [if_pos e] at h
  simp only [Bool.and_eq_true, decide_eq_true_eq] at h
  exact h.2
theorem OkS.step {c : Cd} {s : Wk} {i : Ins} (h : OkS c.regs.length s) (t : takesP c s i = true) : OkS c.regs.length (stepP s i) := by
  obtain ⟨_, h2, h3, _⟩ := takes_open t
  refine (h.turn (stand_open h3)).add fun hd => ?_
  have := fitsReg_lt (fitsC_d h2) hd
  omega


end Go.Proofs.Ytgnjhjkbnchdmaa
/- Layer 16: package bits beneath it. -/
namespace Go.Proofs.Ytgnjhjkbnchdmaa
open Go.RowKit
set_option linter.unusedVariables false
set_option linter.unusedSimpArgs false

set_option maxHeartbeats 400000 in
theorem parts_any (a : Int) (h0 : 0 ≤ a) (h1 : a < 4294967296) (w : World) :
    Calls Try.prog 69 #[.int .u32 a] w fun e w' => e = .returned (.tuple #[.bool (decide (2147483648 ≤ a)), .int .i64 (a / 8388608 % 256), .int .i64 (a % 8388608)]) ∧ w' = w := by
  have e1 := and_sign_ne a h0 h1
  have e2 := and_8 (a / 8388608) (by omega) (by omega)
  have e3 := and_23 a h0 h1
  go_enter Try.func69, Try.ntmps69
  go_wp2
  go_ret3
  exact ⟨rfl, rfl⟩

set_option maxHeartbeats 400000 in
theorem class_any (a : Int) (h0 : 0 ≤ a) (h1 : a < 4294967296) (w : World) :
    Calls Try.prog 67 #[.int .u32 a] w fun e w' => e = .returned (.int .i64 (cls a)) ∧ w' = w := by
  by_cases c1 : a / 8388608 % 256 = 255
  · by_cases c2 : a % 8388608 = 0
    · have hc : cls a = 4 := by unfold cls; rw [if_pos c1, if_pos c2]
      rw [hc]; clear hc
      go_enter Try.func67, Try.ntmps67
      go_wp2_with (go_at_call 69; refine (parts_any _ h0 h1 _).mono ?_; rintro e w' ⟨rfl, rfl⟩)
      go_ret
      exact ⟨rfl, rfl⟩
    · have hc : cls a = 5 := by unfold cls; rw [if_pos c1, if_neg c2]
      rw [hc]; clear hc
      go_enter Try.func67, Try.ntmps67
      go_wp2_with (go_at_call 69; refine (parts_any _ h0 h1 _).mono ?_; rintro e w' ⟨rfl, rfl⟩)
      go_ret
      exact ⟨rfl, rfl⟩
  · by_cases c2 : a / 8388608 % 256 = 0
    · by_cases c3 : a % 8388608 = 0
      · have hc : cls a = 1 := by unfold cls; rw [if_neg c1, if_pos c2, if_pos c3]
        rw [hc]; clear hc
        go_enter Try.func67, Try.ntmps67
        go_wp2_with (go_at_call 69; refine (parts_any _ h0 h1 _).mono ?_; rintro e w' ⟨rfl, rfl⟩)
        go_ret
        exact ⟨rfl, rfl⟩
      · have hc : cls a = 2 := by unfold cls; rw [if_neg c1, if_pos c2, if_neg c3]
        rw [hc]; clear hc
        go_enter Try.func67, Try.ntmps67
        go_wp2_with (go_at_call 69; refine (parts_any _ h0 h1 _).mono ?_; rintro e w' ⟨rfl, rfl⟩)
        go_ret
        exact ⟨rfl, rfl⟩
    · have hc : cls a = 3 := by unfold cls; rw [if_neg c1, if_neg c2]
      rw [hc]; clear hc
      go_enter Try.func67, Try.ntmps67
      go_wp2_with (go_at_call 69; refine (parts_any _ h0 h1 _).mono ?_; rintro e w' ⟨rfl, rfl⟩)
      go_ret
      exact ⟨rfl, rfl⟩

theorem class_nan (a : Int) (h0 : 0 ≤ a) (h1 : a < 4294967296) (hn : nan a = true) (w : World) :
    Calls Try.prog 67 #[.int .u32 a] w fun e w' => e = .returned (.int .i64 5) ∧ w' = w := by
  have := class_any a h0 h1 w
  rwa [cls_nan a hn h0 h1] at this

set_option maxHeartbeats 400000 in
theorem canon_any (a : Int) (h0 : 0 ≤ a) (h1 : a < 4294967296) (w : World) :
    Calls Try.prog 65 #[.int .u32 a] w fun e w' => e = .returned (.int .u32 (canon a)) ∧ w' = w := by
  cases hn : nan a
  · have hc : canon a = a := by unfold canon; simp [hn]
    have h5 : (cls a == 5) = false := by have := cls_num a hn h0 h1; simpa using this
    rw [hc]; clear hc hn
    go_enter Try.func65, Try.ntmps65
    go_wp2_with (go_at_call 67; refine (class_any _ h0 h1 _).mono ?_; rintro e w' ⟨rfl, rfl⟩)
    go_ret
    exact ⟨rfl, rfl⟩
  · have hc : canon a = 2143289344 := by unfold canon; simp [hn]
    rw [hc]; clear hc
    go_enter Try.func65, Try.ntmps65
    go_wp2_with (go_at_call 67; refine (class_nan _ h0 h1 hn _).mono ?_; rintro e w' ⟨rfl, rfl⟩)
    go_ret
    exact ⟨rfl, rfl⟩

end Go.Proofs.Ytgnjhjkbnchdmaa
/- Layer 16: code as it lies in memory. -/
namespace Go.Proofs.Ytgnjhjkbnchdmaa
open Go.RowKit
set_option linter.unusedVariables false
set_option linter.unusedSimpArgs false

def tyC (t : Ty) : List Value := [.int .i64 t.kind, .int .i64 t.par]
def slC (s : Sl) : List Value := [.int .i64 s.ty.kind, .int .i64 s.ty.par, .bool s.keep, .int .u32 s.bits, .int .i64 s.int_]
def inC (i : Ins) : List Value := [.int .i64 i.op, .int .i64 i.d, .int .i64 i.a, .int .i64 i.b, .int .i64 i.c, .int .i64 i.n, .int .u32 i.bits]
theorem inC_len (t : Ins) : (inC t).length = 7 := rfl
def tyV (t : Ty) : Value := .agg #[.int .i64 t.kind, .int .i64 t.par]
def rwV (r : Rw) : Value := .agg #[.int .i64 r.d, .int .i64 r.a, .int .i64 r.b, .int .i64 r.c, .int .i64 r.n]

theorem kc {w w' : World} (k : Below w.heap.size w w') {a : Addr} {v : Value} (h : w.cell? a = some v) : w'.cell? a = some v := (k.cell (mcell_lt h)).trans h
theorem kf {w w' : World} (k : Below w.heap.size w w') {a : Addr} {v : Value} (h : w.cell? a = some v) (f : w.frozen? a = false) : w'.frozen? a = false := (k.frozen (mcell_lt h)).trans f
/-- Cells from a place on. -/
def CellsAt (w : World) (b o : Nat) (cs : List Value) : Prop := ∀ j (h : j < cs.length), w.cell? ⟨b, o + j, none⟩ = some cs[j]
theorem CellsAt.below {w w' : World} {b o : Nat} {cs : List Value} (h : CellsAt w b o cs) (k : Below w.heap.size w w') : CellsAt w' b o cs := fun j hj => (k.cell (mcell_lt (h j hj))).trans (h j hj)
theorem CellsAt.at {w : World} {b o : Nat} {cs : List Value} (h : CellsAt w b o cs) (j : Nat) {v : Value} (e : cs[j]? = some v) : w.cell? ⟨b, o + j, none⟩ = some v := by
  obtain ⟨hj, e⟩ := List.getElem?_eq_some_iff.1 e
  rw [h j hj, e]
/-- A slice that reads as these, k cells each. -/
def RowG {α : Type} (k : Nat) (f : α → List Value) (w : World) (v : Value) (l : List α) : Prop :=
  ∃ p c, v = .slice p l.length c ∧ (l = [] ∨ ∃ b o, p = some ⟨b, o, none⟩ ∧ ∀ i (h : i < l.length), CellsAt w b (o + i * k) (f l[i]))
theorem RowG.below {α : Type} {k : Nat} {f : α → List Value} {w w' : World} {v : Value} {l : List α} (h : RowG k f w v l) (q : Below w.heap.size w w') : RowG k f w' v l := by
  obtain ⟨p, c, hv, h⟩ := h
  exact ⟨p, c, hv, h.imp id fun ⟨b, o, hp, h⟩ => ⟨b, o, hp, fun i hi => (h i hi).below q⟩⟩
theorem RowG.at {α : Type} {k : Nat} {f : α → List Value} {w : World} {p : Option Addr} {n c : Nat} {l : List α} (h : RowG k f w (.slice p n c) l) {i : Nat} (hi : i < l.length) : ∃ b o, p = some ⟨b, o, none⟩ ∧ CellsAt w b (o + i * k) (f l[i]) := by
  obtain ⟨p', c', hv, h⟩ := h
  simp only [Value.slice.injEq] at hv
  obtain ⟨rfl, rfl, rfl⟩ := hv
  rcases h with h | ⟨b, o, hp, h⟩
  · rw [h] at hi; exact absurd hi (Nat.not_lt_zero _)
  · exact ⟨b, o, hp, h i hi⟩
theorem RowG.rd {w : World} {v : Value} {l : List Par} (h : RowG 3 parCells w v l) : Rd w v l := by
  obtain ⟨p, c, hv, h⟩ := h
  exact ⟨p, c, hv, h.imp id fun ⟨b, o, hp, h⟩ => ⟨b, o, hp, fun i hi => ⟨(h i hi).at 0 rfl, (h i hi).at 1 rfl, (h i hi).at 2 rfl⟩⟩⟩

/-- Code at a place: its four lists. -/
structure CdV (w : World) (v0 v1 v2 v3 : Value) (c : Cd) : Prop where
  sign : RowG 3 parCells w v0 c.sign
  regs : RowG 2 tyC w v1 c.regs
  slots : RowG 5 slC w v2 c.slots
  list : RowG 7 inC w v3 c.list
theorem CdV.below {w w' : World} {v0 v1 v2 v3 : Value} {c : Cd} (h : CdV w v0 v1 v2 v3 c) (k : Below w.heap.size w w') : CdV w' v0 v1 v2 v3 c := ⟨h.sign.below k, h.regs.below k, h.slots.below k, h.list.below k⟩
def CdAt (w : World) (C : Nat) (v0 v1 v2 v3 : Value) (c : Cd) : Prop := CellsAt w C 0 [v0, v1, v2, v3] ∧ CdV w v0 v1 v2 v3 c
theorem CdAt.below {w w' : World} {C : Nat} {v0 v1 v2 v3 : Value} {c : Cd} (h : CdAt w C v0 v1 v2 v3 c) (k : Below w.heap.size w w') : CdAt w' C v0 v1 v2 v3 c := ⟨h.1.below k, h.2.below k⟩
/-- What is known of code that came in. -/
structure CdOk (c : Cd) : Prop where
  signL : c.sign.length ≤ 140737488351232
  names : ∀ p ∈ c.sign, p.name.size ≤ 140737488351232
  regsL : c.regs.length ≤ 140737488351232
  slotsL : c.slots.length ≤ 140737488351232
  listL : c.list.length ≤ 140737488351232
  sbits : ∀ s ∈ c.slots, 0 ≤ s.bits ∧ s.bits < 4294967296
  ibits : ∀ i ∈ c.list, 0 ≤ i.bits ∧ i.bits < 4294967296

end Go.Proofs.Ytgnjhjkbnchdmaa
/- Package ir: the small questions. -/
namespace Go.Proofs.Ytgnjhjkbnchdmaa
open Go.RowKit
set_option linter.unusedVariables false
set_option linter.unusedSimpArgs false

set_option maxRecDepth 100000 in
set_option maxHeartbeats 1000000 in
theorem isPlace_any (n : Int) (k : Nat) (w : World) : Calls Try.prog 56 #[.int .i64 n, .int .i64 k] w fun e w' => e = .returned (.bool (isPl n k)) ∧ w' = w := by
  unfold isPl
  by_cases h : 0 ≤ n
  all_goals
    go_enter Try.func56, Try.ntmps56
    go_wp2
    go_ret
    exact ⟨ret_bool (by simp [h]; try omega), rfl⟩

set_option maxRecDepth 100000 in
set_option maxHeartbeats 1000000 in
theorem isWhole_any (n : Int) (w : World) : Calls Try.prog 57 #[.int .i64 n] w fun e w' => e = .returned (.bool (wholeB n)) ∧ w' = w := by
  unfold wholeB
  by_cases h : 0 ≤ n
  all_goals
    go_enter Try.func57, Try.ntmps57
    go_wp2
    go_ret
    exact ⟨ret_bool (by simp [h]; try omega), rfl⟩

set_option maxRecDepth 100000 in
set_option maxHeartbeats 1000000 in
theorem isTold_any (a : Int) (h0 : 0 ≤ a) (h1 : a < 4294967296) (w : World) : Calls Try.prog 58 #[.int .u32 a] w fun e w' => e = .returned (.bool (toldB a)) ∧ w' = w := by
  have hc : toldB a = (canon a == a) := by unfold toldB canon; cases nan a <;> rw [Bool.eq_iff_iff] <;> simp
  rw [hc]
  have HK : Hid (∀ w, Calls Try.prog 65 #[.int .u32 a] w fun e w' => e = .returned (.int .u32 (canon a)) ∧ w' = w) := canon_any a h0 h1
  clear hc
  obtain ⟨x, hx⟩ : ∃ x, canon a = x := ⟨_, rfl⟩
  rw [hx] at HK ⊢
  clear hx
  go_enter Try.func58, Try.ntmps58
  go_wp2_with (go_at_call 65; refine (HK.out _).mono ?_; rintro e w1 ⟨rfl, rfl⟩)
  go_ret
  exact ⟨rfl, rfl⟩

set_option maxRecDepth 100000 in
set_option maxHeartbeats 1000000 in
theorem typeMayBe_any (t : Ty) (p : Option Addr) (n c : Nat) (hn : n ≤ 140737488351232) (w : World) : Calls Try.prog 38 #[tyV t, .slice p n c] w fun e w' => e = .returned (.bool (typeMay t n)) ∧ Below w.heap.size w w' := by
  obtain ⟨K, P⟩ := t
  have HK : Hid (∀ w, Calls Try.prog 56 #[.int .i64 P, .int .i64 n] w fun e w' => e = .returned (.bool (isPl P n)) ∧ w' = w) := isPlace_any P n
  unfold typeMay tyV
  simp only
  by_cases h1 : K = 1
  · subst h1
    rw [if_pos (Or.inl rfl)]
    go_enter Try.func38, Try.ntmps38
    go_wp2
    go_ret
    exact ⟨rfl, bel_alloc _ _⟩
  · by_cases h2 : K = 2
    · subst h2
      rw [if_pos (Or.inr rfl)]
      go_enter Try.func38, Try.ntmps38
      go_wp2
      go_ret
      exact ⟨rfl, bel_alloc _ _⟩
    · rw [if_neg (fun e => e.elim h1 h2)]
      have h1' : (K == 1) = false := by simpa using h1
      have h2' : (K == 2) = false := by simpa using h2
      by_cases h3 : K = 3
      · subst h3
        rw [if_pos rfl]
        go_enter Try.func38, Try.ntmps38
        go_wp2_with (go_at_call 56; refine (HK.out _).mono ?_; rintro e w1 ⟨rfl, rfl⟩)
        go_ret
        exact ⟨rfl, bel_alloc _ _⟩
      · rw [if_neg h3]
        have h3' : (K == 3) = false := by simpa using h3
        clear h1 h2 h3
        go_enter Try.func38, Try.ntmps38
        go_wp2
        go_ret
        exact ⟨rfl, bel_alloc _ _⟩

def slV (s : Sl) : Value := .agg #[.int .i64 s.ty.kind, .int .i64 s.ty.par, .bool s.keep, .int .u32 s.bits, .int .i64 s.int_]

set_option maxRecDepth 100000 in
set_option maxHeartbeats 1000000 in
theorem begins_any (s : Sl) (h0 : 0 ≤ s.bits) (h1 : s.bits < 4294967296) (w : World) : Calls Try.prog 39 #[slV s] w fun e w' => e = .returned (.bool (begins s)) ∧ Below w.heap.size w w' := by
  have HK : Hid (∀ w, Calls Try.prog 58 #[.int .u32 s.bits] w fun e w' => e = .returned (.bool (toldB s.bits)) ∧ w' = w) := isTold_any s.bits h0 h1
  have HL : Hid (∀ w, Calls Try.prog 57 #[.int .i64 s.int_] w fun e w' => e = .returned (.bool (wholeB s.int_)) ∧ w' = w) := isWhole_any s.int_
  obtain ⟨⟨K, P⟩, Q, B, I⟩ := s
  unfold begins slV
  simp only at HK HL h0 h1 ⊢
  obtain ⟨X, hX⟩ : ∃ X, toldB B = X := ⟨_, rfl⟩
  obtain ⟨Y, hY⟩ : ∃ Y, wholeB I = Y := ⟨_, rfl⟩
  rw [hX] at HK ⊢
  rw [hY] at HL ⊢
  clear hX hY
  by_cases h2 : K = 2
  · subst h2
    rw [if_pos rfl]
    cases hb : (B == 0)
    all_goals
      go_enter Try.func39, Try.ntmps39
      go_wp2_with (go_at_call 57; refine (HL.out _).mono ?_; rintro e w1 ⟨rfl, rfl⟩)
      go_ret
      exact ⟨ret_bool (by simp [hb]), bel_alloc _ _⟩
  · rw [if_neg h2]
    have h2' : (K == 2) = false := by simpa using h2
    clear h2
    cases hb : (I == 0)
    all_goals
      go_enter Try.func39, Try.ntmps39
      go_wp2_with (go_at_call 58; refine (HK.out _).mono ?_; rintro e w1 ⟨rfl, rfl⟩)
      go_ret
      exact ⟨ret_bool (by simp [hb]), bel_alloc _ _⟩

end Go.Proofs.Ytgnjhjkbnchdmaa
/- Package ir: which registers a letter means. -/
namespace Go.Proofs.Ytgnjhjkbnchdmaa
open Go.RowKit
set_option linter.unusedVariables false
set_option linter.unusedSimpArgs false

theorem ty_eq (K P L Q : Int) : decide ((⟨K, P⟩ : Ty) = ⟨L, Q⟩) = (K == L && P == Q) := by
  rw [Bool.eq_iff_iff]; simp

set_option maxRecDepth 100000 in
set_option maxHeartbeats 2000000 in
theorem means_any (l : Int) (t m : Ty) (w : World) : Calls Try.prog 59 #[.int .i64 l, tyV t, tyV m] w fun e w' => e = .returned (.bool (meansP l t m)) ∧ Below w.heap.size w w' := by
  obtain ⟨K, P⟩ := t
  obtain ⟨L, Q⟩ := m
  unfold meansP tyV
  simp only [ty_eq]
  by_cases h1 : l = 1
  · subst h1
    rw [if_pos rfl]
    go_enter Try.func59, Try.ntmps59
    go_wp2
    go_ret
    exact ⟨rfl, bel (bel_alloc _ _) (bel_alloc _ _)⟩
  rw [if_neg h1]
  by_cases h2 : l = 2
  · subst h2
    rw [if_pos rfl]
    clear h1
    go_enter Try.func59, Try.ntmps59
    go_wp2
    go_ret
    exact ⟨rfl, bel (bel_alloc _ _) (bel_alloc _ _)⟩
  rw [if_neg h2]
  by_cases h3 : l = 3
  · subst h3
    rw [if_pos rfl]
    clear h1 h2
    go_enter Try.func59, Try.ntmps59
    go_wp2
    go_ret
    exact ⟨rfl, bel (bel_alloc _ _) (bel_alloc _ _)⟩
  rw [if_neg h3]
  by_cases h4 : l = 4
  · subst h4
    rw [if_pos rfl]
    clear h1 h2 h3
    cases hk : (K == 1)
    all_goals
      go_enter Try.func59, Try.ntmps59
      go_wp2
      go_ret
      exact ⟨ret_bool (by simp [hk]), bel (bel_alloc _ _) (bel_alloc _ _)⟩
  rw [if_neg h4]
  by_cases h5 : l = 5
  · subst h5
    rw [if_pos rfl]
    clear h1 h2 h3 h4
    cases hk : (K == 1) <;> cases hl : (K == L) <;> cases hq : (P == Q)
    all_goals
      go_enter Try.func59, Try.ntmps59
      go_wp2
      go_ret
      exact ⟨ret_bool (by simp [hk, hl, hq]), bel (bel_alloc _ _) (bel_alloc _ _)⟩
  rw [if_neg h5]
  have h1' : (l == 1) = false := by simpa using h1
  have h2' : (l == 2) = false := by simpa using h2
  have h3' : (l == 3) = false := by simpa using h3
  have h4' : (l == 4) = false := by simpa using h4
  have h5' : (l == 5) = false := by simpa using h5
  clear h1 h2 h3 h4 h5
  go_enter Try.func59, Try.ntmps59
  go_wp2
  all_goals
    go_ret
    exact ⟨ret_bool (by simp [*]), bel (bel_alloc _ _) (bel_alloc _ _)⟩

end Go.Proofs.Ytgnjhjkbnchdmaa
/- Package ir: what fits a row: a register, N, Bits. -/
namespace Go.Proofs.Ytgnjhjkbnchdmaa
open Go.RowKit
set_option linter.unusedVariables false
set_option linter.unusedSimpArgs false

theorem regT_at {l : List Ty} {n : Int} {k : Nat} (h : n = (k : Int)) (hk : k < l.length) : regT l n = l[k] := by
  subst h
  unfold regT
  rw [if_pos (isPl_iff.2 ⟨by omega, by omega⟩), Int.toNat_natCast, List.getElem?_eq_getElem hk]
  rfl
theorem pl_nat {n : Int} {k : Nat} (h : isPl n k = true) : ∃ m : Nat, n = (m : Int) ∧ m < k := by
  obtain ⟨h0, h1⟩ := isPl_iff.1 h
  exact ⟨n.toNat, by omega, by omega⟩

set_option maxRecDepth 100000 in
set_option maxHeartbeats 2000000 in
theorem fitsRegister_any (C : Nat) (v0 v1 v2 v3 : Value) (c : Cd) (hk : CdOk c) (l n : Int) (m : Ty) (w : World) (hc : CdAt w C v0 v1 v2 v3 c) :
    Calls Try.prog 42 #[.pointer (some ⟨C, 0, none⟩), .int .i64 l, .int .i64 n, tyV m] w fun e w' => e = .returned (.bool (fitsReg c.regs l n m)) ∧ Below w.heap.size w w' := by
  unfold fitsReg
  by_cases h0 : l = 0
  · subst h0
    rw [if_pos rfl]
    unfold tyV
    go_enter Try.func42, Try.ntmps42
    go_wp2
    go_ret
    exact ⟨rfl, bel_alloc _ _⟩
  rw [if_neg h0]
  have h0' : (l == 0) = false := by simpa using h0
  clear h0
  have HB := hk.regsL
  have K1 := isPlace_any n c.regs.length
  obtain ⟨hcc, hcv⟩ := hc
  have c1 := hcc.at 1 rfl
  rw [Nat.zero_add] at c1
  have hr := hcv.regs
  obtain ⟨p, q, rfl, hrr⟩ := hcv.regs
  have HN : Hid (c.regs.length = c.regs.length) := rfl
  obtain ⟨X, hX⟩ : ∃ X, isPl n c.regs.length = X := ⟨_, rfl⟩
  simp only [hX] at K1
  rw [hX]
  have hC := mcell_lt c1
  simp only at hC
  cases X
  · clear hr hrr hcc hcv
    obtain ⟨N, hN⟩ : ∃ N, c.regs.length = N := ⟨_, rfl⟩
    rw [hN] at K1 c1 HB
    have HK : Hid (∀ w, Calls Try.prog 56 #[.int .i64 n, .int .i64 N] w fun e w' => e = .returned (.bool false) ∧ w' = w) := K1
    clear hN K1 hX HN
    obtain ⟨A, B⟩ := m
    unfold tyV
    go_enter Try.func42, Try.ntmps42
    go_wp2
    have hC' : C ≠ w.heap.size := by omega
    refine wp_region_held_drew (S := (fun v => v.cell? ⟨C, 1, none⟩ = some (.slice p N q))) (by kernel_rfl) ?_ (fun hHeld => ?_)
    · ((try dsimp only); go_keep)
    refine wpAnyH_take (i := 0) (v := ?_) (by simp only [List.getElem?_toArray, List.getElem?_cons_succ, List.getElem?_cons_zero]; rfl) (by kernel_rfl) (by kernel_rfl) (by kernel_rfl) (by exact fun _ _ _ h => h) (Or.inl ⟨by rfl, ?_⟩) (by assumption) ?_
    rotate_left 1
    · (intro wS hSw; (try dsimp only at hSw); go_simp; try (with_reducible rfl))
    try simp only [Act.put, List.setIfInBounds_toArray, List.set_cons_zero, List.set_cons_succ]
    refine wpAnyH_take (i := 1) (v := ?_) (by simp only [List.getElem?_toArray, List.getElem?_cons_succ, List.getElem?_cons_zero]; rfl) (by kernel_rfl) (by kernel_rfl) (by kernel_rfl) (by exact fun _ _ _ h => h) (Or.inl ⟨by rfl, ?_⟩) (by assumption) ?_
    rotate_left 1
    · (intro wS hSw; (try dsimp only at hSw); go_simp; try (with_reducible rfl))
    try simp only [Act.put, List.setIfInBounds_toArray, List.set_cons_zero, List.set_cons_succ]
    refine wpAnyH_take (i := 2) (v := ?_) (by simp only [List.getElem?_toArray, List.getElem?_cons_succ, List.getElem?_cons_zero]; rfl) (by kernel_rfl) (by kernel_rfl) (by kernel_rfl) (by exact fun _ _ _ h => h) (Or.inl ⟨by rfl, ?_⟩) (by assumption) ?_
    rotate_left 1
    · (intro wS hSw; (try dsimp only at hSw); go_simp; try (with_reducible rfl))
    try simp only [Act.put, List.setIfInBounds_toArray, List.set_cons_zero, List.set_cons_succ]
    refine wpAnyH_take (i := 3) (v := ?_) (by simp only [List.getElem?_toArray, List.getElem?_cons_succ, List.getElem?_cons_zero]; rfl) (by kernel_rfl) (by kernel_rfl) (by kernel_rfl) (by exact fun _ _ _ h => h) (Or.inl ⟨by rfl, ?_⟩) (by assumption) ?_
    rotate_left 1
    · (intro wS hSw; (try dsimp only at hSw); go_simp; try (with_reducible rfl))
    try simp only [Act.put, List.setIfInBounds_toArray, List.set_cons_zero, List.set_cons_succ]
    refine wpAnyH_take (i := 4) (v := ?_) (by simp only [List.getElem?_toArray, List.getElem?_cons_succ, List.getElem?_cons_zero]; rfl) (by kernel_rfl) (by kernel_rfl) (by kernel_rfl) (by exact fun _ _ _ h => h) (Or.inl ⟨by rfl, ?_⟩) (by assumption) ?_
    rotate_left 1
    · (intro wS hSw; (try dsimp only at hSw); go_simp; try (with_reducible rfl))
    try simp only [Act.put, List.setIfInBounds_toArray, List.set_cons_zero, List.set_cons_succ]
    refine wpAnyH_take (i := 5) (v := ?_) (by simp only [List.getElem?_toArray, List.getElem?_cons_succ, List.getElem?_cons_zero]; rfl) (by kernel_rfl) (by kernel_rfl) (by kernel_rfl) (by exact fun _ _ _ h => h) (Or.inl ⟨by rfl, ?_⟩) (by assumption) ?_
    rotate_left 1
    · (intro wS hSw; (try dsimp only at hSw); go_simp; try (with_reducible rfl))
    try simp only [Act.put, List.setIfInBounds_toArray, List.set_cons_zero, List.set_cons_succ]
    clear hHeld
    refine wpAnyH_ready (rs := [6]) (by kernel_rfl) (by simp) ?_
    refine AllReadyH.cons (i := 6) (by simp only [List.getElem?_toArray, List.getElem?_cons_succ, List.getElem?_cons_zero]; rfl) (fun K hK => ?_) AllReadyH.nil
    go_simp
    (go_at_call 56; refine (HK.out _).mono ?_; rintro e w1 ⟨rfl, rfl⟩)
    try (go_wp2_with fail)
    refine hK.out _ _ ?_ (fun hHeld => ?_)
    · ((try dsimp only); go_keep)
    clear hK K
    try simp only [Act.put, List.setIfInBounds_toArray, List.set_cons_zero, List.set_cons_succ]
    refine wpAnyH_take (i := 7) (v := ?_) (by simp only [List.getElem?_toArray, List.getElem?_cons_succ, List.getElem?_cons_zero]; rfl) (by kernel_rfl) (by kernel_rfl) (by kernel_rfl) (by exact fun _ _ _ h => h) (Or.inl ⟨by rfl, ?_⟩) (by assumption) ?_
    rotate_left 1
    · (intro wS hSw; (try dsimp only at hSw); go_simp; try (with_reducible rfl))
    try simp only [Act.put, List.setIfInBounds_toArray, List.set_cons_zero, List.set_cons_succ]
    refine wpAnyH_take (i := 8) (v := undef) (by simp only [List.getElem?_toArray, List.getElem?_cons_succ, List.getElem?_cons_zero]; rfl) (by kernel_rfl) (by kernel_rfl) (by kernel_rfl) (by exact fun _ _ _ h => h) (Or.inr ⟨by rfl, rfl⟩) (by assumption) ?_
    try simp only [Act.put, List.setIfInBounds_toArray, List.set_cons_zero, List.set_cons_succ]
    refine wpAnyH_take (i := 9) (v := undef) (by simp only [List.getElem?_toArray, List.getElem?_cons_succ, List.getElem?_cons_zero]; rfl) (by kernel_rfl) (by kernel_rfl) (by kernel_rfl) (by exact fun _ _ _ h => h) (Or.inr ⟨by rfl, rfl⟩) (by assumption) ?_
    try simp only [Act.put, List.setIfInBounds_toArray, List.set_cons_zero, List.set_cons_succ]
    refine wpAnyH_take (i := 10) (v := undef) (by simp only [List.getElem?_toArray, List.getElem?_cons_succ, List.getElem?_cons_zero]; rfl) (by kernel_rfl) (by kernel_rfl) (by kernel_rfl) (by exact fun _ _ _ h => h) (Or.inr ⟨by rfl, rfl⟩) (by assumption) ?_
    try simp only [Act.put, List.setIfInBounds_toArray, List.set_cons_zero, List.set_cons_succ]
    refine wpAnyH_take (i := 11) (v := undef) (by simp only [List.getElem?_toArray, List.getElem?_cons_succ, List.getElem?_cons_zero]; rfl) (by kernel_rfl) (by kernel_rfl) (by kernel_rfl) (by exact fun _ _ _ h => h) (Or.inr ⟨by rfl, rfl⟩) (by assumption) ?_
    try simp only [Act.put, List.setIfInBounds_toArray, List.set_cons_zero, List.set_cons_succ]
    refine wpAnyH_take (i := 12) (v := undef) (by simp only [List.getElem?_toArray, List.getElem?_cons_succ, List.getElem?_cons_zero]; rfl) (by kernel_rfl) (by kernel_rfl) (by kernel_rfl) (by exact fun _ _ _ h => h) (Or.inr ⟨by rfl, rfl⟩) (by assumption) ?_
    try simp only [Act.put, List.setIfInBounds_toArray, List.set_cons_zero, List.set_cons_succ]
    refine wpAnyH_take (i := 13) (v := undef) (by simp only [List.getElem?_toArray, List.getElem?_cons_succ, List.getElem?_cons_zero]; rfl) (by kernel_rfl) (by kernel_rfl) (by kernel_rfl) (by exact fun _ _ _ h => h) (Or.inr ⟨by rfl, rfl⟩) (by assumption) ?_
    try simp only [Act.put, List.setIfInBounds_toArray, List.set_cons_zero, List.set_cons_succ]
    refine wpAnyH_take (i := 14) (v := undef) (by simp only [List.getElem?_toArray, List.getElem?_cons_succ, List.getElem?_cons_zero]; rfl) (by kernel_rfl) (by kernel_rfl) (by kernel_rfl) (by exact fun _ _ _ h => h) (Or.inr ⟨by rfl, rfl⟩) (by assumption) ?_
    try simp only [Act.put, List.setIfInBounds_toArray, List.set_cons_zero, List.set_cons_succ]
    refine wpAnyH_take (i := 15) (v := undef) (by simp only [List.getElem?_toArray, List.getElem?_cons_succ, List.getElem?_cons_zero]; rfl) (by kernel_rfl) (by kernel_rfl) (by kernel_rfl) (by exact fun _ _ _ h => h) (Or.inr ⟨by rfl, rfl⟩) (by assumption) ?_
    try simp only [Act.put, List.setIfInBounds_toArray, List.set_cons_zero, List.set_cons_succ]
    refine wpAnyH_take (i := 16) (v := undef) (by simp only [List.getElem?_toArray, List.getElem?_cons_succ, List.getElem?_cons_zero]; rfl) (by kernel_rfl) (by kernel_rfl) (by kernel_rfl) (by exact fun _ _ _ h => h) (Or.inr ⟨by rfl, rfl⟩) (by assumption) ?_
    try simp only [Act.put, List.setIfInBounds_toArray, List.set_cons_zero, List.set_cons_succ]
    refine wpAnyH_take (i := 17) (v := undef) (by simp only [List.getElem?_toArray, List.getElem?_cons_succ, List.getElem?_cons_zero]; rfl) (by kernel_rfl) (by kernel_rfl) (by kernel_rfl) (by exact fun _ _ _ h => h) (Or.inr ⟨by rfl, rfl⟩) (by assumption) ?_
    try simp only [Act.put, List.setIfInBounds_toArray, List.set_cons_zero, List.set_cons_succ]
    refine wpAnyH_take (i := 18) (v := ?_) (by simp only [List.getElem?_toArray, List.getElem?_cons_succ, List.getElem?_cons_zero]; rfl) (by kernel_rfl) (by kernel_rfl) (by kernel_rfl) (by exact fun _ _ _ h => h) (Or.inl ⟨by rfl, ?_⟩) (by assumption) ?_
    rotate_left 1
    · (intro wS hSw; (try dsimp only at hSw); go_simp; try (with_reducible rfl))
    try simp only [Act.put, List.setIfInBounds_toArray, List.set_cons_zero, List.set_cons_succ]
    refine wpAnyH_take (i := 19) (v := ?_) (by simp only [List.getElem?_toArray, List.getElem?_cons_succ, List.getElem?_cons_zero]; rfl) (by kernel_rfl) (by kernel_rfl) (by kernel_rfl) (by exact fun _ _ _ h => h) (Or.inl ⟨by rfl, ?_⟩) (by assumption) ?_
    rotate_left 1
    · (intro wS hSw; (try dsimp only at hSw); go_simp; try (with_reducible rfl))
    try simp only [Act.put, List.setIfInBounds_toArray, List.set_cons_zero, List.set_cons_succ]
    refine wpAnyH_done (by kernel_rfl) ?_ _
    go_wp2
    go_ret
    exact ⟨rfl, bel (bel_alloc _ _) (bel_d _)⟩
  · obtain ⟨k, hnk, hkl⟩ := pl_nat hX
    rw [regT_at hnk hkl]
    have hti : c.regs[k] = c.regs[k] := rfl
    obtain ⟨b, o, hp, hx⟩ := hr.at hkl
    subst hp
    subst hnk
    have x0 := hx.at 0 rfl
    have x1 := hx.at 1 rfl
    rw [Nat.add_zero] at x0
    have hbl := mcell_lt x0
    simp only at hbl
    have K2 := means_any l c.regs[k] m
    obtain ⟨T, hT⟩ : ∃ T, c.regs[k] = T := ⟨_, rfl⟩
    rw [hT] at x0 x1 K2 ⊢
    obtain ⟨N, hN⟩ : ∃ N, c.regs.length = N := ⟨_, rfl⟩
    rw [hN] at K1 c1 HB hkl
    have HK : Hid (∀ w, Calls Try.prog 56 #[.int .i64 (k : Int), .int .i64 N] w fun e w' => e = .returned (.bool true) ∧ w' = w) := K1
    clear hN K1 hX HN hr hrr hcc hcv hx hti hT
    obtain ⟨A, B⟩ := m
    obtain ⟨D, E⟩ := T
    unfold tyV at K2 ⊢
    simp only at x0 x1 K2 ⊢
    obtain ⟨Y, hY⟩ : ∃ Y, meansP l ⟨D, E⟩ ⟨A, B⟩ = Y := ⟨_, rfl⟩
    rw [hY] at K2 ⊢
    have HM : Hid (∀ w, Calls Try.prog 59 #[.int .i64 l, .agg #[.int .i64 D, .int .i64 E], .agg #[.int .i64 A, .int .i64 B]] w fun e w' => e = .returned (.bool Y) ∧ Below w.heap.size w w') := K2
    clear K2 hY
    have i1 : (0 : Int) ≤ (k : Int) := by omega
    have i2 : (k : Int) < (N : Int) := by omega
    have hC' : C ≠ w.heap.size := by omega
    have hb' : b ≠ w.heap.size := by omega
    have HC : Hid (∀ v, Below (w.alloc (.cells #[.int .i64 A, .int .i64 B] 45)).heap.size (w.alloc (.cells #[.int .i64 A, .int .i64 B] 45)) v → v.cell? ⟨C, 1, none⟩ = some (.slice (some ⟨b, o, none⟩) N q) ∧ v.cell? ⟨b, o + k * 2, none⟩ = some (.int .i64 D) ∧ v.cell? ⟨b, o + k * 2 + 1, none⟩ = some (.int .i64 E) ∧ v.cell? ⟨w.heap.size, 0, none⟩ = some (.int .i64 A) ∧ v.cell? ⟨w.heap.size, 1, none⟩ = some (.int .i64 B)) :=
      fun v hv => ⟨kc hv (kc (bel_alloc _ _) c1), kc hv (kc (bel_alloc _ _) x0), kc hv (kc (bel_alloc _ _) x1), kc hv (by simp [go_sem]), kc hv (by simp [go_sem])⟩
    go_enter Try.func42, Try.ntmps42
    go_wp2
    refine wp_region_held_drew (S := (fun v => v.cell? ⟨C, 1, none⟩ = some (.slice (some ⟨b, o, none⟩) N q) ∧ v.cell? ⟨b, o + k * 2, none⟩ = some (.int .i64 D) ∧ v.cell? ⟨b, o + k * 2 + 1, none⟩ = some (.int .i64 E) ∧ v.cell? ⟨w.heap.size, 0, none⟩ = some (.int .i64 A) ∧ v.cell? ⟨w.heap.size, 1, none⟩ = some (.int .i64 B))) (by kernel_rfl) ?_ (fun hHeld => ?_)
    · ((try dsimp only); go_keep)
    refine wpAnyH_take (i := 0) (v := ?_) (by simp only [List.getElem?_toArray, List.getElem?_cons_succ, List.getElem?_cons_zero]; rfl) (by kernel_rfl) (by kernel_rfl) (by kernel_rfl) (by exact fun _ _ _ h => h) (Or.inl ⟨by rfl, ?_⟩) (by assumption) ?_
    rotate_left 1
    · (intro wS hSw; (try dsimp only at hSw); go_simp; try (with_reducible rfl))
    try simp only [Act.put, List.setIfInBounds_toArray, List.set_cons_zero, List.set_cons_succ]
    refine wpAnyH_take (i := 1) (v := ?_) (by simp only [List.getElem?_toArray, List.getElem?_cons_succ, List.getElem?_cons_zero]; rfl) (by kernel_rfl) (by kernel_rfl) (by kernel_rfl) (by exact fun _ _ _ h => h) (Or.inl ⟨by rfl, ?_⟩) (by assumption) ?_
    rotate_left 1
    · (intro wS hSw; (try dsimp only at hSw); go_simp; try (with_reducible rfl))
    try simp only [Act.put, List.setIfInBounds_toArray, List.set_cons_zero, List.set_cons_succ]
    refine wpAnyH_take (i := 2) (v := ?_) (by simp only [List.getElem?_toArray, List.getElem?_cons_succ, List.getElem?_cons_zero]; rfl) (by kernel_rfl) (by kernel_rfl) (by kernel_rfl) (by exact fun _ _ _ h => h) (Or.inl ⟨by rfl, ?_⟩) (by assumption) ?_
    rotate_left 1
    · (intro wS hSw; (try dsimp only at hSw); go_simp; try (with_reducible rfl))
    try simp only [Act.put, List.setIfInBounds_toArray, List.set_cons_zero, List.set_cons_succ]
    refine wpAnyH_take (i := 3) (v := ?_) (by simp only [List.getElem?_toArray, List.getElem?_cons_succ, List.getElem?_cons_zero]; rfl) (by kernel_rfl) (by kernel_rfl) (by kernel_rfl) (by exact fun _ _ _ h => h) (Or.inl ⟨by rfl, ?_⟩) (by assumption) ?_
    rotate_left 1
    · (intro wS hSw; (try dsimp only at hSw); go_simp; try (with_reducible rfl))
    try simp only [Act.put, List.setIfInBounds_toArray, List.set_cons_zero, List.set_cons_succ]
    refine wpAnyH_take (i := 4) (v := ?_) (by simp only [List.getElem?_toArray, List.getElem?_cons_succ, List.getElem?_cons_zero]; rfl) (by kernel_rfl) (by kernel_rfl) (by kernel_rfl) (by exact fun _ _ _ h => h) (Or.inl ⟨by rfl, ?_⟩) (by assumption) ?_
    rotate_left 1
    · (intro wS hSw; (try dsimp only at hSw); go_simp; try (with_reducible rfl))
    try simp only [Act.put, List.setIfInBounds_toArray, List.set_cons_zero, List.set_cons_succ]
    refine wpAnyH_take (i := 5) (v := ?_) (by simp only [List.getElem?_toArray, List.getElem?_cons_succ, List.getElem?_cons_zero]; rfl) (by kernel_rfl) (by kernel_rfl) (by kernel_rfl) (by exact fun _ _ _ h => h) (Or.inl ⟨by rfl, ?_⟩) (by assumption) ?_
    rotate_left 1
    · (intro wS hSw; (try dsimp only at hSw); go_simp; try (with_reducible rfl))
    try simp only [Act.put, List.setIfInBounds_toArray, List.set_cons_zero, List.set_cons_succ]
    clear hHeld
    refine wpAnyH_ready (rs := [6]) (by kernel_rfl) (by simp) ?_
    refine AllReadyH.cons (i := 6) (by simp only [List.getElem?_toArray, List.getElem?_cons_succ, List.getElem?_cons_zero]; rfl) (fun K hK => ?_) AllReadyH.nil
    go_simp
    (go_at_call 56; refine (HK.out _).mono ?_; rintro e w1 ⟨rfl, rfl⟩)
    try (go_wp2_with fail)
    refine hK.out _ _ ?_ (fun hHeld => ?_)
    · ((try dsimp only); go_keep)
    clear hK K
    try simp only [Act.put, List.setIfInBounds_toArray, List.set_cons_zero, List.set_cons_succ]
    refine wpAnyH_take (i := 7) (v := ?_) (by simp only [List.getElem?_toArray, List.getElem?_cons_succ, List.getElem?_cons_zero]; rfl) (by kernel_rfl) (by kernel_rfl) (by kernel_rfl) (by exact fun _ _ _ h => h) (Or.inl ⟨by rfl, ?_⟩) (by assumption) ?_
    rotate_left 1
    · (intro wS hSw; (try dsimp only at hSw); go_simp; try (with_reducible rfl))
    try simp only [Act.put, List.setIfInBounds_toArray, List.set_cons_zero, List.set_cons_succ]
    refine wpAnyH_take (i := 8) (v := ?_) (by simp only [List.getElem?_toArray, List.getElem?_cons_succ, List.getElem?_cons_zero]; rfl) (by kernel_rfl) (by kernel_rfl) (by kernel_rfl) (by exact fun _ _ _ h => h) (Or.inl ⟨by rfl, ?_⟩) (by assumption) ?_
    rotate_left 1
    · (intro wS hSw; (try dsimp only at hSw); go_simp; try (with_reducible rfl))
    try simp only [Act.put, List.setIfInBounds_toArray, List.set_cons_zero, List.set_cons_succ]
    refine wpAnyH_take (i := 9) (v := ?_) (by simp only [List.getElem?_toArray, List.getElem?_cons_succ, List.getElem?_cons_zero]; rfl) (by kernel_rfl) (by kernel_rfl) (by kernel_rfl) (by exact fun _ _ _ h => h) (Or.inl ⟨by rfl, ?_⟩) (by assumption) ?_
    rotate_left 1
    · (intro wS hSw; (try dsimp only at hSw); go_simp; try (with_reducible rfl))
    try simp only [Act.put, List.setIfInBounds_toArray, List.set_cons_zero, List.set_cons_succ]
    refine wpAnyH_take (i := 10) (v := ?_) (by simp only [List.getElem?_toArray, List.getElem?_cons_succ, List.getElem?_cons_zero]; rfl) (by kernel_rfl) (by kernel_rfl) (by kernel_rfl) (by exact fun _ _ _ h => h) (Or.inl ⟨by rfl, ?_⟩) (by assumption) ?_
    rotate_left 1
    · (intro wS hSw; (try dsimp only at hSw); go_simp; try (with_reducible rfl))
    try simp only [Act.put, List.setIfInBounds_toArray, List.set_cons_zero, List.set_cons_succ]
    refine wpAnyH_take (i := 11) (v := ?_) (by simp only [List.getElem?_toArray, List.getElem?_cons_succ, List.getElem?_cons_zero]; rfl) (by kernel_rfl) (by kernel_rfl) (by kernel_rfl) (by exact fun _ _ _ h => h) (Or.inl ⟨by rfl, ?_⟩) (by assumption) ?_
    rotate_left 1
    · (intro wS hSw; (try dsimp only at hSw); go_simp; try (with_reducible rfl))
    try simp only [Act.put, List.setIfInBounds_toArray, List.set_cons_zero, List.set_cons_succ]
    refine wpAnyH_take (i := 12) (v := ?_) (by simp only [List.getElem?_toArray, List.getElem?_cons_succ, List.getElem?_cons_zero]; rfl) (by kernel_rfl) (by kernel_rfl) (by kernel_rfl) (by exact fun _ _ _ h => h) (Or.inl ⟨by rfl, ?_⟩) (by assumption) ?_
    rotate_left 1
    · (intro wS hSw; (try dsimp only at hSw); go_simp; try (with_reducible rfl))
    try simp only [Act.put, List.setIfInBounds_toArray, List.set_cons_zero, List.set_cons_succ]
    refine wpAnyH_take (i := 13) (v := ?_) (by simp only [List.getElem?_toArray, List.getElem?_cons_succ, List.getElem?_cons_zero]; rfl) (by kernel_rfl) (by kernel_rfl) (by kernel_rfl) (by exact fun _ _ _ h => h) (Or.inl ⟨by rfl, ?_⟩) (by assumption) ?_
    rotate_left 1
    · (intro wS hSw; (try dsimp only at hSw); go_simp; try (with_reducible rfl))
    try simp only [Act.put, List.setIfInBounds_toArray, List.set_cons_zero, List.set_cons_succ]
    refine wpAnyH_take (i := 14) (v := ?_) (by simp only [List.getElem?_toArray, List.getElem?_cons_succ, List.getElem?_cons_zero]; rfl) (by kernel_rfl) (by kernel_rfl) (by kernel_rfl) (by exact fun _ _ _ h => h) (Or.inl ⟨by rfl, ?_⟩) (by assumption) ?_
    rotate_left 1
    · (intro wS hSw; (try dsimp only at hSw); go_simp; try (with_reducible rfl))
    try simp only [Act.put, List.setIfInBounds_toArray, List.set_cons_zero, List.set_cons_succ]
    refine wpAnyH_take (i := 15) (v := ?_) (by simp only [List.getElem?_toArray, List.getElem?_cons_succ, List.getElem?_cons_zero]; rfl) (by kernel_rfl) (by kernel_rfl) (by kernel_rfl) (by exact fun _ _ _ h => h) (Or.inl ⟨by rfl, ?_⟩) (by assumption) ?_
    rotate_left 1
    · (intro wS hSw; (try dsimp only at hSw); go_simp; try (with_reducible rfl))
    try simp only [Act.put, List.setIfInBounds_toArray, List.set_cons_zero, List.set_cons_succ]
    refine wpAnyH_take (i := 16) (v := ?_) (by simp only [List.getElem?_toArray, List.getElem?_cons_succ, List.getElem?_cons_zero]; rfl) (by kernel_rfl) (by kernel_rfl) (by kernel_rfl) (by exact fun _ _ _ h => h) (Or.inl ⟨by rfl, ?_⟩) (by assumption) ?_
    rotate_left 1
    · (intro wS hSw; (try dsimp only at hSw); go_simp; try (with_reducible rfl))
    try simp only [Act.put, List.setIfInBounds_toArray, List.set_cons_zero, List.set_cons_succ]
    clear hHeld
    refine wpAnyH_ready (rs := [17]) (by kernel_rfl) (by simp) ?_
    refine AllReadyH.cons (i := 17) (by simp only [List.getElem?_toArray, List.getElem?_cons_succ, List.getElem?_cons_zero]; rfl) (fun K hK => ?_) AllReadyH.nil
    go_simp
    (go_at_call 59; refine (HM.out _).mono ?_; rintro e w1 ⟨rfl, hb1⟩; have HB1 := bel (bel_d _) hb1; obtain ⟨y0, y1, y2, y3, y4⟩ := HC.out w1 HB1)
    try (go_wp2_with fail)
    refine hK.out _ _ ?_ (fun hHeld => ?_)
    · ((try dsimp only); go_keep)
    clear hK K
    try simp only [Act.put, List.setIfInBounds_toArray, List.set_cons_zero, List.set_cons_succ]
    refine wpAnyH_take (i := 18) (v := ?_) (by simp only [List.getElem?_toArray, List.getElem?_cons_succ, List.getElem?_cons_zero]; rfl) (by kernel_rfl) (by kernel_rfl) (by kernel_rfl) (by exact fun _ _ _ h => h) (Or.inl ⟨by rfl, ?_⟩) (by assumption) ?_
    rotate_left 1
    · (intro wS hSw; (try dsimp only at hSw); go_simp; try (with_reducible rfl))
    try simp only [Act.put, List.setIfInBounds_toArray, List.set_cons_zero, List.set_cons_succ]
    refine wpAnyH_take (i := 19) (v := ?_) (by simp only [List.getElem?_toArray, List.getElem?_cons_succ, List.getElem?_cons_zero]; rfl) (by kernel_rfl) (by kernel_rfl) (by kernel_rfl) (by exact fun _ _ _ h => h) (Or.inl ⟨by rfl, ?_⟩) (by assumption) ?_
    rotate_left 1
    · (intro wS hSw; (try dsimp only at hSw); go_simp; try (with_reducible rfl))
    try simp only [Act.put, List.setIfInBounds_toArray, List.set_cons_zero, List.set_cons_succ]
    refine wpAnyH_done (by kernel_rfl) ?_ _
    go_wp2
    go_ret
    exact ⟨by simp, bel (bel_alloc _ _) HB1⟩

end Go.Proofs.Ytgnjhjkbnchdmaa
