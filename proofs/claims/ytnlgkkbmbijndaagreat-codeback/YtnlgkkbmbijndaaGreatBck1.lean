import Derived.RowKit3
import Derived.Test.YtnlgkkbmbijndaaGreatRows
import Derived.WalkKit
import Derived.WalkSpells
import Derived.WalkLawsBesides
import Derived.LoopN
import Derived.Below
import Derived.OwnWalk
import Derived.Shelf.Abstract
import Derived.Deep.AppendLies
import Derived.Maps.AppendAt
import Derived.Laws.AppendOwnNone
import Derived.Deep.OwnRows
import Derived.Deep.DeepCutAuto
import Derived.Deep.QuietTactic
import Derived.Deep.RegionHeld3
import Derived.BigQuiet
import Derived.Handy
import Derived.OrdersHeld
/- Layer 10, plainly: parameters, signatures, their text. No program in it. -/
namespace Go.Proofs.YtnlgkkbmbijndaaGreat
set_option linter.unusedVariables false
set_option linter.unusedSimpArgs false

abbrev Bs := List UInt8
def bs (s : ByteArray) : Bs := s.data.toList
def nb (b : UInt8) : Int := (b.toNat : Int)
def hd : Bs → Int
  | [] => 0
  | b :: _ => nb b
theorem bs_length (s : ByteArray) : (bs s).length = s.size := by simp [bs]
theorem of_bs (s : ByteArray) : (⟨(bs s).toArray⟩ : ByteArray) = s := by simp [bs]
theorem bs_inj {s t : ByteArray} (h : bs s = bs t) : s = t := by rw [← of_bs s, ← of_bs t, h]
structure Par where
  name : ByteArray
  kind : Int
  len : Int

def pIn (c : Int) : Bool :=
  (decide (97 ≤ c) && decide (c ≤ 122)) || (decide (65 ≤ c) && decide (c ≤ 90)) || (decide (48 ≤ c) && decide (c ≤ 57)) || c == 95 || c == 46 || c == 47 || c == 45
def namedP (s : ByteArray) : Bool := (s.size != 0 && decide (s.size ≤ 64)) && (bs s).all fun b => pIn (nb b)
def mayP (p : Par) : Bool := (namedP p.name && (p.kind == 1 || p.kind == 2)) && (decide (1 ≤ p.len) && decide (p.len ≤ 4096))
def numP (p : Par) : Int := if mayP p then (if p.kind == 2 then 2 * p.len else p.len) else 0
def totP : List Par → Int
  | [] => 0
  | p :: r => numP p + totP r
/-- Where a name stands first. -/
def findP (s : ByteArray) : List Par → Option Nat
  | [] => none
  | p :: r => if p.name = s then some 0 else (findP s r).map (· + 1)
/-- Does a name stand twice? -/
def twiceP : List Par → Bool
  | [] => false
  | p :: r => (r.any fun q => decide (q.name = p.name)) || twiceP r
def checkP (l : List Par) : Int :=
  if l.length > 64 then 2 else if l.all mayP = false then 100 else if twiceP l then 101 else if totP l > 65536 then 102 else 0
theorem num_bounds (p : Par) : 0 ≤ numP p ∧ numP p ≤ 8192 := by
  unfold numP
  split
  · rename_i h
    unfold mayP at h
    simp at h
    split <;> omega
  · decide
theorem tot_snoc (l : List Par) (p : Par) : totP (l ++ [p]) = totP l + numP p := by
  induction l with
  | nil => simp [totP]
  | cons q r ih => simp only [List.cons_append, totP, ih]; omega
theorem tot_bounds (l : List Par) : 0 ≤ totP l ∧ totP l ≤ 8192 * (l.length : Int) := by
  induction l with
  | nil => simp [totP]
  | cons q r ih => have := num_bounds q; simp only [totP, List.length_cons]; omega
theorem take_succ {α : Type} {l : List α} {i : Nat} (h : i < l.length) : l.take (i + 1) = l.take i ++ [l[i]] := by simp

theorem find_some {s : ByteArray} : ∀ {l : List Par} {i : Nat}, (h : i < l.length) → l[i].name = s → (∀ j (h : j < l.length), j < i → l[j].name ≠ s) → findP s l = some i
  | [], i, h, _, _ => absurd h (Nat.not_lt_zero _)
  | p :: r, 0, _, e, _ => by simp only [findP]; rw [if_pos (show p.name = s from e)]
  | p :: r, i + 1, h, e, hn => by
    have h0 := hn 0 (by simp) (by omega)
    simp only [List.getElem_cons_zero] at h0
    simp only [findP]
    rw [if_neg h0, find_some (l := r) (i := i) (by simpa using h) (by simpa using e) (fun j hj hji => by have := hn (j + 1) (by simpa using hj) (by omega); simpa using this)]
    rfl
theorem find_none {s : ByteArray} : ∀ {l : List Par}, (∀ j (h : j < l.length), l[j].name ≠ s) → findP s l = none
  | [], _ => rfl
  | p :: r, hn => by
    have h0 := hn 0 (by simp)
    simp only [List.getElem_cons_zero] at h0
    simp only [findP]
    rw [if_neg h0, find_none (l := r) (fun j hj => by have := hn (j + 1) (by simpa using hj); simpa using this)]
    rfl
theorem twice_iff : ∀ {l : List Par}, twiceP l = true ↔ ∃ i j, ∃ (hi : i < l.length) (hj : j < l.length), j < i ∧ l[j].name = l[i].name
  | [] => by simp [twiceP]
  | p :: r => by
    simp only [twiceP, Bool.or_eq_true, List.any_eq_true, decide_eq_true_eq]
    rw [twice_iff (l := r)]
    constructor
    · rintro (⟨q, hq, e⟩ | ⟨i, j, hi, hj, hji, e⟩)
      · obtain ⟨k, hk, rfl⟩ := List.mem_iff_getElem.1 hq
        exact ⟨k + 1, 0, by simpa using hk, by simp, by omega, by simpa using e.symm⟩
      · exact ⟨i + 1, j + 1, by simpa using hi, by simpa using hj, by omega, by simpa using e⟩
    · rintro ⟨i, j, hi, hj, hji, e⟩
      cases i with
      | zero => omega
      | succ i =>
        cases j with
        | zero =>
          simp only [List.getElem_cons_zero, List.getElem_cons_succ] at e
          exact .inl ⟨r[i]'(by simpa using hi), List.getElem_mem _, e.symm⟩
        | succ j =>
          simp only [List.getElem_cons_succ] at e
          exact .inr ⟨i, j, by simpa using hi, by simpa using hj, by omega, e⟩

theorem check_len {l : List Par} (h : checkP l = 0) : l.length ≤ 64 := by
  unfold checkP at h
  split at h
  · omega
  · omega
theorem check_may {l : List Par} (h : checkP l = 0) : ∀ p ∈ l, mayP p = true := by
  unfold checkP at h
  split at h
  · omega
  · split at h
    · omega
    · rename_i h2
      rw [Bool.not_eq_false, List.all_eq_true] at h2
      exact h2
end Go.Proofs.YtnlgkkbmbijndaaGreat
/- Signatures as they lie in memory. -/
namespace Go.Proofs.YtnlgkkbmbijndaaGreat
open Go.RowKit
set_option linter.unusedVariables false
set_option linter.unusedSimpArgs false

theorem bel {a b c : World} (h : Below a.heap.size a b) (k : Below b.heap.size b c) : Below a.heap.size a c := h.trans (k.mono h.size)
theorem bel0 (w : World) : Below w.heap.size w w := Below.refl _ _
theorem bel_alloc (w : World) (o : Obj) : Below w.heap.size w (w.alloc o) := (Below.refl _ _).alloc (Nat.le_refl _) o
theorem bel_d (w : World) : Below w.heap.size w w.drew := (Below.refl _ _).drew
theorem mcell_lt {w : World} {a : Addr} {v : Value} (h : w.cell? a = some v) : a.block < w.heap.size := by
  rcases Nat.lt_or_ge a.block w.heap.size with c | c
  · exact c
  · have : w.heap[a.block]? = none := Array.getElem?_eq_none c
    simp [World.cell?, this] at h
theorem ret_bool {a b : Bool} (h : a = b) : Ending.returned (.bool a) = .returned (.bool b) := by rw [h]
theorem ret_int {k : IntKind} {a b : Int} (h : a = b) : Ending.returned (.int k a) = .returned (.int k b) := by rw [h]
/-- A parameter as a value, and its cells. -/
def pv (p : Par) : Value := .agg #[.string p.name, .int .i64 p.kind, .int .i64 p.len]
def parCells (p : Par) : List Value := [.string p.name, .int .i64 p.kind, .int .i64 p.len]
def AtP (w : World) (b o : Nat) (p : Par) : Prop :=
  w.cell? ⟨b, o, none⟩ = some (.string p.name) ∧ w.cell? ⟨b, o + 1, none⟩ = some (.int .i64 p.kind) ∧ w.cell? ⟨b, o + 2, none⟩ = some (.int .i64 p.len)
theorem AtP.below {w w' : World} {b o : Nat} {p : Par} (h : AtP w b o p) (k : Below w.heap.size w w') : AtP w' b o p :=
  ⟨(k.cell (mcell_lt h.1)).trans h.1, (k.cell (mcell_lt h.2.1)).trans h.2.1, (k.cell (mcell_lt h.2.2)).trans h.2.2⟩
/-- A slice that reads as these parameters. -/
def Row (w : World) (p : Option Addr) (l : List Par) : Prop := l = [] ∨ ∃ b o, p = some ⟨b, o, none⟩ ∧ ∀ i (h : i < l.length), AtP w b (o + i * 3) l[i]
def Rd (w : World) (v : Value) (l : List Par) : Prop := ∃ p c, v = .slice p l.length c ∧ Row w p l
theorem Row.below {w w' : World} {p : Option Addr} {l : List Par} (h : Row w p l) (k : Below w.heap.size w w') : Row w' p l :=
  h.imp id fun ⟨b, o, hp, h⟩ => ⟨b, o, hp, fun i hi => (h i hi).below k⟩
theorem Rd.below {w w' : World} {v : Value} {l : List Par} (h : Rd w v l) (k : Below w.heap.size w w') : Rd w' v l := by
  obtain ⟨p, c, hv, h⟩ := h
  exact ⟨p, c, hv, h.below k⟩
theorem Row.at {w : World} {p : Option Addr} {l : List Par} (h : Row w p l) {i : Nat} (hi : i < l.length) : ∃ b o, p = some ⟨b, o, none⟩ ∧ AtP w b (o + i * 3) l[i] := by
  rcases h with h | ⟨b, o, hp, h⟩
  · rw [h] at hi; exact absurd hi (Nat.not_lt_zero _)
  · exact ⟨b, o, hp, h i hi⟩

def cellsOf (l : List Par) : List Value := l.flatMap parCells
end Go.Proofs.YtnlgkkbmbijndaaGreat
/- A step of a drawn region, its side conditions by default. -/
namespace Go.Proofs.YtnlgkkbmbijndaaGreat
open Go.RowKit

end Go.Proofs.YtnlgkkbmbijndaaGreat
/- A step of a drawn region in one line. -/
namespace Go.Proofs.YtnlgkkbmbijndaaGreat
open Go.RowKit

end Go.Proofs.YtnlgkkbmbijndaaGreat
/- Layer 24, plainly: the fingerprint; that no damage within 64 bits passes. No program in it. -/
namespace Go.Proofs.YtnlgkkbmbijndaaGreat
set_option linter.unusedVariables false
set_option linter.unusedSimpArgs false

def crD : Nat := 0xC96C5795D7870F42
/-- One bit's turn. -/
def crT (c : Nat) : Nat := (c / 2) ^^^ (if c % 2 = 1 then crD else 0)
def crN : Nat → Nat → Nat
  | 0, c => c
  | n + 1, c => crN n (crT c)
/-- One byte. -/
def crB (c b : Nat) : Nat := crN 8 (c ^^^ b)
def crR (c : Nat) (l : List Nat) : Nat := l.foldl crB c
def crA : Nat := 18446744073709551615
/-- The fingerprint of bytes. -/
def crP (l : List Nat) : Nat := crA ^^^ crR crA l
theorem crT_lt {c : Nat} (h : c < 2 ^ 64) : crT c < 2 ^ 64 := by
  unfold crT
  refine Nat.xor_lt_two_pow (by omega) ?_
  split
  · unfold crD; decide
  · decide
theorem crN_lt : ∀ (n : Nat) {c : Nat}, c < 2 ^ 64 → crN n c < 2 ^ 64
  | 0, c, h => h
  | n + 1, c, h => crN_lt n (crT_lt h)
theorem crB_lt {c b : Nat} (h : c < 2 ^ 64) (hb : b < 2 ^ 64) : crB c b < 2 ^ 64 := crN_lt 8 (Nat.xor_lt_two_pow h hb)
theorem crR_lt : ∀ (l : List Nat) {c : Nat}, c < 2 ^ 64 → (∀ b ∈ l, b < 256) → crR c l < 2 ^ 64
  | [], c, h, _ => h
  | b :: l, c, h, hl => by
    show crR (crB c b) l < _
    exact crR_lt l (crB_lt h (by have := hl b (by simp); omega)) (fun x hx => hl x (List.mem_cons_of_mem _ hx))
theorem crR_app (c : Nat) (a b : List Nat) : crR c (a ++ b) = crR (crR c a) b := by unfold crR; rw [List.foldl_append]
/-- The number that bytes are, the lowest first. -/
def lowN : List Nat → Nat
  | [] => 0
  | b :: l => b + 256 * lowN l
theorem lowN_lt : ∀ (l : List Nat), (∀ b ∈ l, b < 256) → lowN l < 256 ^ l.length
  | [], _ => by simp [lowN]
  | b :: l, h => by
    have h1 := lowN_lt l (fun x hx => h x (List.mem_cons_of_mem _ hx))
    have h2 := h b (by simp)
    show b + 256 * lowN l < 256 ^ (l.length + 1)
    rw [Nat.pow_succ]
    omega
end Go.Proofs.YtnlgkkbmbijndaaGreat
/- Plain facts on patterns of 32 bits: no program is in sight. -/
namespace Go.Proofs.YtnlgkkbmbijndaaGreat
open Go.RowKit
set_option linter.unusedVariables false

theorem and_mask (a : Int) (k : Nat) (hk : k < 32) (h0 : 0 ≤ a) (h1 : a < 4294967296) : bits .and .u32 a ((2 ^ k - 1 : Nat) : Int) = a % ((2 ^ k : Nat) : Int) := by
  have hp : 2 ^ k < 2 ^ 32 := Nat.pow_lt_pow_right (by omega) hk
  have hq : 0 < 2 ^ k := Nat.two_pow_pos k
  obtain ⟨n, rfl⟩ := Int.eq_ofNat_of_zero_le h0
  rw [u32_and _ _ h0 h1 (by omega) (by omega), Int.toNat_natCast, Int.toNat_natCast, Nat.and_two_pow_sub_one_eq_mod]
  rfl
theorem and_23 (a : Int) (h0 : 0 ≤ a) (h1 : a < 4294967296) : bits .and .u32 a 8388607 = a % 8388608 := and_mask a 23 (by omega) h0 h1
theorem and_8 (a : Int) (h0 : 0 ≤ a) (h1 : a < 4294967296) : bits .and .u32 a 255 = a % 256 := and_mask a 8 (by omega) h0 h1
theorem and_sign (a : Int) (h0 : 0 ≤ a) (h1 : a < 4294967296) : bits .and .u32 a 2147483648 = if 2147483648 ≤ a then 2147483648 else 0 := by
  rw [u32_and a _ h0 h1 (by omega) (by omega), show (2147483648 : Int).toNat = 2 ^ 31 from rfl, nat_bit]
  split <;> omega
theorem and_sign_ne (a : Int) (h0 : 0 ≤ a) (h1 : a < 4294967296) : (bits .and .u32 a 2147483648 != 0) = decide (2147483648 ≤ a) := by
  rw [and_sign a h0 h1]
  split <;> simp [*]
/-- the class of a pattern -/
def cls (a : Int) : Int :=
  if a / 8388608 % 256 = 255 then (if a % 8388608 = 0 then 4 else 5) else if a / 8388608 % 256 = 0 then (if a % 8388608 = 0 then 1 else 2) else 3
/-- is the pattern a NaN? (not reducible: the walk shall not open it) -/
def nan (a : Int) : Bool := decide (2139095040 < a % 2147483648)
theorem nan_iff (a : Int) : nan a = true ↔ 2139095040 < a % 2147483648 := by unfold nan; simp
theorem nan_not (a : Int) : nan a = false ↔ a % 2147483648 ≤ 2139095040 := by unfold nan; simp
theorem cls_nan (a : Int) (h : nan a = true) (h0 : 0 ≤ a) (h1 : a < 4294967296) : cls a = 5 := by
  rw [nan_iff] at h; unfold cls; rw [if_pos (by omega), if_neg (by omega)]
theorem cls_num (a : Int) (h : nan a = false) (h0 : 0 ≤ a) (h1 : a < 4294967296) : cls a ≠ 5 := by
  rw [nan_not] at h; unfold cls; repeat' split
  all_goals omega
def key (a : Int) : Int := if 2147483648 ≤ a then -1 - (a - 2147483648) else a
def ofKey (k : Int) : Int := if k < 0 then 2147483648 + (-1 - k) else k
def canon (a : Int) : Int := if nan a then 2143289344 else a
def next (a : Int) : Int := if nan a then 2143289344 else if a = 2139095040 then a else ofKey (key a + 1)
def mk (m : Bool) (e f : Int) : Int := if m then e * 8388608 + f + 2147483648 else e * 8388608 + f
end Go.Proofs.YtnlgkkbmbijndaaGreat
/- Layer 16, plainly: code, rows, what fits, the walk over the instructions. No program in it. -/
namespace Go.Proofs.YtnlgkkbmbijndaaGreat
set_option linter.unusedVariables false
set_option linter.unusedSimpArgs false

structure Ty where
  kind : Int
  par : Int
  deriving DecidableEq
structure Sl where
  ty : Ty
  keep : Bool
  bits : Int
  int_ : Int
  deriving DecidableEq
structure Ins where
  op : Int
  d : Int
  a : Int
  b : Int
  c : Int
  n : Int
  bits : Int
  deriving DecidableEq
structure Cd where
  sign : List Par
  regs : List Ty
  slots : List Sl
  list : List Ins
/-- A row: a letter for each of D, A, B, C, N. -/
structure Rw where
  d : Int
  a : Int
  b : Int
  c : Int
  n : Int
  deriving DecidableEq

def rowP (op : Int) : Rw :=
  if op = 1 then ⟨1, 0, 0, 0, 7⟩
  else if op = 2 then ⟨2, 0, 0, 0, 8⟩
  else if op = 3 then ⟨6, 5, 0, 0, 0⟩
  else if 4 ≤ op ∧ op ≤ 10 then ⟨4, 5, 5, 0, 0⟩
  else if 11 ≤ op ∧ op ≤ 14 then ⟨4, 5, 0, 0, 0⟩
  else if op = 15 then ⟨4, 5, 5, 5, 0⟩
  else if op = 16 then ⟨1, 1, 2, 0, 0⟩
  else if op = 17 then ⟨1, 2, 0, 0, 0⟩
  else if op = 18 then ⟨2, 1, 0, 0, 0⟩
  else if 19 ≤ op ∧ op ≤ 20 then ⟨1, 3, 0, 0, 0⟩
  else if op = 21 ∨ op = 25 then ⟨2, 2, 0, 0, 0⟩
  else if op = 26 then ⟨2, 2, 2, 2, 0⟩
  else if 22 ≤ op ∧ op ≤ 28 then ⟨2, 2, 2, 0, 0⟩
  else if 29 ≤ op ∧ op ≤ 30 then ⟨3, 0, 0, 0, 9⟩
  else if op = 31 then ⟨0, 3, 0, 0, 9⟩
  else if op = 32 then ⟨6, 0, 0, 0, 10⟩
  else if op = 33 then ⟨0, 6, 0, 0, 10⟩
  else if op = 34 then ⟨0, 2, 0, 0, 0⟩
  else if op = 36 then ⟨0, 0, 0, 0, 11⟩
  else ⟨0, 0, 0, 0, 0⟩
def knownP (op : Int) : Bool := decide (1 ≤ op) && decide (op ≤ 37)
def elemP (op : Int) : Bool := decide (3 ≤ op) && decide (op ≤ 15)
def loopedP (op : Int) : Bool := (decide (29 ≤ op) && decide (op ≤ 33)) || elemP op

def isPl (n : Int) (k : Nat) : Bool := decide (0 ≤ n) && decide (n < (k : Int))
def wholeB (n : Int) : Bool := decide (0 ≤ n) && decide (n ≤ 2147483647)
def toldB (a : Int) : Bool := decide ((if nan a then 2143289344 else a) = a)
def typeMay (t : Ty) (n : Nat) : Bool := if t.kind = 1 ∨ t.kind = 2 then t.par == 0 else if t.kind = 3 then isPl t.par n else false
def begins (s : Sl) : Bool := if s.ty.kind = 2 then s.bits == 0 && wholeB s.int_ else s.int_ == 0 && toldB s.bits
def slotMay (s : Sl) (n : Nat) : Bool := typeMay s.ty n && begins s
def regT (l : List Ty) (n : Int) : Ty := if isPl n l.length then (l[n.toNat]?).getD ⟨0, 0⟩ else ⟨0, 0⟩
def mainR (i : Ins) (r : Rw) : Int := if r.d = 0 then i.a else i.d
def mainT (l : List Ty) (i : Ins) (r : Rw) : Ty := regT l (mainR i r)
def meansP (l : Int) (t m : Ty) : Bool :=
  if l = 1 then t.kind == 1
  else if l = 2 then t.kind == 2
  else if l = 3 then t.kind == 3
  else if l = 4 then t.kind == 1 || t.kind == 3
  else if l = 5 then decide (t = m) || (t.kind == 1 && m.kind == 3)
  else decide (t = m)
def fitsReg (rs : List Ty) (l n : Int) (m : Ty) : Bool := if l = 0 then n == 0 else isPl n rs.length && meansP l (regT rs n) m
def kindOf (ps : List Par) (n : Int) : Int := ((ps[n.toNat]?).map fun p => p.kind).getD 0
def slotT (ss : List Sl) (n : Int) : Ty := ((ss[n.toNat]?).map fun s => s.ty).getD ⟨0, 0⟩
def fitsN (c : Cd) (n l : Int) (m : Ty) : Bool :=
  if l = 8 then wholeB n
  else if l = 9 then n == 0 || (n == 1 && kindOf c.sign m.par == 2)
  else if l = 10 then isPl n c.slots.length && decide (slotT c.slots n = m)
  else if l = 11 then isPl n c.sign.length
  else n == 0
def fitsRest (c : Cd) (i : Ins) (l : Int) (m : Ty) : Bool := if l = 7 then i.n == 0 && toldB i.bits else i.bits == 0 && fitsN c i.n l m
def fitsC (c : Cd) (i : Ins) (r : Rw) : Bool :=
  fitsReg c.regs r.d i.d (mainT c.regs i r) && (fitsReg c.regs r.a i.a (mainT c.regs i r) && (fitsReg c.regs r.b i.b (mainT c.regs i r) && (fitsReg c.regs r.c i.c (mainT c.regs i r) && fitsRest c i r.n (mainT c.regs i r))))

/-- A block that is open. -/
structure Bk where
  loop : Bool
  par : Int
  ahead : Nat
/-- What is set, in the order in which it was; the blocks that are open, the innermost first. -/
structure Wk where
  set : List Nat
  opens : List Bk
def inLoop (s : Wk) : Bool := match s.opens with | b :: _ => b.loop | [] => false
def innerP (s : Wk) : Int := match s.opens with | b :: _ => b.par | [] => 0
def mayStandP (c : Cd) (s : Wk) (i : Ins) (r : Rw) : Bool :=
  if i.op = 34 ∨ i.op = 36 then !inLoop s && decide (s.opens.length < 64)
  else if i.op = 35 then !s.opens.isEmpty && !inLoop s
  else if i.op = 37 then inLoop s
  else !inLoop s || (loopedP i.op && decide (mainT c.regs i r = ⟨3, innerP s⟩))
def readsP (i : Ins) (r : Rw) : List Int := (if r.a = 0 then [] else [i.a]) ++ ((if r.b = 0 then [] else [i.b]) ++ (if r.c = 0 then [] else [i.c]))
def leaveP (s : Wk) : Wk := match s.opens with
  | b :: r => ⟨if b.loop then s.set else s.set.take b.ahead, r⟩
  | [] => s
def turnP (s : Wk) (i : Ins) : Wk :=
  if i.op = 34 ∨ i.op = 36 then ⟨s.set, ⟨i.op == 36, i.n, s.set.length⟩ :: s.opens⟩ else if i.op = 35 ∨ i.op = 37 then leaveP s else s
def addP (s : Wk) (i : Ins) (r : Rw) : Wk := if r.d ≠ 0 ∧ i.d.toNat ∉ s.set then ⟨s.set ++ [i.d.toNat], s.opens⟩ else s
def passP (s : Wk) (i : Ins) (r : Rw) : Wk := addP (turnP s i) i r
def readOK (s : Wk) (i : Ins) (r : Rw) : Bool := (readsP i r).all fun n => decide (n.toNat ∈ s.set)
def takesP (c : Cd) (s : Wk) (i : Ins) : Bool := knownP i.op && (fitsC c i (rowP i.op) && (mayStandP c s i (rowP i.op) && readOK s i (rowP i.op)))
def stepP (s : Wk) (i : Ins) : Wk := passP s i (rowP i.op)
/-- The instructions from the place k on. -/
def goP (c : Cd) : Wk → Nat → List Ins → Int × Int
  | s, k, [] => if s.opens.isEmpty then (0, 0) else (160, k)
  | s, k, i :: r => if takesP c s i then goP c (stepP s i) (k + 1) r else (160, k)
def typesMay (c : Cd) : Bool := c.regs.all fun t => typeMay t c.sign.length
def slotsMay (c : Cd) : Bool := c.slots.all fun s => slotMay s c.sign.length
def aheadP (c : Cd) : Int :=
  if checkP c.sign ≠ 0 then checkP c.sign
  else if 16384 < c.regs.length ∨ 32768 < c.list.length then 181
  else if 4096 < c.slots.length then 180
  else if typesMay c && slotsMay c then 0 else 160
/-- IR1. -/
def checkC (c : Cd) : Int × Int := if aheadP c ≠ 0 then (aheadP c, -1) else goP c ⟨[], []⟩ 0 c.list

/- What holds of the walk's state. -/
def okO : Nat → List Bk → Prop
  | _, [] => True
  | n, b :: r => b.ahead ≤ n ∧ okO b.ahead r
theorem okO.mono : ∀ {r : List Bk} {n m : Nat}, okO n r → n ≤ m → okO m r
  | [], _, _, _, _ => trivial
  | b :: r, n, m, h, k => ⟨Nat.le_trans h.1 k, h.2⟩
structure OkS (n : Nat) (s : Wk) : Prop where
  nodup : s.set.Nodup
  lt : ∀ x ∈ s.set, x < n
  opens : okO s.set.length s.opens
  nest : s.opens.length ≤ 64
theorem OkS.start (n : Nat) : OkS n ⟨[], []⟩ := ⟨List.nodup_nil, fun x h => absurd h (by simp), trivial, Nat.zero_le _⟩
theorem OkS.leave {n : Nat} {s : Wk} (h : OkS n s) : OkS n (leaveP s) := by
  obtain ⟨X, O⟩ := s
  cases O with
  | nil => exact h
  | cons b r =>
    obtain ⟨h1, h2, ⟨h3, h4⟩, h5⟩ := h
    simp only [leaveP]
    simp only at h1 h2 h3 h4 h5
    split
    · exact ⟨h1, h2, h4.mono h3, by simp at h5 ⊢; omega⟩
    · refine ⟨List.Sublist.nodup (List.take_sublist _ _) h1, fun x hx => h2 x (List.mem_of_mem_take hx), ?_, by simp at h5 ⊢; omega⟩
      simp only [List.length_take]
      rw [Nat.min_eq_left h3]
      exact h4
theorem OkS.turn {n : Nat} {s : Wk} {i : Ins} (h : OkS n s) (hm : i.op = 34 ∨ i.op = 36 → s.opens.length < 64) : OkS n (turnP s i) := by
  unfold turnP
  split
  · rename_i e
    exact ⟨h.nodup, h.lt, ⟨Nat.le_refl _, h.opens⟩, by have := hm e; simp; omega⟩
  · split
    · exact h.leave
    · exact h
theorem OkS.add {n : Nat} {s : Wk} {i : Ins} {r : Rw} (h : OkS n s) (hd : r.d ≠ 0 → i.d.toNat < n) : OkS n (addP s i r) := by
  unfold addP
  split
  · rename_i e
    refine ⟨?_, fun x hx => ?_, h.opens.mono (by simp), h.nest⟩
    · rw [List.nodup_append]
      refine ⟨h.nodup, by simp, fun a ha b hb => ?_⟩
      simp at hb
      subst hb
      exact fun e' => e.2 (e' ▸ ha)
    · rcases List.mem_append.1 hx with hx | hx
      · exact h.lt x hx
      · simp at hx; subst hx; exact hd e.1
  · exact h
theorem nodup_le : ∀ {n : Nat} {l : List Nat}, l.Nodup → (∀ x ∈ l, x < n) → l.length ≤ n := by
  intro n
  induction n with
  | zero => intro l _ h; cases l with
    | nil => exact Nat.le_refl _
    | cons a t => exact absurd (h a (by simp)) (Nat.not_lt_zero _)
  | succ n ih =>
    intro l hd h
    have h1 := ih (l := l.erase n) (hd.erase n) fun x hx => by
      have h2 := h x (List.mem_of_mem_erase hx)
      have h3 : x ≠ n := fun e => by
        subst e
        exact (List.Nodup.not_mem_erase hd) hx
      omega
    have h2 : l.length ≤ (l.erase n).length + 1 := by
      rw [List.length_erase]
      split <;> omega
    omega
theorem OkS.len {n : Nat} {s : Wk} (h : OkS n s) : s.set.length ≤ n := nodup_le h.nodup h.lt

theorem isPl_iff {n : Int} {k : Nat} : isPl n k = true ↔ 0 ≤ n ∧ n < (k : Int) := by unfold isPl; simp
theorem fitsReg_lt {rs : List Ty} {l n : Int} {m : Ty} (h : fitsReg rs l n m = true) (hl : l ≠ 0) : 0 ≤ n ∧ n < (rs.length : Int) := by
  unfold fitsReg at h
  rw [if_neg hl] at h
  simp only [Bool.and_eq_true] at h
  exact isPl_iff.1 h.1
theorem fitsC_d {c : Cd} {i : Ins} {r : Rw} (h : fitsC c i r = true) : fitsReg c.regs r.d i.d (mainT c.regs i r) = true := by
  unfold fitsC at h; simp only [Bool.and_eq_true] at h; exact h.1
theorem fitsC_a {c : Cd} {i : Ins} {r : Rw} (h : fitsC c i r = true) : fitsReg c.regs r.a i.a (mainT c.regs i r) = true := by
  unfold fitsC at h; simp only [Bool.and_eq_true] at h; exact h.2.1
theorem fitsC_b {c : Cd} {i : Ins} {r : Rw} (h : fitsC c i r = true) : fitsReg c.regs r.b i.b (mainT c.regs i r) = true := by
  unfold fitsC at h; simp only [Bool.and_eq_true] at h; exact h.2.2.1
theorem fitsC_c {c : Cd} {i : Ins} {r : Rw} (h : fitsC c i r = true) : fitsReg c.regs r.c i.c (mainT c.regs i r) = true := by
  unfold fitsC at h; simp only [Bool.and_eq_true] at h; exact h.2.2.2.1
theorem takes_open {c : Cd} {s : Wk} {i : Ins} (h : takesP c s i = true) : knownP i.op = true ∧ fitsC c i (rowP i.op) = true ∧ mayStandP c s i (rowP i.op) = true ∧ readOK s i (rowP i.op) = true := by
  unfold takesP at h; simp only [Bool.and_eq_true] at h; exact h
theorem stand_open {c : Cd} {s : Wk} {i : Ins} {r : Rw} (h : mayStandP c s i r = true) (e : i.op = 34 ∨ i.op = 36) : s.opens.length < 64 := by
  unfold mayStandP at h
  rw [if_pos e] at h
  simp only [Bool.and_eq_true, decide_eq_true_eq] at h
  exact h.2
theorem OkS.step {c : Cd} {s : Wk} {i : Ins} (h : OkS c.regs.length s) (t : takesP c s i = true) : OkS c.regs.length (stepP s i) := by
  obtain ⟨_, h2, h3, _⟩ := takes_open t
  refine (h.turn (stand_open h3)).add fun hd => ?_
  have := fitsReg_lt (fitsC_d h2) hd
  omega


end Go.Proofs.YtnlgkkbmbijndaaGreat
/- Layer 24, plainly: the bytes of numbers, types, slots, instructions, and back. No program in it. -/
namespace Go.Proofs.YtnlgkkbmbijndaaGreat
set_option linter.unusedVariables false
set_option linter.unusedSimpArgs false

/-- A number in groups of seven bits. -/
def numB (n : Nat) : List Nat := if n < 128 then [n] else (n % 128 + 128) :: numB (n / 128)
  termination_by n
/-- A number that is read: how great, of how many bytes; or the error. -/
def numR : List Nat → Nat → Nat → Except Int (Nat × Nat)
  | [], k, n => .error 242
  | b :: l, k, n => if k = 9 ∨ (b = 0 ∧ 0 < k) then .error 243 else if b < 128 then .ok (n + b * 128 ^ k, k + 1) else numR l (k + 1) (n + (b % 128) * 128 ^ k)
theorem numB_low {n : Nat} (h : n < 128) : numB n = [n] := by rw [numB, if_pos h]
theorem numB_high {n : Nat} (h : ¬ n < 128) : numB n = (n % 128 + 128) :: numB (n / 128) := by rw [numB, if_neg h]
theorem numB_lt (n : Nat) : ∀ b ∈ numB n, b < 256 := by
  induction n using Nat.strongRecOn with
  | ind n ih =>
    by_cases h : n < 128
    · rw [numB_low h]; intro b hb; simp only [List.mem_singleton] at hb; omega
    · rw [numB_high h]
      intro b hb
      rcases List.mem_cons.1 hb with e | e
      · omega
      · exact ih (n / 128) (by omega) b e
theorem num_fw (n : Nat) : ∀ (k a : Nat) (rest : List Nat), k ≤ 9 → (0 < k → 0 < n) → n * 128 ^ k < 128 ^ 9 → numR (numB n ++ rest) k a = .ok (a + n * 128 ^ k, k + (numB n).length) := by
  induction n using Nat.strongRecOn with
  | ind n ih =>
    intro k a rest hk h0 hn
    have hk9 : k ≠ 9 := fun e => by
      subst e
      have := h0 (by omega)
      have h1 : 1 * 128 ^ 9 ≤ n * 128 ^ 9 := Nat.mul_le_mul_right _ this
      omega
    by_cases h : n < 128
    · rw [numB_low h]
      show (if k = 9 ∨ (n = 0 ∧ 0 < k) then _ else if n < 128 then _ else _) = _
      rw [if_neg (by rintro (e | ⟨e, e2⟩); exact hk9 e; have := h0 e2; omega), if_pos h]
      rfl
    · rw [numB_high h]
      show (if k = 9 ∨ (n % 128 + 128 = 0 ∧ 0 < k) then _ else if n % 128 + 128 < 128 then _ else _) = _
      have e1 : n / 128 * 128 ^ (k + 1) + n % 128 * 128 ^ k = n * 128 ^ k := by
        rw [Nat.pow_succ, show n / 128 * (128 ^ k * 128) = (128 * (n / 128)) * 128 ^ k by ac_rfl, ← Nat.add_mul, Nat.div_add_mod]
      show (if k = 9 ∨ (n % 128 + 128 = 0 ∧ 0 < k) then _ else if n % 128 + 128 < 128 then _ else numR (numB (n / 128) ++ rest) (k + 1) (a + (n % 128 + 128) % 128 * 128 ^ k)) = _
      rw [if_neg (by rintro (e | ⟨e, e2⟩); exact hk9 e; omega), if_neg (by omega), ih (n / 128) (by omega) (k + 1) _ rest (by omega) (fun _ => by omega) (by omega), show (n % 128 + 128) % 128 = n % 128 by omega]
      congr 2
      · omega
      · rw [List.length_cons]; omega
theorem num_bw : ∀ (l : List Nat) (k a m j : Nat), k ≤ 9 → (∀ b ∈ l, b < 256) → numR l k a = .ok (m, j) → ∃ n rest, l = numB n ++ rest ∧ m = a + n * 128 ^ k ∧ j = k + (numB n).length ∧ (0 < k → 0 < n) ∧ k < 9 ∧ n * 128 ^ k < 128 ^ 9
  | [], k, a, m, j, _, _, h => by cases h
  | b :: l, k, a, m, j, hk9, hb, h => by
    unfold numR at h
    by_cases h1 : k = 9 ∨ (b = 0 ∧ 0 < k)
    · rw [if_pos h1] at h; cases h
    · rw [if_neg h1] at h
      have hb0 := hb b (by simp)
      have hk : k < 9 := by
        rcases Nat.lt_or_ge k 9 with q | q
        · exact q
        · exact absurd (.inl (by omega)) h1
      by_cases h2 : b < 128
      · rw [if_pos h2] at h
        simp only [Except.ok.injEq, Prod.mk.injEq] at h
        refine ⟨b, l, by rw [numB_low h2]; rfl, h.1.symm, by rw [numB_low h2]; exact h.2.symm, fun q => ?_, hk, ?_⟩
        · rcases Nat.eq_zero_or_pos b with e | e
          · exact absurd (.inr ⟨e, q⟩) h1
          · exact e
        · have h3 : 128 ^ (k + 1) ≤ 128 ^ 9 := Nat.pow_le_pow_right (by decide) (by omega)
          have h4 : b * 128 ^ k < 128 * 128 ^ k := Nat.mul_lt_mul_of_pos_right h2 (Nat.pow_pos (by decide))
          rw [Nat.pow_succ] at h3
          omega
      · rw [if_neg h2] at h
        obtain ⟨n, rest, e1, e2, e3, e4, e5, e6⟩ := num_bw l (k + 1) _ m j (by omega) (fun x hx => hb x (List.mem_cons_of_mem _ hx)) h
        have hn0 := e4 (by omega)
        have hN : numB (b % 128 + 128 * n) = b :: numB n := by
          rw [numB_high (by omega), show (b % 128 + 128 * n) % 128 + 128 = b by omega, show (b % 128 + 128 * n) / 128 = n by omega]
        have hv : (b % 128 + 128 * n) * 128 ^ k = b % 128 * 128 ^ k + n * 128 ^ (k + 1) := by
          rw [Nat.add_mul, Nat.pow_succ, show 128 * n * 128 ^ k = n * (128 ^ k * 128) by ac_rfl]
        refine ⟨b % 128 + 128 * n, rest, by rw [hN, e1]; rfl, by rw [hv, e2]; omega, by rw [hN, e3, List.length_cons]; omega, fun _ => by omega, hk, ?_⟩
        rw [hv]
        have h3 : 128 ^ (k + 1) ≤ 128 ^ 9 := Nat.pow_le_pow_right (by decide) (by omega)
        have h4 : b % 128 * 128 ^ k < 128 ^ (k + 1) := by
          rw [Nat.pow_succ, Nat.mul_comm (128 ^ k)]
          exact Nat.mul_lt_mul_of_pos_right (by omega) (Nat.pow_pos (by decide))
        obtain ⟨q, hq⟩ : ∃ q, 128 ^ 9 = q * 128 ^ (k + 1) := ⟨128 ^ (9 - (k + 1)), by rw [← Nat.pow_add]; congr 1; omega⟩
        have h5 : n < q := by
          rw [hq] at e6
          exact Nat.lt_of_mul_lt_mul_right e6
        have h6 : (n + 1) * 128 ^ (k + 1) ≤ q * 128 ^ (k + 1) := Nat.mul_le_mul_right _ h5
        rw [Nat.succ_mul] at h6
        omega
/-- Parts that are read: what is left, and the place. -/
abbrev Pz (α : Type) := List Nat → Nat → Except (Int × Nat) (α × List Nat × Nat)
def pBind {α β : Type} (q : Pz α) (f : α → Pz β) : Pz β := fun l p => match q l p with
  | .error e => .error e
  | .ok (x, l', p') => f x l' p'
def pPure {α : Type} (x : α) : Pz α := fun l p => .ok (x, l, p)
theorem pBind_ok {α β : Type} {q : Pz α} {f : α → Pz β} {l : List Nat} {p : Nat} {y : β × List Nat × Nat} (h : pBind q f l p = .ok y) : ∃ x l' p', q l p = .ok (x, l', p') ∧ f x l' p' = .ok y := by
  unfold pBind at h
  split at h
  · cases h
  · rename_i x l' p' e
    exact ⟨x, l', p', e, h⟩
/-- What is written is read as it was; what is read was written so. -/
structure Rt {α : Type} (e : α → List Nat) (q : Pz α) (ok : α → Prop) : Prop where
  fw : ∀ x, ok x → ∀ (rest : List Nat) (p : Nat), q (e x ++ rest) p = .ok (x, rest, p + (e x).length)
  bw : ∀ (l : List Nat) (p : Nat) (x : α) (l' : List Nat) (p' : Nat), (∀ b ∈ l, b < 256) → q l p = .ok (x, l', p') → l = e x ++ l' ∧ p' = p + (e x).length ∧ ok x
def pNum : Pz Nat := fun l p => match numR l 0 0 with
  | .error e => .error (e, p)
  | .ok (n, k) => .ok (n, l.drop k, p + k)
theorem rt_num : Rt numB pNum (fun n => n < 2 ^ 63) := by
  refine ⟨fun n hn rest p => ?_, fun l p x l' p' hb h => ?_⟩
  · have h9 := num_fw n 0 0 rest (by omega) (fun h => absurd h (by omega)) (by rw [Nat.pow_zero, Nat.mul_one]; exact Nat.lt_of_lt_of_eq hn (by decide))
    unfold pNum
    rw [h9]
    simp
  · unfold pNum at h
    split at h
    · cases h
    · rename_i n k e
      simp only [Except.ok.injEq, Prod.mk.injEq] at h
      obtain ⟨m, rest, e1, e2, e3, -, -, e6⟩ := num_bw l 0 0 n k (by omega) hb e
      have em : m = n := by rw [e2]; simp
      subst em
      obtain ⟨rfl, rfl, rfl⟩ := h
      rw [Nat.zero_add] at e3
      refine ⟨?_, by rw [e3], Nat.lt_of_lt_of_eq (by simpa using e6) (by decide)⟩
      rw [e1, e3]
      simp
/-- So many bytes, the lowest first. -/
def lowB : Nat → Nat → List Nat
  | 0, _ => []
  | k + 1, n => n % 256 :: lowB k (n / 256)
theorem lowB_len : ∀ (k n : Nat), (lowB k n).length = k
  | 0, _ => rfl
  | k + 1, n => by show (lowB k (n / 256)).length + 1 = _; rw [lowB_len]
theorem lowB_lt : ∀ (k n : Nat), ∀ b ∈ lowB k n, b < 256
  | 0, n, b, h => by cases h
  | k + 1, n, b, h => by
    rcases List.mem_cons.1 h with e | e
    · omega
    · exact lowB_lt k _ b e
theorem lowN_lowB : ∀ (k n : Nat), n < 256 ^ k → lowN (lowB k n) = n
  | 0, n, h => by have : n = 0 := by simpa using h
                  subst this; rfl
  | k + 1, n, h => by
    show n % 256 + 256 * lowN (lowB k (n / 256)) = n
    rw [lowN_lowB k (n / 256) (by rw [Nat.pow_succ] at h; omega)]
    omega
theorem lowB_lowN : ∀ (l : List Nat), (∀ b ∈ l, b < 256) → lowB l.length (lowN l) = l
  | [], _ => rfl
  | b :: l, h => by
    have h1 := h b (by simp)
    show (b + 256 * lowN l) % 256 :: lowB l.length ((b + 256 * lowN l) / 256) = b :: l
    rw [show (b + 256 * lowN l) % 256 = b by omega, show (b + 256 * lowN l) / 256 = lowN l by omega, lowB_lowN l (fun x hx => h x (List.mem_cons_of_mem _ hx))]
def pTake (n : Nat) : Pz (List Nat) := fun l p => if l.length < n then .error (242, p) else .ok (l.take n, l.drop n, p + n)
def pFix (k : Nat) : Pz Nat := pBind (pTake k) fun l => pPure (lowN l)
theorem rt_fix (k : Nat) : Rt (lowB k) (pFix k) (fun n => n < 256 ^ k) := by
  refine ⟨fun n hn rest p => ?_, fun l p x l' p' hb h => ?_⟩
  · unfold pFix pBind pTake pPure
    rw [if_neg (by rw [List.length_append, lowB_len]; omega)]
    have e1 : (lowB k n ++ rest).take k = lowB k n := by rw [List.take_append_of_le_length (by rw [lowB_len]; exact Nat.le_refl _), List.take_of_length_le (by rw [lowB_len]; exact Nat.le_refl _)]
    have e2 : (lowB k n ++ rest).drop k = rest := by rw [List.drop_append_of_le_length (by rw [lowB_len]; exact Nat.le_refl _), List.drop_of_length_le (by rw [lowB_len]; exact Nat.le_refl _)]; rfl
    simp only [e1, e2, lowB_len, lowN_lowB k n hn]
  · obtain ⟨y, m, q, h1, h2⟩ := pBind_ok h
    unfold pTake at h1
    split at h1
    · cases h1
    · rename_i hl
      simp only [Except.ok.injEq, Prod.mk.injEq] at h1
      obtain ⟨rfl, rfl, rfl⟩ := h1
      unfold pPure at h2
      simp only [Except.ok.injEq, Prod.mk.injEq] at h2
      obtain ⟨rfl, rfl, rfl⟩ := h2
      have ht : (l.take k).length = k := by rw [List.length_take]; omega
      have hb' : ∀ b ∈ l.take k, b < 256 := fun b hx => hb b (List.mem_of_mem_take hx)
      have e1 := lowB_lowN (l.take k) hb'
      rw [ht] at e1
      have e2 := lowN_lt (l.take k) hb'
      rw [ht] at e2
      exact ⟨by rw [e1, List.take_append_drop], by rw [lowB_len], e2⟩

end Go.Proofs.YtnlgkkbmbijndaaGreat
/- Layer 24, plainly: the bytes of parameters, types, slots, instructions, and back. No program in it. -/
namespace Go.Proofs.YtnlgkkbmbijndaaGreat
set_option linter.unusedVariables false
set_option linter.unusedSimpArgs false

section
variable {α β : Type} {e : α → List Nat} {q : Pz α} {ok : α → Prop} {f : α → Pz β} {x : α} {l l' : List Nat} {p p' : Nat}
theorem Rt.go (h : Rt e q ok) (hx : ok x) (rest : List Nat) (p : Nat) : pBind q f (e x ++ rest) p = f x rest (p + (e x).length) := by
  unfold pBind
  rw [h.fw x hx]
theorem Rt.open (h : Rt e q ok) (hb : ∀ b ∈ l, b < 256) {y : β × List Nat × Nat} (hy : pBind q f l p = .ok y) : ∃ x l' p', l = e x ++ l' ∧ p' = p + (e x).length ∧ ok x ∧ (∀ b ∈ l', b < 256) ∧ f x l' p' = .ok y := by
  obtain ⟨x, l', p', h1, h2⟩ := pBind_ok hy
  obtain ⟨e1, e2, e3⟩ := h.bw l p x l' p' hb h1
  exact ⟨x, l', p', e1, e2, e3, fun b hx => hb b (by rw [e1]; exact List.mem_append.2 (.inr hx)), h2⟩
end
/-- A byte from lo to hi. -/
def pByte (lo hi : Nat) : Pz Nat := fun l p => match l with
  | [] => .error (242, p)
  | b :: l => if b < lo ∨ hi < b then .error (243, p) else .ok (b, l, p + 1)
theorem rt_byte (lo hi : Nat) : Rt (fun b => [b]) (pByte lo hi) (fun b => lo ≤ b ∧ b ≤ hi) := by
  refine ⟨fun b hb rest p => ?_, fun l p x l' p' _ h => ?_⟩
  · show (if b < lo ∨ hi < b then _ else _) = _
    rw [if_neg (by omega)]
    rfl
  · cases l with
    | nil => cases h
    | cons b l =>
      have h' := h
      unfold pByte at h'
      simp only at h'
      split at h'
      · cases h'
      · simp only [Except.ok.injEq, Prod.mk.injEq] at h'
        obtain ⟨rfl, rfl, rfl⟩ := h'
        exact ⟨rfl, rfl, by omega⟩
def pCount (most : Nat) : Pz Nat := fun l p => match pNum l p with
  | .error e => .error e
  | .ok (n, l', p') => if most < n then .error (2, p) else .ok (n, l', p')
theorem rt_count {most : Nat} (hm : most < 2 ^ 63) : Rt numB (pCount most) (fun n => n ≤ most) := by
  refine ⟨fun n hn rest p => ?_, fun l p x l' p' hb h => ?_⟩
  · unfold pCount
    rw [rt_num.fw n (by omega)]
    simp only
    rw [if_neg (by omega)]
  · unfold pCount at h
    split at h
    · cases h
    · rename_i n m k e
      split at h
      · cases h
      · simp only [Except.ok.injEq, Prod.mk.injEq] at h
        obtain ⟨rfl, rfl, rfl⟩ := h
        obtain ⟨e1, e2, e3⟩ := rt_num.bw l p _ _ _ hb e
        exact ⟨e1, e2, by omega⟩
def pRep {α : Type} (q : Pz α) : Nat → Pz (List α)
  | 0 => pPure []
  | n + 1 => pBind q fun x => pBind (pRep q n) fun xs => pPure (x :: xs)
theorem rt_rep {α : Type} {e : α → List Nat} {q : Pz α} {ok : α → Prop} (h : Rt e q ok) : ∀ n, Rt (fun l : List α => l.flatMap e) (pRep q n) (fun l => l.length = n ∧ ∀ x ∈ l, ok x)
  | 0 => by
    refine ⟨fun l hl rest p => ?_, fun l p x l' p' _ hh => ?_⟩
    · have : l = [] := List.eq_nil_of_length_eq_zero hl.1
      subst this
      rfl
    · have h' : Except.ok (([] : List α), l, p) = Except.ok (x, l', p') := hh
      simp only [Except.ok.injEq, Prod.mk.injEq] at h'
      obtain ⟨rfl, rfl, rfl⟩ := h'
      exact ⟨rfl, rfl, rfl, fun x hx => (by cases hx)⟩
  | n + 1 => by
    have ih := rt_rep h n
    refine ⟨fun l hl rest p => ?_, fun l p x l' p' hb hh => ?_⟩
    · cases l with
      | nil => exact absurd hl.1 (by simp)
      | cons a l =>
        have ha := hl.2 a (by simp)
        have hl' : l.length = n ∧ ∀ x ∈ l, ok x := ⟨by simpa using hl.1, fun x hx => hl.2 x (List.mem_cons_of_mem _ hx)⟩
        show pBind q (fun x => pBind (pRep q n) fun xs => pPure (x :: xs)) ((e a ++ l.flatMap e) ++ rest) p = _
        rw [List.append_assoc, h.go ha, ih.go hl']
        show Except.ok (a :: l, rest, p + (e a).length + (l.flatMap e).length) = Except.ok (a :: l, rest, p + (e a ++ l.flatMap e).length)
        rw [List.length_append, Nat.add_assoc]
    · have hh' : pBind q (fun x => pBind (pRep q n) fun xs => pPure (x :: xs)) l p = .ok (x, l', p') := hh
      obtain ⟨a, m, k, e1, e2, e3, e4, e5⟩ := h.open hb hh'
      obtain ⟨az, m2, k2, f1, f2, f3, f4, f5⟩ := ih.open e4 e5
      have f5' : Except.ok (a :: az, m2, k2) = Except.ok (x, l', p') := f5
      simp only [Except.ok.injEq, Prod.mk.injEq] at f5'
      obtain ⟨rfl, rfl, rfl⟩ := f5'
      refine ⟨?_, ?_, by simp [f3.1], fun y hy => ?_⟩
      · rw [e1, f1, List.flatMap_cons, List.append_assoc]
      · rw [f2, e2, List.flatMap_cons, List.length_append, Nat.add_assoc]
      · rcases List.mem_cons.1 hy with r | r
        · rw [r]; exact e3
        · exact f3.2 y r
/-- A list: how many, and each of them. -/
def eLst {α : Type} (e : α → List Nat) (l : List α) : List Nat := numB l.length ++ l.flatMap e
def pLst {α : Type} (most : Nat) (q : Pz α) : Pz (List α) := pBind (pCount most) fun n => pRep q n
theorem rt_lst {α : Type} {e : α → List Nat} {q : Pz α} {ok : α → Prop} (h : Rt e q ok) {most : Nat} (hm : most < 2 ^ 63) : Rt (eLst e) (pLst most q) (fun l => l.length ≤ most ∧ ∀ x ∈ l, ok x) := by
  refine ⟨fun l hl rest p => ?_, fun l p x l' p' hb hh => ?_⟩
  · unfold eLst pLst
    rw [List.append_assoc, (rt_count hm).go hl.1, (rt_rep h l.length).fw l ⟨rfl, hl.2⟩, List.length_append, Nat.add_assoc]
  · obtain ⟨n, m, k, e1, e2, e3, e4, e5⟩ := (rt_count hm).open hb hh
    obtain ⟨f1, f2, f3⟩ := (rt_rep h n).bw m k x l' p' e4 e5
    have hn := f3.1
    subst hn
    refine ⟨?_, ?_, e3, f3.2⟩
    · unfold eLst; rw [e1, f1, List.append_assoc]
    · unfold eLst; rw [f2, e2, List.length_append, Nat.add_assoc]
/-- A field that may be named or not. -/
def eFld (b : Bool) (v : Int) : List Nat := if b = true then numB v.toNat else []
def pFld (b : Bool) : Pz Int := if b = true then pBind pNum fun n => pPure (n : Int) else pPure 0
theorem rt_fld (b : Bool) : Rt (eFld b) (pFld b) (fun v => 0 ≤ v ∧ v < 2 ^ 63 ∧ (b = false → v = 0)) := by
  cases b with
  | true =>
    refine ⟨fun v hv rest p => ?_, fun l p x l' p' hb hh => ?_⟩
    · show pBind pNum (fun n => pPure (n : Int)) (numB v.toNat ++ rest) p = _
      rw [rt_num.go (by have := hv.2.1; omega)]
      show Except.ok ((v.toNat : Int), rest, _) = _
      rw [Int.toNat_of_nonneg hv.1]
      rfl
    · obtain ⟨n, m, k, e1, e2, e3, e4, e5⟩ := rt_num.open hb hh
      have e5' : Except.ok ((n : Int), m, k) = Except.ok (x, l', p') := e5
      simp only [Except.ok.injEq, Prod.mk.injEq] at e5'
      obtain ⟨rfl, rfl, rfl⟩ := e5'
      exact ⟨by show l = numB (n : Int).toNat ++ m; rw [Int.toNat_natCast]; exact e1, by show k = p + (numB (n : Int).toNat).length; rw [Int.toNat_natCast]; exact e2, by omega, by omega, fun h => (by cases h)⟩
  | false =>
    refine ⟨fun v hv rest p => ?_, fun l p x l' p' hb hh => ?_⟩
    · have := hv.2.2 rfl
      subst this
      rfl
    · have e5' : Except.ok ((0 : Int), l, p) = Except.ok (x, l', p') := hh
      simp only [Except.ok.injEq, Prod.mk.injEq] at e5'
      obtain ⟨rfl, rfl, rfl⟩ := e5'
      exact ⟨rfl, rfl, by omega, by omega, fun _ => rfl⟩
/-- Two parts, one behind the other. -/
theorem rt_two {α β : Type} {e : α → List Nat} {q : Pz α} {ok : α → Prop} (h : Rt e q ok) {e' : α → β → List Nat} {q' : α → Pz β} {ok' : α → β → Prop} (h' : ∀ x, ok x → Rt (e' x) (q' x) (ok' x)) :
    Rt (fun z : α × β => e z.1 ++ e' z.1 z.2) (pBind q fun x => pBind (q' x) fun y => pPure (x, y)) (fun z => ok z.1 ∧ ok' z.1 z.2) := by
  refine ⟨fun z hz rest p => ?_, fun l p x l' p' hb hh => ?_⟩
  · obtain ⟨a, b⟩ := z
    show pBind q _ ((e a ++ e' a b) ++ rest) p = _
    rw [List.append_assoc, h.go hz.1, (h' a hz.1).go hz.2]
    show Except.ok ((a, b), rest, p + (e a).length + (e' a b).length) = Except.ok ((a, b), rest, p + (e a ++ e' a b).length)
    rw [List.length_append, Nat.add_assoc]
  · obtain ⟨a, m, k, e1, e2, e3, e4, e5⟩ := h.open hb hh
    obtain ⟨b, m2, k2, f1, f2, f3, f4, f5⟩ := (h' a e3).open e4 e5
    have f5' : Except.ok ((a, b), m2, k2) = Except.ok (x, l', p') := f5
    simp only [Except.ok.injEq, Prod.mk.injEq] at f5'
    obtain ⟨rfl, rfl, rfl⟩ := f5'
    exact ⟨by rw [e1, f1, List.append_assoc], by rw [f2, e2, List.length_append, Nat.add_assoc], e3, f3⟩
/-- The same, seen as something else. -/
theorem rt_map {α β : Type} {e : α → List Nat} {q : Pz α} {ok : α → Prop} (h : Rt e q ok) {g : α → β} {i : β → α} (hg : ∀ x, ok x → i (g x) = x) {ok' : β → Prop} (hi : ∀ y, ok' y → ok (i y) ∧ g (i y) = y) (ho : ∀ x, ok x → ok' (g x)) :
    Rt (fun y => e (i y)) (pBind q fun x => pPure (g x)) ok' := by
  refine ⟨fun y hy rest p => ?_, fun l p x l' p' hb hh => ?_⟩
  · obtain ⟨h1, h2⟩ := hi y hy
    rw [h.go h1]
    show Except.ok (g (i y), rest, _) = _
    rw [h2]
  · obtain ⟨a, m, k, e1, e2, e3, e4, e5⟩ := h.open hb hh
    have e5' : Except.ok (g a, m, k) = Except.ok (x, l', p') := e5
    simp only [Except.ok.injEq, Prod.mk.injEq] at e5'
    obtain ⟨rfl, rfl, rfl⟩ := e5'
    exact ⟨by rw [hg a e3]; exact e1, by rw [hg a e3]; exact e2, ho a e3⟩

end Go.Proofs.YtnlgkkbmbijndaaGreat
/- Layer 24, plainly: the bytes of a code, and back. No program in it. -/
namespace Go.Proofs.YtnlgkkbmbijndaaGreat
set_option linter.unusedVariables false
set_option linter.unusedSimpArgs false

/-- A text's bytes. -/
def bytN (b : ByteArray) : List Nat := b.data.toList.map UInt8.toNat
def ofN (l : List Nat) : ByteArray := ⟨(l.map UInt8.ofNat).toArray⟩
theorem bytN_len (b : ByteArray) : (bytN b).length = b.size := by
  show (b.data.toList.map UInt8.toNat).length = b.data.size
  rw [List.length_map, Array.length_toList]
theorem bytN_lt (b : ByteArray) : ∀ x ∈ bytN b, x < 256 := fun x hx => by
  unfold bytN at hx
  obtain ⟨u, -, rfl⟩ := List.mem_map.1 hx
  exact u.toNat_lt
theorem ofN_bytN (b : ByteArray) : ofN (bytN b) = b := by
  unfold ofN bytN
  rw [List.map_map]
  have : (UInt8.ofNat ∘ UInt8.toNat) = id := funext fun u => by simp
  rw [this, List.map_id]
theorem bytN_ofN {l : List Nat} (h : ∀ x ∈ l, x < 256) : bytN (ofN l) = l := by
  unfold ofN bytN
  simp only [List.map_map]
  have : ∀ x ∈ l, (UInt8.toNat ∘ UInt8.ofNat) x = id x := fun x hx => by
    show (UInt8.ofNat x).toNat = x
    rw [UInt8.toNat_ofNat']
    exact Nat.mod_eq_of_lt (h x hx)
  rw [List.map_congr_left this, List.map_id]
theorem ofN_size (l : List Nat) : (ofN l).size = l.length := by unfold ofN; simp [ByteArray.size]
theorem rt_take (n : Nat) : Rt (fun l => l) (pTake n) (fun l => l.length = n) := by
  refine ⟨fun l hl rest p => ?_, fun l p x l' p' hb h => ?_⟩
  · unfold pTake
    rw [if_neg (by rw [List.length_append]; omega), List.take_append_of_le_length (by omega), List.take_of_length_le (by omega), List.drop_append_of_le_length (by omega), List.drop_of_length_le (by omega), hl]
    rfl
  · unfold pTake at h
    split at h
    · cases h
    · simp only [Except.ok.injEq, Prod.mk.injEq] at h
      obtain ⟨rfl, rfl, rfl⟩ := h
      have : (l.take n).length = n := by rw [List.length_take]; omega
      exact ⟨(List.take_append_drop n l).symm, by rw [this], this⟩
/-- A name: how many bytes, and these. -/
def eNam (b : ByteArray) : List Nat := numB b.size ++ bytN b
def pNam : Pz ByteArray := pBind (pCount 64) fun n => pBind (pTake n) fun l => pPure (ofN l)
theorem rt_nam : Rt eNam pNam (fun b => b.size ≤ 64) := by
  refine ⟨fun b hb rest p => ?_, fun l p x l' p' hb hh => ?_⟩
  · unfold eNam pNam
    rw [List.append_assoc, (rt_count (by decide)).go hb, (rt_take b.size).go (x := bytN b) (bytN_len b)]
    show Except.ok (ofN (bytN b), rest, _) = _
    rw [ofN_bytN, List.length_append, Nat.add_assoc]
  · obtain ⟨n, m, k, e1, e2, e3, e4, e5⟩ := (rt_count (by decide)).open hb hh
    obtain ⟨y, m2, k2, f1, f2, f3, f4, f5⟩ := (rt_take n).open e4 e5
    have f5' : Except.ok (ofN y, m2, k2) = Except.ok (x, l', p') := f5
    simp only [Except.ok.injEq, Prod.mk.injEq] at f5'
    obtain ⟨rfl, rfl, rfl⟩ := f5'
    have hy : ∀ b ∈ y, b < 256 := fun b h => e4 b (by rw [f1]; exact List.mem_append.2 (.inl h))
    have f3' : y.length = n := f3
    refine ⟨?_, ?_, by rw [ofN_size]; omega⟩
    · unfold eNam; rw [ofN_size, bytN_ofN hy, f3', e1, f1, List.append_assoc]
    · unfold eNam; rw [ofN_size, bytN_ofN hy, f3', f2, e2, List.length_append, Nat.add_assoc]
/-- A parameter. -/
def ePar (p : Par) : List Nat := [p.kind.toNat] ++ (eNam p.name ++ eFld true p.len)
def pPar : Pz Par := pBind (pBind (pByte 1 2) fun k => pBind (pBind pNam fun n => pBind (pFld true) fun v => pPure (n, v)) fun z => pPure (k, z)) fun (z : Nat × ByteArray × Int) => pPure (⟨z.2.1, (z.1 : Int), z.2.2⟩ : Par)
def okPar (p : Par) : Prop := 1 ≤ p.kind ∧ p.kind ≤ 2 ∧ p.name.size ≤ 64 ∧ 0 ≤ p.len ∧ p.len < 2 ^ 63
theorem rt_par : Rt ePar pPar okPar := by
  have h1 : Rt (fun z : ByteArray × Int => eNam z.1 ++ eFld true z.2) (pBind pNam fun n => pBind (pFld true) fun v => pPure (n, v)) (fun z => z.1.size ≤ 64 ∧ (0 ≤ z.2 ∧ z.2 < 2 ^ 63 ∧ (true = false → z.2 = 0))) :=
    rt_two rt_nam (e' := fun _ v => eFld true v) (q' := fun _ => pFld true) (ok' := fun _ v => 0 ≤ v ∧ v < 2 ^ 63 ∧ (true = false → v = 0)) (fun n hn => rt_fld true)
  have h2 : Rt (fun z : Nat × ByteArray × Int => [z.1] ++ (eNam z.2.1 ++ eFld true z.2.2)) (pBind (pByte 1 2) fun k => pBind (pBind pNam fun n => pBind (pFld true) fun v => pPure (n, v)) fun z => pPure (k, z)) (fun z => (1 ≤ z.1 ∧ z.1 ≤ 2) ∧ (z.2.1.size ≤ 64 ∧ (0 ≤ z.2.2 ∧ z.2.2 < 2 ^ 63 ∧ (true = false → z.2.2 = 0)))) :=
    rt_two (rt_byte 1 2) (e' := fun _ z => eNam z.1 ++ eFld true z.2) (q' := fun _ => pBind pNam fun n => pBind (pFld true) fun v => pPure (n, v)) (ok' := fun _ z => z.1.size ≤ 64 ∧ (0 ≤ z.2 ∧ z.2 < 2 ^ 63 ∧ (true = false → z.2 = 0))) (fun k hk => h1)
  refine rt_map h2 (g := fun (z : Nat × ByteArray × Int) => (⟨z.2.1, (z.1 : Int), z.2.2⟩ : Par)) (i := fun (p : Par) => (p.kind.toNat, p.name, p.len)) (ok' := okPar) (fun z hz => by simp) (fun p hp => ?_) (fun z hz => ?_)
  · obtain ⟨n, k, l⟩ := p
    obtain ⟨a1, a2, a3, a4, a5⟩ := hp
    have b1 : 1 ≤ k := a1
    have b2 : k ≤ 2 := a2
    refine ⟨⟨⟨by show 1 ≤ k.toNat; omega, by show k.toNat ≤ 2; omega⟩, a3, a4, a5, fun h => (by cases h)⟩, ?_⟩
    show (⟨n, (k.toNat : Int), l⟩ : Par) = ⟨n, k, l⟩
    rw [Int.toNat_of_nonneg (by omega)]
  · obtain ⟨⟨a1, a2⟩, a3, a4, a5, -⟩ := hz
    exact ⟨by show 1 ≤ (z.1 : Int); omega, by show (z.1 : Int) ≤ 2; omega, a3, a4, a5⟩
/-- A type. -/
def eTy (t : Ty) : List Nat := [t.kind.toNat] ++ eFld (decide (t.kind.toNat = 3)) t.par
def pTy : Pz Ty := pBind (pBind (pByte 1 3) fun k => pBind (pFld (decide (k = 3))) fun v => pPure (k, v)) fun (z : Nat × Int) => pPure (⟨(z.1 : Int), z.2⟩ : Ty)
def okTy (t : Ty) : Prop := 1 ≤ t.kind ∧ t.kind ≤ 3 ∧ 0 ≤ t.par ∧ t.par < 2 ^ 63 ∧ (t.kind ≠ 3 → t.par = 0)
theorem rt_ty : Rt eTy pTy okTy := by
  have h1 : Rt (fun z : Nat × Int => [z.1] ++ eFld (decide (z.1 = 3)) z.2) (pBind (pByte 1 3) fun k => pBind (pFld (decide (k = 3))) fun v => pPure (k, v)) (fun z => (1 ≤ z.1 ∧ z.1 ≤ 3) ∧ (0 ≤ z.2 ∧ z.2 < 2 ^ 63 ∧ (decide (z.1 = 3) = false → z.2 = 0))) :=
    rt_two (rt_byte 1 3) (e' := fun k v => eFld (decide (k = 3)) v) (q' := fun k => pFld (decide (k = 3))) (ok' := fun k v => 0 ≤ v ∧ v < 2 ^ 63 ∧ (decide (k = 3) = false → v = 0)) (fun k hk => rt_fld (decide (k = 3)))
  refine rt_map h1 (g := fun (z : Nat × Int) => (⟨(z.1 : Int), z.2⟩ : Ty)) (i := fun (t : Ty) => (t.kind.toNat, t.par)) (ok' := okTy) (fun z hz => by simp) (fun t ht => ?_) (fun z hz => ?_)
  · obtain ⟨k, q⟩ := t
    obtain ⟨a1, a2, a3, a4, a5⟩ := ht
    have b1 : 1 ≤ k := a1
    have b2 : k ≤ 3 := a2
    refine ⟨⟨⟨by show 1 ≤ k.toNat; omega, by show k.toNat ≤ 3; omega⟩, a3, a4, fun h => a5 ?_⟩, ?_⟩
    · have h' : ¬ k.toNat = 3 := by simpa using h
      show k ≠ 3
      omega
    · show (⟨(k.toNat : Int), q⟩ : Ty) = ⟨k, q⟩
      rw [Int.toNat_of_nonneg (by omega)]
  · obtain ⟨⟨a1, a2⟩, a4, a5, a6⟩ := hz
    refine ⟨by show 1 ≤ (z.1 : Int); omega, by show (z.1 : Int) ≤ 3; omega, a4, a5, fun h => a6 ?_⟩
    have h' : ¬ (z.1 : Int) = 3 := h
    simp only [decide_eq_false_iff_not]
    omega
/-- A slot. -/
def eSl (s : Sl) : List Nat := [if s.keep = true then 1 else 0] ++ (eTy s.ty ++ (if s.ty.kind = 2 then numB s.int_.toNat else lowB 4 s.bits.toNat))
def pSl : Pz Sl := pBind (pByte 0 1) fun k => pBind pTy fun t => if t.kind = 2 then pBind pNum fun n => pPure (⟨t, k == 1, 0, (n : Int)⟩ : Sl) else pBind (pFix 4) fun n => pPure (⟨t, k == 1, (n : Int), 0⟩ : Sl)
def okSl (s : Sl) : Prop := okTy s.ty ∧ 0 ≤ s.int_ ∧ s.int_ < 2 ^ 63 ∧ 0 ≤ s.bits ∧ s.bits < 2 ^ 32 ∧ (s.ty.kind = 2 → s.bits = 0) ∧ (s.ty.kind ≠ 2 → s.int_ = 0)
theorem rt_sl : Rt eSl pSl okSl := by
  refine ⟨fun s hs rest p => ?_, fun l p x l' p' hb hh => ?_⟩
  · obtain ⟨t, k, z, n⟩ := s
    obtain ⟨a1, a2, a3, a4, a5, a6, a7⟩ := hs
    unfold eSl pSl
    rw [List.append_assoc, List.append_assoc, (rt_byte 0 1).go (x := if k = true then 1 else 0) (by split <;> omega), rt_ty.go a1]
    have hk : ((if k = true then 1 else 0 : Nat) == 1) = k := by cases k <;> rfl
    by_cases q : t.kind = 2
    · have b6 : z = 0 := a6 q
      have b2 : 0 ≤ n := a2
      have b3 : n < 2 ^ 63 := a3
      simp only [q, if_true]
      rw [rt_num.go (x := n.toNat) (by omega)]
      show Except.ok ((⟨t, _ == 1, 0, (n.toNat : Int)⟩ : Sl), rest, _) = _
      rw [hk, Int.toNat_of_nonneg b2, b6]
      simp only [List.length_append, Nat.add_assoc]
    · have b7 : n = 0 := a7 q
      have b4 : 0 ≤ z := a4
      have b5 : z < 2 ^ 32 := a5
      simp only [q, if_false]
      rw [(rt_fix 4).go (x := z.toNat) (by show z.toNat < 256 ^ 4; omega)]
      show Except.ok ((⟨t, _ == 1, (z.toNat : Int), 0⟩ : Sl), rest, _) = _
      rw [hk, Int.toNat_of_nonneg b4, b7]
      simp only [List.length_append, Nat.add_assoc]
  · obtain ⟨k, m, j, e1, e2, e3, e4, e5⟩ := (rt_byte 0 1).open hb hh
    obtain ⟨t, m2, j2, f1, f2, f3, f4, f5⟩ := rt_ty.open e4 e5
    have hk : (if (k == 1) = true then 1 else 0 : Nat) = k := by
      rcases (show k = 0 ∨ k = 1 by omega) with r | r <;> subst r <;> rfl
    by_cases q : t.kind = 2
    · rw [if_pos q] at f5
      obtain ⟨n, m3, j3, g1, g2, g3, g4, g5⟩ := rt_num.open f4 f5
      have g5' : Except.ok ((⟨t, k == 1, 0, (n : Int)⟩ : Sl), m3, j3) = Except.ok (x, l', p') := g5
      simp only [Except.ok.injEq, Prod.mk.injEq] at g5'
      obtain ⟨rfl, rfl, rfl⟩ := g5'
      refine ⟨?_, ?_, f3, by show (0 : Int) ≤ (n : Int); omega, by show (n : Int) < 2 ^ 63; omega, by show (0 : Int) ≤ 0; omega, by show (0 : Int) < 2 ^ 32; omega, fun _ => rfl, fun h => absurd q h⟩
      · unfold eSl
        simp only [q, if_true, hk, Int.toNat_natCast]
        rw [e1, f1, g1]
        simp only [List.append_assoc]
      · unfold eSl
        simp only [q, if_true, hk, Int.toNat_natCast]
        rw [g2, f2, e2]
        simp only [List.length_append, Nat.add_assoc]
    · rw [if_neg q] at f5
      obtain ⟨n, m3, j3, g1, g2, g3, g4, g5⟩ := (rt_fix 4).open f4 f5
      have g3' : n < 256 ^ 4 := g3
      have g5' : Except.ok ((⟨t, k == 1, (n : Int), 0⟩ : Sl), m3, j3) = Except.ok (x, l', p') := g5
      simp only [Except.ok.injEq, Prod.mk.injEq] at g5'
      obtain ⟨rfl, rfl, rfl⟩ := g5'
      refine ⟨?_, ?_, f3, by show (0 : Int) ≤ 0; omega, by show (0 : Int) < 2 ^ 63; omega, by show (0 : Int) ≤ (n : Int); omega, by show (n : Int) < 2 ^ 32; omega, fun h => absurd h q, fun _ => rfl⟩
      · unfold eSl
        simp only [q, if_false, hk, Int.toNat_natCast]
        rw [e1, f1, g1]
        simp only [List.append_assoc]
      · unfold eSl
        simp only [q, if_false, hk, Int.toNat_natCast]
        rw [g2, f2, e2]
        simp only [List.length_append, Nat.add_assoc]

end Go.Proofs.YtnlgkkbmbijndaaGreat
/- Layer 16, plainly: beginnings; an instruction that is left out. No program in it. -/
namespace Go.Proofs.YtnlgkkbmbijndaaGreat
set_option linter.unusedVariables false
set_option linter.unusedSimpArgs false

def runP : Wk → List Ins → Wk
  | s, [] => s
  | s, i :: r => runP (stepP s i) r
def takenP (c : Cd) : Wk → List Ins → Bool
  | _, [] => true
  | s, i :: r => takesP c s i && takenP c (stepP s i) r
theorem goP_ok {c : Cd} : ∀ {l : List Ins} {s : Wk} {k : Nat}, (goP c s k l).1 = 0 ↔ takenP c s l = true ∧ (runP s l).opens.isEmpty = true
  | [], s, k => by
    simp only [goP, takenP, runP, true_and]
    by_cases h : s.opens.isEmpty = true
    · simp [h]
    · simp [h]
  | i :: l, s, k => by
    simp only [goP, takenP, runP, Bool.and_eq_true]
    by_cases h : takesP c s i = true
    · rw [if_pos h, goP_ok (k := k + 1)]
      simp [h]
    · rw [if_neg h]
      simp [h]
/-- A code that is taken: what stands ahead is well, every instruction is taken, no block is open. -/
theorem checkC_ok {c : Cd} : (checkC c).1 = 0 ↔ aheadP c = 0 ∧ takenP c ⟨[], []⟩ c.list = true ∧ (runP ⟨[], []⟩ c.list).opens.isEmpty = true := by
  unfold checkC
  by_cases h : aheadP c = 0
  · rw [if_neg (by simp [h]), goP_ok]; simp [h]
  · rw [if_pos h]; simp [h]

end Go.Proofs.YtnlgkkbmbijndaaGreat
