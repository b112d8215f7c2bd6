import Derived.RowKit3
import Derived.Test.YtgcmnkanjcfndaaGreatDoorRows
import Derived.WalkKit
import Derived.WalkSpells
import Derived.WalkLawsBesides
import Derived.LoopN
import Derived.Below
import Derived.OwnWalk
import Derived.Shelf.Abstract
import Derived.Deep.AppendLies
import Derived.Maps.AppendAt
import Derived.Laws.AppendOwnNone
import Derived.Deep.OwnRows
import Derived.Deep.DeepCutAuto
import Derived.Deep.QuietTactic
import Derived.Deep.RegionHeld3
import Derived.BigQuiet
import Derived.Handy
import Derived.OrdersHeld
namespace Go.Proofs.YtgcmnkanjcfndaaGreatDoor
set_option linter.unusedVariables false
set_option linter.unusedSimpArgs false
abbrev Bs := List UInt8
def bs (s : ByteArray) : Bs := s.data.toList
def nb (b : UInt8) : Int := (b.toNat : Int)
def hd : Bs → Int
 | [] => 0
 | b :: _ => nb b
theorem bs_length (s : ByteArray) : (bs s).length = s.size := by simp [bs]
theorem of_bs (s : ByteArray) : (⟨(bs s).toArray⟩ : ByteArray) = s := by simp [bs]
theorem bs_of (x : Bs) : bs ⟨x.toArray⟩ = x := by simp [bs]
theorem bs_inj {s t : ByteArray} (h : bs s = bs t) : s = t := by rw [← of_bs s, ← of_bs t, h]
structure Par where
 name : ByteArray
 kind : Int
 len : Int
def pIn (c : Int) : Bool :=
 (decide (97 ≤ c) && decide (c ≤ 122)) || (decide (65 ≤ c) && decide (c ≤ 90)) || (decide (48 ≤ c) && decide (c ≤ 57)) || c == 95 || c == 46 || c == 47 || c == 45
def namedP (s : ByteArray) : Bool := (s.size != 0 && decide (s.size ≤ 64)) && (bs s).all fun b => pIn (nb b)
def mayP (p : Par) : Bool := (namedP p.name && (p.kind == 1 || p.kind == 2)) && (decide (1 ≤ p.len) && decide (p.len ≤ 4096))
def numP (p : Par) : Int := if mayP p then (if p.kind == 2 then 2 * p.len else p.len) else 0
def totP : List Par → Int
 | [] => 0
 | p :: r => numP p + totP r
def findP (s : ByteArray) : List Par → Option Nat
 | [] => none
 | p :: r => if p.name = s then some 0 else (findP s r).map (· + 1)
def twiceP : List Par → Bool
 | [] => false
 | p :: r => (r.any fun q => decide (q.name = p.name)) || twiceP r
def checkP (l : List Par) : Int :=
 if l.length > 64 then 2 else if l.all mayP = false then 100 else if twiceP l then 101 else if totP l > 65536 then 102 else 0
theorem num_bounds (p : Par) : 0 ≤ numP p ∧ numP p ≤ 8192 := by
 unfold numP
 split
 ·rename_i h
  unfold mayP at h
  simp at h
  split <;> omega
 ·decide
theorem tot_snoc (l : List Par) (p : Par) : totP (l ++ [p]) = totP l + numP p := by
 induction l with
 | nil => simp [totP]
 | cons q r ih => simp only [List.cons_append, totP, ih]; omega
theorem tot_bounds (l : List Par) : 0 ≤ totP l ∧ totP l ≤ 8192 * (l.length : Int) := by
 induction l with
 | nil => simp [totP]
 | cons q r ih => have := num_bounds q; simp only [totP, List.length_cons]; omega
theorem take_succ {α : Type} {l : List α} {i : Nat} (h : i < l.length) : l.take (i + 1) = l.take i ++ [l[i]] := by simp
theorem find_some {s : ByteArray} : ∀ {l : List Par} {i : Nat}, (h : i < l.length) → l[i].name = s → (∀ j (h : j < l.length), j < i → l[j].name ≠ s) → findP s l = some i
 | [], i, h, _, _ => absurd h (Nat.not_lt_zero _)
 | p :: r, 0, _, e, _ => by simp only [findP]; rw [if_pos (show p.name = s from e)]
 | p :: r, i + 1, h, e, hn => by
  have h0 := hn 0 (by simp) (by omega)
  simp only [List.getElem_cons_zero] at h0
  simp only [findP]
  rw [if_neg h0, find_some (l := r) (i := i) (by simpa using h) (by simpa using e) (fun j hj hji => by have := hn (j + 1) (by simpa using hj) (by omega); simpa using this)]
  rfl
theorem find_none {s : ByteArray} : ∀ {l : List Par}, (∀ j (h : j < l.length), l[j].name ≠ s) → findP s l = none
 | [], _ => rfl
 | p :: r, hn => by
  have h0 := hn 0 (by simp)
  simp only [List.getElem_cons_zero] at h0
  simp only [findP]
  rw [if_neg h0, find_none (l := r) (fun j hj => by have := hn (j + 1) (by simpa using hj); simpa using this)]
  rfl
theorem twice_iff : ∀ {l : List Par}, twiceP l = true ↔ ∃ i j, ∃ (hi : i < l.length) (hj : j < l.length), j < i ∧ l[j].name = l[i].name
 | [] => by simp [twiceP]
 | p :: r => by
  simp only [twiceP, Bool.or_eq_true, List.any_eq_true, decide_eq_true_eq]
  rw [twice_iff (l := r)]
  constructor
  ·rintro (⟨q, hq, e⟩ | ⟨i, j, hi, hj, hji, e⟩)
   ·obtain ⟨k, hk, rfl⟩ := List.mem_iff_getElem.1 hq
    exact ⟨k + 1, 0, by simpa using hk, by simp, by omega, by simpa using e.symm⟩
   ·exact ⟨i + 1, j + 1, by simpa using hi, by simpa using hj, by omega, by simpa using e⟩
  ·rintro ⟨i, j, hi, hj, hji, e⟩
   cases i with
   | zero => omega
   | succ i =>
    cases j with
    | zero =>
     simp only [List.getElem_cons_zero, List.getElem_cons_succ] at e
     exact .inl ⟨r[i]'(by simpa using hi), List.getElem_mem _, e.symm⟩
    | succ j =>
     simp only [List.getElem_cons_succ] at e
     exact .inr ⟨i, j, by simpa using hi, by simpa using hj, by omega, e⟩
def linesA : Bs → Bs → List Bs
 | cur, [] => if cur.isEmpty then [] else [cur]
 | cur, b :: t => if nb b == 10 then cur :: linesA [] t else linesA (cur ++ [b]) t
def wordsA : Bs → Bs → List Bs
 | cur, [] => [cur]
 | cur, b :: t => if nb b == 32 then cur :: wordsA [] t else wordsA (cur ++ [b]) t
def pDigit (c : Int) : Bool := decide (48 ≤ c) && decide (c ≤ 57)
def valA : Int → Bs → Int
 | n, [] => n
 | n, b :: t => valA (n * 10 + (nb b - 48)) t
def lenP (s : Bs) : Option Int :=
 if s.isEmpty || decide (4 < s.length) || hd s == 48 then none
 else if (s.all fun b => pDigit (nb b)) then (if valA 0 s ≤ 4096 then some (valA 0 s) else none) else none
def realB : Bs := [114, 101, 97, 108]
def complexB : Bs := [99, 111, 109, 112, 108, 101, 120]
theorem check_len {l : List Par} (h : checkP l = 0) : l.length ≤ 64 := by
 unfold checkP at h
 split at h
 ·omega
 ·omega
end Go.Proofs.YtgcmnkanjcfndaaGreatDoor
namespace Go.Proofs.YtgcmnkanjcfndaaGreatDoor
open Go.RowKit
set_option linter.unusedVariables false
set_option linter.unusedSimpArgs false
theorem bel {a b c : World} (h : Below a.heap.size a b) (k : Below b.heap.size b c) : Below a.heap.size a c := h.trans (k.mono h.size)
theorem bel0 (w : World) : Below w.heap.size w w := Below.refl _ _
theorem bel_alloc (w : World) (o : Obj) : Below w.heap.size w (w.alloc o) := (Below.refl _ _).alloc (Nat.le_refl _) o
theorem bel_dn (w : World) (n : Nat) : Below w.heap.size w (w.drewN n) := ⟨rfl, rfl, rfl, Nat.le_refl _, fun _ _ => rfl⟩
theorem bel_d (w : World) : Below w.heap.size w w.drew := (Below.refl _ _).drew
theorem mcell_lt {w : World} {a : Addr} {v : Value} (h : w.cell? a = some v) : a.block < w.heap.size := by
 rcases Nat.lt_or_ge a.block w.heap.size with c | c
 ·exact c
 ·have : w.heap[a.block]? = none := Array.getElem?_eq_none c
  simp [World.cell?, this] at h
theorem ret_bool {a b : Bool} (h : a = b) : Ending.returned (.bool a) = .returned (.bool b) := by rw [h]
theorem ret_int {k : IntKind} {a b : Int} (h : a = b) : Ending.returned (.int k a) = .returned (.int k b) := by rw [h]
def pv (p : Par) : Value := .agg #[.string p.name, .int .i64 p.kind, .int .i64 p.len]
def parCells (p : Par) : List Value := [.string p.name, .int .i64 p.kind, .int .i64 p.len]
def AtP (w : World) (b o : Nat) (p : Par) : Prop :=
 w.cell? ⟨b, o, none⟩ = some (.string p.name) ∧ w.cell? ⟨b, o + 1, none⟩ = some (.int .i64 p.kind) ∧ w.cell? ⟨b, o + 2, none⟩ = some (.int .i64 p.len)
theorem AtP.below {w w' : World} {b o : Nat} {p : Par} (h : AtP w b o p) (k : Below w.heap.size w w') : AtP w' b o p :=
 ⟨(k.cell (mcell_lt h.1)).trans h.1, (k.cell (mcell_lt h.2.1)).trans h.2.1, (k.cell (mcell_lt h.2.2)).trans h.2.2⟩
def Row (w : World) (p : Option Addr) (l : List Par) : Prop := l = [] ∨ ∃ b o, p = some ⟨b, o, none⟩ ∧ ∀ i (h : i < l.length), AtP w b (o + i * 3) l[i]
def Rd (w : World) (v : Value) (l : List Par) : Prop := ∃ p c, v = .slice p l.length c ∧ Row w p l
theorem Row.below {w w' : World} {p : Option Addr} {l : List Par} (h : Row w p l) (k : Below w.heap.size w w') : Row w' p l :=
 h.imp id fun ⟨b, o, hp, h⟩ => ⟨b, o, hp, fun i hi => (h i hi).below k⟩
theorem Rd.below {w w' : World} {v : Value} {l : List Par} (h : Rd w v l) (k : Below w.heap.size w w') : Rd w' v l := by
 obtain ⟨p, c, hv, h⟩ := h
 exact ⟨p, c, hv, h.below k⟩
theorem Row.at {w : World} {p : Option Addr} {l : List Par} (h : Row w p l) {i : Nat} (hi : i < l.length) : ∃ b o, p = some ⟨b, o, none⟩ ∧ AtP w b (o + i * 3) l[i] := by
 rcases h with h | ⟨b, o, hp, h⟩
 ·rw [h] at hi; exact absurd hi (Nat.not_lt_zero _)
 ·exact ⟨b, o, hp, h i hi⟩
def cellsOf (l : List Par) : List Value := l.flatMap parCells
end Go.Proofs.YtgcmnkanjcfndaaGreatDoor
namespace Go.Proofs.YtgcmnkanjcfndaaGreatDoor
open Go.RowKit
end Go.Proofs.YtgcmnkanjcfndaaGreatDoor
namespace Go.Proofs.YtgcmnkanjcfndaaGreatDoor
open Go.RowKit
theorem tkT {P : Program} {md : Region.Mode} {ops : Array Oper} {Q : Exit → Act → World → Prop} {S : World → Prop} (i : Nat) {oi : Oper} {v : Value} {fuel : Nat} {listed l' : Array Bool} {a a' : Act} {w : World}
  (h : wpAnyH P md ops Q S fuel l' a' w)
  (hi : ops[i]? = some oi := by simp only [List.getElem?_toArray, List.getElem?_cons_succ, List.getElem?_cons_zero]; rfl)
  (hw : Region.wanted oi (yielded ops a.tmps) = true := by rfl)
  (hv : ∀ w, S w → (execOp a.eval oi).run P w = .ok (.value v) w := by (intro wS hSw; (try dsimp only at hSw); go_simp; try (with_reducible rfl)))
  (hl : listed.setIfInBounds i true = l' := by (try simp only [List.setIfInBounds_toArray, List.set_cons_zero, List.set_cons_succ]); rfl)
  (ha : a.put oi.dst v = a' := by (try simp only [Act.put, List.setIfInBounds_toArray, List.set_cons_zero, List.set_cons_succ]); rfl)
  (hs : Region.noSelect ops = true := by kernel_rfl) (hf : Region.free md ops listed i = true := by kernel_rfl) (hr : (Region.ready md ops listed).contains i = true := by kernel_rfl)
  (hQ : ∀ c a w, Q (.panic c) (a.put oi.dst v) w → Q (.panic c) a w := by exact fun _ _ _ h => h) (hS : S w := by assumption) : wpAnyH P md ops Q S (fuel + 1) listed a w :=
 wpAnyH_take hi hs hf hr hQ (.inl ⟨hw, hv⟩) hS (by rw [hl, ha]; exact h)
theorem tkK {P : Program} {md : Region.Mode} {ops : Array Oper} {Q : Exit → Act → World → Prop} {S : World → Prop} (i : Nat) {oi : Oper} {fuel : Nat} {listed l' : Array Bool} {a a' : Act} {w : World}
  (h : wpAnyH P md ops Q S fuel l' a' w)
  (hi : ops[i]? = some oi := by simp only [List.getElem?_toArray, List.getElem?_cons_succ, List.getElem?_cons_zero]; rfl)
  (hw : Region.wanted oi (yielded ops a.tmps) = false := by rfl)
  (hl : listed.setIfInBounds i true = l' := by (try simp only [List.setIfInBounds_toArray, List.set_cons_zero, List.set_cons_succ]); rfl)
  (ha : a.put oi.dst undef = a' := by (try simp only [Act.put, List.setIfInBounds_toArray, List.set_cons_zero, List.set_cons_succ]); rfl)
  (hs : Region.noSelect ops = true := by kernel_rfl) (hf : Region.free md ops listed i = true := by kernel_rfl) (hr : (Region.ready md ops listed).contains i = true := by kernel_rfl)
  (hQ : ∀ c a w, Q (.panic c) (a.put oi.dst undef) w → Q (.panic c) a w := by exact fun _ _ _ h => h) (hS : S w := by assumption) : wpAnyH P md ops Q S (fuel + 1) listed a w :=
 wpAnyH_take hi hs hf hr hQ (.inr ⟨hw, rfl⟩) hS (by rw [hl, ha]; exact h)
end Go.Proofs.YtgcmnkanjcfndaaGreatDoor
namespace Go.Proofs.YtgcmnkanjcfndaaGreatDoor
open Go.RowKit
set_option linter.unusedVariables false
theorem and_mask (a : Int) (k : Nat) (hk : k < 32) (h0 : 0 ≤ a) (h1 : a < 4294967296) : bits .and .u32 a ((2 ^ k - 1 : Nat) : Int) = a % ((2 ^ k : Nat) : Int) := by
 have hp : 2 ^ k < 2 ^ 32 := Nat.pow_lt_pow_right (by omega) hk
 have hq : 0 < 2 ^ k := Nat.two_pow_pos k
 obtain ⟨n, rfl⟩ := Int.eq_ofNat_of_zero_le h0
 rw [u32_and _ _ h0 h1 (by omega) (by omega), Int.toNat_natCast, Int.toNat_natCast, Nat.and_two_pow_sub_one_eq_mod]
 rfl
theorem and_23 (a : Int) (h0 : 0 ≤ a) (h1 : a < 4294967296) : bits .and .u32 a 8388607 = a % 8388608 := and_mask a 23 (by omega) h0 h1
theorem and_8 (a : Int) (h0 : 0 ≤ a) (h1 : a < 4294967296) : bits .and .u32 a 255 = a % 256 := and_mask a 8 (by omega) h0 h1
theorem and_4 (a : Int) (h0 : 0 ≤ a) (h1 : a < 4294967296) : bits .and .u32 a 15 = a % 16 := and_mask a 4 (by omega) h0 h1
theorem and_sign (a : Int) (h0 : 0 ≤ a) (h1 : a < 4294967296) : bits .and .u32 a 2147483648 = if 2147483648 ≤ a then 2147483648 else 0 := by
 rw [u32_and a _ h0 h1 (by omega) (by omega), show (2147483648 : Int).toNat = 2 ^ 31 from rfl, nat_bit]
 split <;> omega
theorem and_sign_ne (a : Int) (h0 : 0 ≤ a) (h1 : a < 4294967296) : (bits .and .u32 a 2147483648 != 0) = decide (2147483648 ≤ a) := by
 rw [and_sign a h0 h1]
 split <;> simp [*]
theorem or_join (k : Nat) (x y : Int) (h0 : 0 ≤ x) (h1 : x < 4294967296) (hx : x % ((2 ^ k : Nat) : Int) = 0) (hy0 : 0 ≤ y) (hy : y < ((2 ^ k : Nat) : Int)) (hy1 : y < 4294967296) :
  bits .or .u32 x y = x + y := by
 obtain ⟨n, rfl⟩ := Int.eq_ofNat_of_zero_le h0
 obtain ⟨m, rfl⟩ := Int.eq_ofNat_of_zero_le hy0
 rw [u32_or _ _ h0 h1 hy0 hy1, nat_join k _ _ (by exact_mod_cast hx) (by exact_mod_cast hy)]
 rfl
theorem or_digit (x d : Int) (h0 : 0 ≤ x) (h1 : x < 4294967296) (hx : x % 16 = 0) (hd0 : 0 ≤ d) (hd : d < 16) : bits .or .u32 x d = x + d :=
 or_join 4 _ _ h0 h1 (by simpa using hx) hd0 (by simpa using hd) (by omega)
def cls (a : Int) : Int :=
 if a / 8388608 % 256 = 255 then (if a % 8388608 = 0 then 4 else 5) else if a / 8388608 % 256 = 0 then (if a % 8388608 = 0 then 1 else 2) else 3
def nan (a : Int) : Bool := decide (2139095040 < a % 2147483648)
theorem nan_iff (a : Int) : nan a = true ↔ 2139095040 < a % 2147483648 := by unfold nan; simp
theorem nan_not (a : Int) : nan a = false ↔ a % 2147483648 ≤ 2139095040 := by unfold nan; simp
theorem cls_nan (a : Int) (h : nan a = true) (h0 : 0 ≤ a) (h1 : a < 4294967296) : cls a = 5 := by
 rw [nan_iff] at h; unfold cls; rw [if_pos (by omega), if_neg (by omega)]
theorem cls_num (a : Int) (h : nan a = false) (h0 : 0 ≤ a) (h1 : a < 4294967296) : cls a ≠ 5 := by
 rw [nan_not] at h; unfold cls; repeat' split
 all_goals omega
def key (a : Int) : Int := if 2147483648 ≤ a then -1 - (a - 2147483648) else a
def ofKey (k : Int) : Int := if k < 0 then 2147483648 + (-1 - k) else k
def canon (a : Int) : Int := if nan a then 2143289344 else a
def next (a : Int) : Int := if nan a then 2143289344 else if a = 2139095040 then a else ofKey (key a + 1)
def mk (m : Bool) (e f : Int) : Int := if m then e * 8388608 + f + 2147483648 else e * 8388608 + f
end Go.Proofs.YtgcmnkanjcfndaaGreatDoor
namespace Go.Proofs.YtgcmnkanjcfndaaGreatDoor
set_option linter.unusedVariables false
set_option linter.unusedSimpArgs false
structure Ty where
 kind : Int
 par : Int
 deriving DecidableEq
structure Sl where
 ty : Ty
 keep : Bool
 bits : Int
 int_ : Int
 deriving DecidableEq
structure Ins where
 op : Int
 d : Int
 a : Int
 b : Int
 c : Int
 n : Int
 bits : Int
 deriving DecidableEq
structure Cd where
 sign : List Par
 regs : List Ty
 slots : List Sl
 list : List Ins
structure Rw where
 d : Int
 a : Int
 b : Int
 c : Int
 n : Int
 deriving DecidableEq
def rowP (op : Int) : Rw :=
 if op = 1 then ⟨1, 0, 0, 0, 7⟩
 else if op = 2 then ⟨2, 0, 0, 0, 8⟩
 else if op = 3 then ⟨6, 5, 0, 0, 0⟩
 else if 4 ≤ op ∧ op ≤ 10 then ⟨4, 5, 5, 0, 0⟩
 else if 11 ≤ op ∧ op ≤ 14 then ⟨4, 5, 0, 0, 0⟩
 else if op = 15 then ⟨4, 5, 5, 5, 0⟩
 else if op = 16 then ⟨1, 1, 2, 0, 0⟩
 else if op = 17 then ⟨1, 2, 0, 0, 0⟩
 else if op = 18 then ⟨2, 1, 0, 0, 0⟩
 else if 19 ≤ op ∧ op ≤ 20 then ⟨1, 3, 0, 0, 0⟩
 else if op = 21 ∨ op = 25 then ⟨2, 2, 0, 0, 0⟩
 else if op = 26 then ⟨2, 2, 2, 2, 0⟩
 else if 22 ≤ op ∧ op ≤ 28 then ⟨2, 2, 2, 0, 0⟩
 else if 29 ≤ op ∧ op ≤ 30 then ⟨3, 0, 0, 0, 9⟩
 else if op = 31 then ⟨0, 3, 0, 0, 9⟩
 else if op = 32 then ⟨6, 0, 0, 0, 10⟩
 else if op = 33 then ⟨0, 6, 0, 0, 10⟩
 else if op = 34 then ⟨0, 2, 0, 0, 0⟩
 else if op = 36 then ⟨0, 0, 0, 0, 11⟩
 else ⟨0, 0, 0, 0, 0⟩
def knownP (op : Int) : Bool := decide (1 ≤ op) && decide (op ≤ 37)
def elemP (op : Int) : Bool := decide (3 ≤ op) && decide (op ≤ 15)
def loopedP (op : Int) : Bool := (decide (29 ≤ op) && decide (op ≤ 33)) || elemP op
def isPl (n : Int) (k : Nat) : Bool := decide (0 ≤ n) && decide (n < (k : Int))
def wholeB (n : Int) : Bool := decide (0 ≤ n) && decide (n ≤ 2147483647)
def toldB (a : Int) : Bool := decide ((if nan a then 2143289344 else a) = a)
def typeMay (t : Ty) (n : Nat) : Bool := if t.kind = 1 ∨ t.kind = 2 then t.par == 0 else if t.kind = 3 then isPl t.par n else false
def begins (s : Sl) : Bool := if s.ty.kind = 2 then s.bits == 0 && wholeB s.int_ else s.int_ == 0 && toldB s.bits
def slotMay (s : Sl) (n : Nat) : Bool := typeMay s.ty n && begins s
def regT (l : List Ty) (n : Int) : Ty := if isPl n l.length then (l[n.toNat]?).getD ⟨0, 0⟩ else ⟨0, 0⟩
def mainR (i : Ins) (r : Rw) : Int := if r.d = 0 then i.a else i.d
def mainT (l : List Ty) (i : Ins) (r : Rw) : Ty := regT l (mainR i r)
def meansP (l : Int) (t m : Ty) : Bool :=
 if l = 1 then t.kind == 1
 else if l = 2 then t.kind == 2
 else if l = 3 then t.kind == 3
 else if l = 4 then t.kind == 1 || t.kind == 3
 else if l = 5 then decide (t = m) || (t.kind == 1 && m.kind == 3)
 else decide (t = m)
def fitsReg (rs : List Ty) (l n : Int) (m : Ty) : Bool := if l = 0 then n == 0 else isPl n rs.length && meansP l (regT rs n) m
def kindOf (ps : List Par) (n : Int) : Int := ((ps[n.toNat]?).map fun p => p.kind).getD 0
def slotT (ss : List Sl) (n : Int) : Ty := ((ss[n.toNat]?).map fun s => s.ty).getD ⟨0, 0⟩
def fitsN (c : Cd) (n l : Int) (m : Ty) : Bool :=
 if l = 8 then wholeB n
 else if l = 9 then n == 0 || (n == 1 && kindOf c.sign m.par == 2)
 else if l = 10 then isPl n c.slots.length && decide (slotT c.slots n = m)
 else if l = 11 then isPl n c.sign.length
 else n == 0
def fitsRest (c : Cd) (i : Ins) (l : Int) (m : Ty) : Bool := if l = 7 then i.n == 0 && toldB i.bits else i.bits == 0 && fitsN c i.n l m
def fitsC (c : Cd) (i : Ins) (r : Rw) : Bool :=
 fitsReg c.regs r.d i.d (mainT c.regs i r) && (fitsReg c.regs r.a i.a (mainT c.regs i r) && (fitsReg c.regs r.b i.b (mainT c.regs i r) && (fitsReg c.regs r.c i.c (mainT c.regs i r) && fitsRest c i r.n (mainT c.regs i r))))
structure Bk where
 loop : Bool
 par : Int
 ahead : Nat
structure Wk where
 set : List Nat
 opens : List Bk
def inLoop (s : Wk) : Bool := match s.opens with | b :: _ => b.loop | [] => false
def innerP (s : Wk) : Int := match s.opens with | b :: _ => b.par | [] => 0
def mayStandP (c : Cd) (s : Wk) (i : Ins) (r : Rw) : Bool :=
 if i.op = 34 ∨ i.op = 36 then !inLoop s && decide (s.opens.length < 64)
 else if i.op = 35 then !s.opens.isEmpty && !inLoop s
 else if i.op = 37 then inLoop s
 else !inLoop s || (loopedP i.op && decide (mainT c.regs i r = ⟨3, innerP s⟩))
def readsP (i : Ins) (r : Rw) : List Int := (if r.a = 0 then [] else [i.a]) ++ ((if r.b = 0 then [] else [i.b]) ++ (if r.c = 0 then [] else [i.c]))
def leaveP (s : Wk) : Wk := match s.opens with
 | b :: r => ⟨if b.loop then s.set else s.set.take b.ahead, r⟩
 | [] => s
def turnP (s : Wk) (i : Ins) : Wk :=
 if i.op = 34 ∨ i.op = 36 then ⟨s.set, ⟨i.op == 36, i.n, s.set.length⟩ :: s.opens⟩ else if i.op = 35 ∨ i.op = 37 then leaveP s else s
def addP (s : Wk) (i : Ins) (r : Rw) : Wk := if r.d ≠ 0 ∧ i.d.toNat ∉ s.set then ⟨s.set ++ [i.d.toNat], s.opens⟩ else s
def passP (s : Wk) (i : Ins) (r : Rw) : Wk := addP (turnP s i) i r
def readOK (s : Wk) (i : Ins) (r : Rw) : Bool := (readsP i r).all fun n => decide (n.toNat ∈ s.set)
def takesP (c : Cd) (s : Wk) (i : Ins) : Bool := knownP i.op && (fitsC c i (rowP i.op) && (mayStandP c s i (rowP i.op) && readOK s i (rowP i.op)))
def stepP (s : Wk) (i : Ins) : Wk := passP s i (rowP i.op)
def goP (c : Cd) : Wk → Nat → List Ins → Int × Int
 | s, k, [] => if s.opens.isEmpty then (0, 0) else (160, k)
 | s, k, i :: r => if takesP c s i then goP c (stepP s i) (k + 1) r else (160, k)
def typesMay (c : Cd) : Bool := c.regs.all fun t => typeMay t c.sign.length
def slotsMay (c : Cd) : Bool := c.slots.all fun s => slotMay s c.sign.length
def aheadP (c : Cd) : Int :=
 if checkP c.sign ≠ 0 then checkP c.sign
 else if 16384 < c.regs.length ∨ 32768 < c.list.length then 181
 else if 4096 < c.slots.length then 180
 else if typesMay c && slotsMay c then 0 else 160
def checkC (c : Cd) : Int × Int := if aheadP c ≠ 0 then (aheadP c, -1) else goP c ⟨[], []⟩ 0 c.list
def okO : Nat → List Bk → Prop
 | _, [] => True
 | n, b :: r => b.ahead ≤ n ∧ okO b.ahead r
theorem okO.mono : ∀ {r : List Bk} {n m : Nat}, okO n r → n ≤ m → okO m r
 | [], _, _, _, _ => trivial
 | b :: r, n, m, h, k => ⟨Nat.le_trans h.1 k, h.2⟩
structure OkS (n : Nat) (s : Wk) : Prop where
 nodup : s.set.Nodup
 lt : ∀ x ∈ s.set, x < n
 opens : okO s.set.length s.opens
 nest : s.opens.length ≤ 64
theorem OkS.start (n : Nat) : OkS n ⟨[], []⟩ := ⟨List.nodup_nil, fun x h => absurd h (by simp), trivial, Nat.zero_le _⟩
theorem OkS.leave {n : Nat} {s : Wk} (h : OkS n s) : OkS n (leaveP s) := by
 obtain ⟨X, O⟩ := s
 cases O with
 | nil => exact h
 | cons b r =>
  obtain ⟨h1, h2, ⟨h3, h4⟩, h5⟩ := h
  simp only [leaveP]
  simp only at h1 h2 h3 h4 h5
  split
  ·exact ⟨h1, h2, h4.mono h3, by simp at h5 ⊢; omega⟩
  ·refine ⟨List.Sublist.nodup (List.take_sublist _ _) h1, fun x hx => h2 x (List.mem_of_mem_take hx), ?_, by simp at h5 ⊢; omega⟩
   simp only [List.length_take]
   rw [Nat.min_eq_left h3]
   exact h4
theorem OkS.turn {n : Nat} {s : Wk} {i : Ins} (h : OkS n s) (hm : i.op = 34 ∨ i.op = 36 → s.opens.length < 64) : OkS n (turnP s i) := by
 unfold turnP
 split
 ·rename_i e
  exact ⟨h.nodup, h.lt, ⟨Nat.le_refl _, h.opens⟩, by have := hm e; simp; omega⟩
 ·split
  ·exact h.leave
  ·exact h
theorem OkS.add {n : Nat} {s : Wk} {i : Ins} {r : Rw} (h : OkS n s) (hd : r.d ≠ 0 → i.d.toNat < n) : OkS n (addP s i r) := by
 unfold addP
 split
 ·rename_i e
  refine ⟨?_, fun x hx => ?_, h.opens.mono (by simp), h.nest⟩
  ·rw [List.nodup_append]
   refine ⟨h.nodup, by simp, fun a ha b hb => ?_⟩
   simp at hb
   subst hb
   exact fun e' => e.2 (e' ▸ ha)
  ·rcases List.mem_append.1 hx with hx | hx
   ·exact h.lt x hx
   ·simp at hx; subst hx; exact hd e.1
 ·exact h
theorem nodup_le : ∀ {n : Nat} {l : List Nat}, l.Nodup → (∀ x ∈ l, x < n) → l.length ≤ n := by
 intro n
 induction n with
 | zero => intro l _ h; cases l with
  | nil => exact Nat.le_refl _
  | cons a t => exact absurd (h a (by simp)) (Nat.not_lt_zero _)
 | succ n ih =>
  intro l hd h
  have h1 := ih (l := l.erase n) (hd.erase n) fun x hx => by
   have h2 := h x (List.mem_of_mem_erase hx)
   have h3 : x ≠ n := fun e => by
    subst e
    exact (List.Nodup.not_mem_erase hd) hx
   omega
  have h2 : l.length ≤ (l.erase n).length + 1 := by
   rw [List.length_erase]
   split <;> omega
  omega
theorem OkS.len {n : Nat} {s : Wk} (h : OkS n s) : s.set.length ≤ n := nodup_le h.nodup h.lt
theorem isPl_iff {n : Int} {k : Nat} : isPl n k = true ↔ 0 ≤ n ∧ n < (k : Int) := by unfold isPl; simp
theorem fitsReg_lt {rs : List Ty} {l n : Int} {m : Ty} (h : fitsReg rs l n m = true) (hl : l ≠ 0) : 0 ≤ n ∧ n < (rs.length : Int) := by
 unfold fitsReg at h
 rw [if_neg hl] at h
 simp only [Bool.and_eq_true] at h
 exact isPl_iff.1 h.1
theorem fitsC_d {c : Cd} {i : Ins} {r : Rw} (h : fitsC c i r = true) : fitsReg c.regs r.d i.d (mainT c.regs i r) = true := by
 unfold fitsC at h; simp only [Bool.and_eq_true] at h; exact h.1
theorem fitsC_a {c : Cd} {i : Ins} {r : Rw} (h : fitsC c i r = true) : fitsReg c.regs r.a i.a (mainT c.regs i r) = true := by
 unfold fitsC at h; simp only [Bool.and_eq_true] at h; exact h.2.1
theorem fitsC_b {c : Cd} {i : Ins} {r : Rw} (h : fitsC c i r = true) : fitsReg c.regs r.b i.b (mainT c.regs i r) = true := by
 unfold fitsC at h; simp only [Bool.and_eq_true] at h; exact h.2.2.1
theorem fitsC_c {c : Cd} {i : Ins} {r : Rw} (h : fitsC c i r = true) : fitsReg c.regs r.c i.c (mainT c.regs i r) = true := by
 unfold fitsC at h; simp only [Bool.and_eq_true] at h; exact h.2.2.2.1
theorem takes_open {c : Cd} {s : Wk} {i : Ins} (h : takesP c s i = true) : knownP i.op = true ∧ fitsC c i (rowP i.op) = true ∧ mayStandP c s i (rowP i.op) = true ∧ readOK s i (rowP i.op) = true := by
 unfold takesP at h; simp only [Bool.and_eq_true] at h; exact h
theorem stand_open {c : Cd} {s : Wk} {i : Ins} {r : Rw} (h : mayStandP c s i r = true) (e : i.op = 34 ∨ i.op = 36) : s.opens.length < 64 := by
 unfold mayStandP at h
 rw [if_pos e] at h
 simp only [Bool.and_eq_true, decide_eq_true_eq] at h
 exact h.2
theorem OkS.step {c : Cd} {s : Wk} {i : Ins} (h : OkS c.regs.length s) (t : takesP c s i = true) : OkS c.regs.length (stepP s i) := by
 obtain ⟨_, h2, h3, _⟩ := takes_open t
 refine (h.turn (stand_open h3)).add fun hd => ?_
 have := fitsReg_lt (fitsC_d h2) hd
 omega
end Go.Proofs.YtgcmnkanjcfndaaGreatDoor
namespace Go.Proofs.YtgcmnkanjcfndaaGreatDoor
open Go.RowKit
set_option linter.unusedVariables false
set_option linter.unusedSimpArgs false
set_option maxHeartbeats 400000 in
theorem parts_any (a : Int) (h0 : 0 ≤ a) (h1 : a < 4294967296) (w : World) :
  Calls Tryz.prog 173 #[.int .u32 a] w fun e w' => e = .returned (.tuple #[.bool (decide (2147483648 ≤ a)), .int .i64 (a / 8388608 % 256), .int .i64 (a % 8388608)]) ∧ w' = w := by
 have e1 := and_sign_ne a h0 h1
 have e2 := and_8 (a / 8388608) (by omega) (by omega)
 have e3 := and_23 a h0 h1
 go_enter Tryz.func173, Tryz.ntmps173
 go_wp2
 go_ret3
 exact ⟨rfl, rfl⟩
set_option maxHeartbeats 400000 in
theorem class_any (a : Int) (h0 : 0 ≤ a) (h1 : a < 4294967296) (w : World) :
  Calls Tryz.prog 164 #[.int .u32 a] w fun e w' => e = .returned (.int .i64 (cls a)) ∧ w' = w := by
 by_cases c1 : a / 8388608 % 256 = 255
 ·by_cases c2 : a % 8388608 = 0
  ·have hc : cls a = 4 := by unfold cls; rw [if_pos c1, if_pos c2]
   rw [hc]; clear hc
   go_enter Tryz.func164, Tryz.ntmps164
   go_wp2_with (go_at_call 173; refine (parts_any _ h0 h1 _).mono ?_; rintro e w' ⟨rfl, rfl⟩)
   go_ret
   exact ⟨rfl, rfl⟩
  ·have hc : cls a = 5 := by unfold cls; rw [if_pos c1, if_neg c2]
   rw [hc]; clear hc
   go_enter Tryz.func164, Tryz.ntmps164
   go_wp2_with (go_at_call 173; refine (parts_any _ h0 h1 _).mono ?_; rintro e w' ⟨rfl, rfl⟩)
   go_ret
   exact ⟨rfl, rfl⟩
 ·by_cases c2 : a / 8388608 % 256 = 0
  ·by_cases c3 : a % 8388608 = 0
   ·have hc : cls a = 1 := by unfold cls; rw [if_neg c1, if_pos c2, if_pos c3]
    rw [hc]; clear hc
    go_enter Tryz.func164, Tryz.ntmps164
    go_wp2_with (go_at_call 173; refine (parts_any _ h0 h1 _).mono ?_; rintro e w' ⟨rfl, rfl⟩)
    go_ret
    exact ⟨rfl, rfl⟩
   ·have hc : cls a = 2 := by unfold cls; rw [if_neg c1, if_pos c2, if_neg c3]
    rw [hc]; clear hc
    go_enter Tryz.func164, Tryz.ntmps164
    go_wp2_with (go_at_call 173; refine (parts_any _ h0 h1 _).mono ?_; rintro e w' ⟨rfl, rfl⟩)
    go_ret
    exact ⟨rfl, rfl⟩
  ·have hc : cls a = 3 := by unfold cls; rw [if_neg c1, if_neg c2]
   rw [hc]; clear hc
   go_enter Tryz.func164, Tryz.ntmps164
   go_wp2_with (go_at_call 173; refine (parts_any _ h0 h1 _).mono ?_; rintro e w' ⟨rfl, rfl⟩)
   go_ret
   exact ⟨rfl, rfl⟩
theorem class_nan (a : Int) (h0 : 0 ≤ a) (h1 : a < 4294967296) (hn : nan a = true) (w : World) :
  Calls Tryz.prog 164 #[.int .u32 a] w fun e w' => e = .returned (.int .i64 5) ∧ w' = w := by
 have := class_any a h0 h1 w
 rwa [cls_nan a hn h0 h1] at this
set_option maxHeartbeats 400000 in
theorem canon_any (a : Int) (h0 : 0 ≤ a) (h1 : a < 4294967296) (w : World) :
  Calls Tryz.prog 152 #[.int .u32 a] w fun e w' => e = .returned (.int .u32 (canon a)) ∧ w' = w := by
 cases hn : nan a
 ·have hc : canon a = a := by unfold canon; simp [hn]
  have h5 : (cls a == 5) = false := by have := cls_num a hn h0 h1; simpa using this
  rw [hc]; clear hc hn
  go_enter Tryz.func152, Tryz.ntmps152
  go_wp2_with (go_at_call 164; refine (class_any _ h0 h1 _).mono ?_; rintro e w' ⟨rfl, rfl⟩)
  go_ret
  exact ⟨rfl, rfl⟩
 ·have hc : canon a = 2143289344 := by unfold canon; simp [hn]
  rw [hc]; clear hc
  go_enter Tryz.func152, Tryz.ntmps152
  go_wp2_with (go_at_call 164; refine (class_nan _ h0 h1 hn _).mono ?_; rintro e w' ⟨rfl, rfl⟩)
  go_ret
  exact ⟨rfl, rfl⟩
end Go.Proofs.YtgcmnkanjcfndaaGreatDoor
namespace Go.Proofs.YtgcmnkanjcfndaaGreatDoor
open Go.RowKit
set_option linter.unusedVariables false
set_option linter.unusedSimpArgs false
def tyC (t : Ty) : List Value := [.int .i64 t.kind, .int .i64 t.par]
def slC (s : Sl) : List Value := [.int .i64 s.ty.kind, .int .i64 s.ty.par, .bool s.keep, .int .u32 s.bits, .int .i64 s.int_]
def inC (i : Ins) : List Value := [.int .i64 i.op, .int .i64 i.d, .int .i64 i.a, .int .i64 i.b, .int .i64 i.c, .int .i64 i.n, .int .u32 i.bits]
theorem tyC_len (t : Ty) : (tyC t).length = 2 := rfl
theorem slC_len (t : Sl) : (slC t).length = 5 := rfl
theorem inC_len (t : Ins) : (inC t).length = 7 := rfl
theorem parC_len (t : Par) : (parCells t).length = 3 := rfl
def tyV (t : Ty) : Value := .agg #[.int .i64 t.kind, .int .i64 t.par]
def rwV (r : Rw) : Value := .agg #[.int .i64 r.d, .int .i64 r.a, .int .i64 r.b, .int .i64 r.c, .int .i64 r.n]
theorem kc {w w' : World} (k : Below w.heap.size w w') {a : Addr} {v : Value} (h : w.cell? a = some v) : w'.cell? a = some v := (k.cell (mcell_lt h)).trans h
theorem kf {w w' : World} (k : Below w.heap.size w w') {a : Addr} {v : Value} (h : w.cell? a = some v) (f : w.frozen? a = false) : w'.frozen? a = false := (k.frozen (mcell_lt h)).trans f
def CellsAt (w : World) (b o : Nat) (cs : List Value) : Prop := ∀ j (h : j < cs.length), w.cell? ⟨b, o + j, none⟩ = some cs[j]
theorem CellsAt.below {w w' : World} {b o : Nat} {cs : List Value} (h : CellsAt w b o cs) (k : Below w.heap.size w w') : CellsAt w' b o cs := fun j hj => (k.cell (mcell_lt (h j hj))).trans (h j hj)
theorem CellsAt.at {w : World} {b o : Nat} {cs : List Value} (h : CellsAt w b o cs) (j : Nat) {v : Value} (e : cs[j]? = some v) : w.cell? ⟨b, o + j, none⟩ = some v := by
 obtain ⟨hj, e⟩ := List.getElem?_eq_some_iff.1 e
 rw [h j hj, e]
def RowG {α : Type} (k : Nat) (f : α → List Value) (w : World) (v : Value) (l : List α) : Prop :=
 ∃ p c, v = .slice p l.length c ∧ (l = [] ∨ ∃ b o, p = some ⟨b, o, none⟩ ∧ ∀ i (h : i < l.length), CellsAt w b (o + i * k) (f l[i]))
theorem RowG.below {α : Type} {k : Nat} {f : α → List Value} {w w' : World} {v : Value} {l : List α} (h : RowG k f w v l) (q : Below w.heap.size w w') : RowG k f w' v l := by
 obtain ⟨p, c, hv, h⟩ := h
 exact ⟨p, c, hv, h.imp id fun ⟨b, o, hp, h⟩ => ⟨b, o, hp, fun i hi => (h i hi).below q⟩⟩
theorem RowG.at {α : Type} {k : Nat} {f : α → List Value} {w : World} {p : Option Addr} {n c : Nat} {l : List α} (h : RowG k f w (.slice p n c) l) {i : Nat} (hi : i < l.length) : ∃ b o, p = some ⟨b, o, none⟩ ∧ CellsAt w b (o + i * k) (f l[i]) := by
 obtain ⟨p', c', hv, h⟩ := h
 simp only [Value.slice.injEq] at hv
 obtain ⟨rfl, rfl, rfl⟩ := hv
 rcases h with h | ⟨b, o, hp, h⟩
 ·rw [h] at hi; exact absurd hi (Nat.not_lt_zero _)
 ·exact ⟨b, o, hp, h i hi⟩
theorem RowG.rd {w : World} {v : Value} {l : List Par} (h : RowG 3 parCells w v l) : Rd w v l := by
 obtain ⟨p, c, hv, h⟩ := h
 exact ⟨p, c, hv, h.imp id fun ⟨b, o, hp, h⟩ => ⟨b, o, hp, fun i hi => ⟨(h i hi).at 0 rfl, (h i hi).at 1 rfl, (h i hi).at 2 rfl⟩⟩⟩
structure CdV (w : World) (v0 v1 v2 v3 : Value) (c : Cd) : Prop where
 sign : RowG 3 parCells w v0 c.sign
 regs : RowG 2 tyC w v1 c.regs
 slots : RowG 5 slC w v2 c.slots
 list : RowG 7 inC w v3 c.list
theorem CdV.below {w w' : World} {v0 v1 v2 v3 : Value} {c : Cd} (h : CdV w v0 v1 v2 v3 c) (k : Below w.heap.size w w') : CdV w' v0 v1 v2 v3 c := ⟨h.sign.below k, h.regs.below k, h.slots.below k, h.list.below k⟩
def CdAt (w : World) (C : Nat) (v0 v1 v2 v3 : Value) (c : Cd) : Prop := CellsAt w C 0 [v0, v1, v2, v3] ∧ CdV w v0 v1 v2 v3 c
theorem CdAt.below {w w' : World} {C : Nat} {v0 v1 v2 v3 : Value} {c : Cd} (h : CdAt w C v0 v1 v2 v3 c) (k : Below w.heap.size w w') : CdAt w' C v0 v1 v2 v3 c := ⟨h.1.below k, h.2.below k⟩
structure CdOk (c : Cd) : Prop where
 signL : c.sign.length ≤ 140737488351232
 names : ∀ p ∈ c.sign, p.name.size ≤ 140737488351232
 regsL : c.regs.length ≤ 140737488351232
 slotsL : c.slots.length ≤ 140737488351232
 listL : c.list.length ≤ 140737488351232
 sbits : ∀ s ∈ c.slots, 0 ≤ s.bits ∧ s.bits < 4294967296
 ibits : ∀ i ∈ c.list, 0 ≤ i.bits ∧ i.bits < 4294967296
end Go.Proofs.YtgcmnkanjcfndaaGreatDoor
namespace Go.Proofs.YtgcmnkanjcfndaaGreatDoor
open Go.RowKit
set_option linter.unusedVariables false
set_option linter.unusedSimpArgs false
set_option maxRecDepth 100000 in
set_option maxHeartbeats 2000000 in
theorem rrow_1 (w : World) : Calls Tryz.prog 68 #[.int .i64 1] w fun e w' => e = .returned (.tuple #[.string ⟨#[110, 45, 45, 45, 45]⟩, .bool true]) ∧ w' = w := by
 go_enter Tryz.func68, Tryz.ntmps68
 go_wp2
 go_ret2
 exact ⟨rfl, rfl⟩
set_option maxRecDepth 100000 in
set_option maxHeartbeats 2000000 in
theorem rrow_2 (w : World) : Calls Tryz.prog 68 #[.int .i64 2] w fun e w' => e = .returned (.tuple #[.string ⟨#[119, 45, 45, 45, 105]⟩, .bool true]) ∧ w' = w := by
 go_enter Tryz.func68, Tryz.ntmps68
 go_wp2
 go_ret2
 exact ⟨rfl, rfl⟩
set_option maxRecDepth 100000 in
set_option maxHeartbeats 2000000 in
theorem rrow_3 (w : World) : Calls Tryz.prog 68 #[.int .i64 3] w fun e w' => e = .returned (.tuple #[.string ⟨#[97, 99, 45, 45, 45]⟩, .bool true]) ∧ w' = w := by
 go_enter Tryz.func68, Tryz.ntmps68
 go_wp2
 go_ret2
 exact ⟨rfl, rfl⟩
set_option maxRecDepth 100000 in
set_option maxHeartbeats 2000000 in
theorem rrow_4 (w : World) : Calls Tryz.prog 68 #[.int .i64 4] w fun e w' => e = .returned (.tuple #[.string ⟨#[100, 120, 120, 45, 45]⟩, .bool true]) ∧ w' = w := by
 go_enter Tryz.func68, Tryz.ntmps68
 go_wp2
 go_ret2
 exact ⟨rfl, rfl⟩
set_option maxRecDepth 100000 in
set_option maxHeartbeats 2000000 in
theorem rrow_5 (w : World) : Calls Tryz.prog 68 #[.int .i64 5] w fun e w' => e = .returned (.tuple #[.string ⟨#[100, 120, 120, 45, 45]⟩, .bool true]) ∧ w' = w := by
 go_enter Tryz.func68, Tryz.ntmps68
 go_wp2
 go_ret2
 exact ⟨rfl, rfl⟩
set_option maxRecDepth 100000 in
set_option maxHeartbeats 2000000 in
theorem rrow_6 (w : World) : Calls Tryz.prog 68 #[.int .i64 6] w fun e w' => e = .returned (.tuple #[.string ⟨#[100, 120, 120, 45, 45]⟩, .bool true]) ∧ w' = w := by
 go_enter Tryz.func68, Tryz.ntmps68
 go_wp2
 go_ret2
 exact ⟨rfl, rfl⟩
set_option maxRecDepth 100000 in
set_option maxHeartbeats 2000000 in
theorem rrow_7 (w : World) : Calls Tryz.prog 68 #[.int .i64 7] w fun e w' => e = .returned (.tuple #[.string ⟨#[100, 120, 120, 45, 45]⟩, .bool true]) ∧ w' = w := by
 go_enter Tryz.func68, Tryz.ntmps68
 go_wp2
 go_ret2
 exact ⟨rfl, rfl⟩
set_option maxRecDepth 100000 in
set_option maxHeartbeats 2000000 in
theorem rrow_8 (w : World) : Calls Tryz.prog 68 #[.int .i64 8] w fun e w' => e = .returned (.tuple #[.string ⟨#[100, 120, 120, 45, 45]⟩, .bool true]) ∧ w' = w := by
 go_enter Tryz.func68, Tryz.ntmps68
 go_wp2
 go_ret2
 exact ⟨rfl, rfl⟩
set_option maxRecDepth 100000 in
set_option maxHeartbeats 2000000 in
theorem rrow_9 (w : World) : Calls Tryz.prog 68 #[.int .i64 9] w fun e w' => e = .returned (.tuple #[.string ⟨#[100, 120, 120, 45, 45]⟩, .bool true]) ∧ w' = w := by
 go_enter Tryz.func68, Tryz.ntmps68
 go_wp2
 go_ret2
 exact ⟨rfl, rfl⟩
set_option maxRecDepth 100000 in
set_option maxHeartbeats 2000000 in
theorem rrow_10 (w : World) : Calls Tryz.prog 68 #[.int .i64 10] w fun e w' => e = .returned (.tuple #[.string ⟨#[100, 120, 120, 45, 45]⟩, .bool true]) ∧ w' = w := by
 go_enter Tryz.func68, Tryz.ntmps68
 go_wp2
 go_ret2
 exact ⟨rfl, rfl⟩
set_option maxRecDepth 100000 in
set_option maxHeartbeats 2000000 in
theorem rrow_11 (w : World) : Calls Tryz.prog 68 #[.int .i64 11] w fun e w' => e = .returned (.tuple #[.string ⟨#[100, 120, 45, 45, 45]⟩, .bool true]) ∧ w' = w := by
 go_enter Tryz.func68, Tryz.ntmps68
 go_wp2
 go_ret2
 exact ⟨rfl, rfl⟩
set_option maxRecDepth 100000 in
set_option maxHeartbeats 2000000 in
theorem rrow_12 (w : World) : Calls Tryz.prog 68 #[.int .i64 12] w fun e w' => e = .returned (.tuple #[.string ⟨#[100, 120, 45, 45, 45]⟩, .bool true]) ∧ w' = w := by
 go_enter Tryz.func68, Tryz.ntmps68
 go_wp2
 go_ret2
 exact ⟨rfl, rfl⟩
end Go.Proofs.YtgcmnkanjcfndaaGreatDoor
namespace Go.Proofs.YtgcmnkanjcfndaaGreatDoor
open Go.RowKit
set_option linter.unusedVariables false
set_option linter.unusedSimpArgs false
set_option maxRecDepth 100000 in
set_option maxHeartbeats 2000000 in
theorem rrow_13 (w : World) : Calls Tryz.prog 68 #[.int .i64 13] w fun e w' => e = .returned (.tuple #[.string ⟨#[100, 120, 45, 45, 45]⟩, .bool true]) ∧ w' = w := by
 go_enter Tryz.func68, Tryz.ntmps68
 go_wp2
 go_ret2
 exact ⟨rfl, rfl⟩
set_option maxRecDepth 100000 in
set_option maxHeartbeats 2000000 in
theorem rrow_14 (w : World) : Calls Tryz.prog 68 #[.int .i64 14] w fun e w' => e = .returned (.tuple #[.string ⟨#[100, 120, 45, 45, 45]⟩, .bool true]) ∧ w' = w := by
 go_enter Tryz.func68, Tryz.ntmps68
 go_wp2
 go_ret2
 exact ⟨rfl, rfl⟩
set_option maxRecDepth 100000 in
set_option maxHeartbeats 2000000 in
theorem rrow_15 (w : World) : Calls Tryz.prog 68 #[.int .i64 15] w fun e w' => e = .returned (.tuple #[.string ⟨#[100, 120, 120, 120, 45]⟩, .bool true]) ∧ w' = w := by
 go_enter Tryz.func68, Tryz.ntmps68
 go_wp2
 go_ret2
 exact ⟨rfl, rfl⟩
set_option maxRecDepth 100000 in
set_option maxHeartbeats 2000000 in
theorem rrow_16 (w : World) : Calls Tryz.prog 68 #[.int .i64 16] w fun e w' => e = .returned (.tuple #[.string ⟨#[110, 110, 119, 45, 45]⟩, .bool true]) ∧ w' = w := by
 go_enter Tryz.func68, Tryz.ntmps68
 go_wp2
 go_ret2
 exact ⟨rfl, rfl⟩
set_option maxRecDepth 100000 in
set_option maxHeartbeats 2000000 in
theorem rrow_17 (w : World) : Calls Tryz.prog 68 #[.int .i64 17] w fun e w' => e = .returned (.tuple #[.string ⟨#[110, 119, 45, 45, 45]⟩, .bool true]) ∧ w' = w := by
 go_enter Tryz.func68, Tryz.ntmps68
 go_wp2
 go_ret2
 exact ⟨rfl, rfl⟩
set_option maxRecDepth 100000 in
set_option maxHeartbeats 2000000 in
theorem rrow_18 (w : World) : Calls Tryz.prog 68 #[.int .i64 18] w fun e w' => e = .returned (.tuple #[.string ⟨#[119, 110, 45, 45, 45]⟩, .bool true]) ∧ w' = w := by
 go_enter Tryz.func68, Tryz.ntmps68
 go_wp2
 go_ret2
 exact ⟨rfl, rfl⟩
set_option maxRecDepth 100000 in
set_option maxHeartbeats 2000000 in
theorem rrow_19 (w : World) : Calls Tryz.prog 68 #[.int .i64 19] w fun e w' => e = .returned (.tuple #[.string ⟨#[110, 118, 45, 45, 45]⟩, .bool true]) ∧ w' = w := by
 go_enter Tryz.func68, Tryz.ntmps68
 go_wp2
 go_ret2
 exact ⟨rfl, rfl⟩
set_option maxRecDepth 100000 in
set_option maxHeartbeats 2000000 in
theorem rrow_20 (w : World) : Calls Tryz.prog 68 #[.int .i64 20] w fun e w' => e = .returned (.tuple #[.string ⟨#[110, 118, 45, 45, 45]⟩, .bool true]) ∧ w' = w := by
 go_enter Tryz.func68, Tryz.ntmps68
 go_wp2
 go_ret2
 exact ⟨rfl, rfl⟩
set_option maxRecDepth 100000 in
set_option maxHeartbeats 2000000 in
theorem rrow_21 (w : World) : Calls Tryz.prog 68 #[.int .i64 21] w fun e w' => e = .returned (.tuple #[.string ⟨#[119, 119, 45, 45, 45]⟩, .bool true]) ∧ w' = w := by
 go_enter Tryz.func68, Tryz.ntmps68
 go_wp2
 go_ret2
 exact ⟨rfl, rfl⟩
end Go.Proofs.YtgcmnkanjcfndaaGreatDoor
namespace Go.Proofs.YtgcmnkanjcfndaaGreatDoor
open Go.RowKit
set_option linter.unusedVariables false
set_option linter.unusedSimpArgs false
set_option maxRecDepth 100000 in
set_option maxHeartbeats 2000000 in
theorem rrow_22 (w : World) : Calls Tryz.prog 68 #[.int .i64 22] w fun e w' => e = .returned (.tuple #[.string ⟨#[119, 119, 119, 45, 45]⟩, .bool true]) ∧ w' = w := by
 go_enter Tryz.func68, Tryz.ntmps68
 go_wp2
 go_ret2
 exact ⟨rfl, rfl⟩
set_option maxRecDepth 100000 in
set_option maxHeartbeats 2000000 in
theorem rrow_23 (w : World) : Calls Tryz.prog 68 #[.int .i64 23] w fun e w' => e = .returned (.tuple #[.string ⟨#[119, 119, 119, 45, 45]⟩, .bool true]) ∧ w' = w := by
 go_enter Tryz.func68, Tryz.ntmps68
 go_wp2
 go_ret2
 exact ⟨rfl, rfl⟩
set_option maxRecDepth 100000 in
set_option maxHeartbeats 2000000 in
theorem rrow_24 (w : World) : Calls Tryz.prog 68 #[.int .i64 24] w fun e w' => e = .returned (.tuple #[.string ⟨#[119, 119, 119, 45, 45]⟩, .bool true]) ∧ w' = w := by
 go_enter Tryz.func68, Tryz.ntmps68
 go_wp2
 go_ret2
 exact ⟨rfl, rfl⟩
set_option maxRecDepth 100000 in
set_option maxHeartbeats 2000000 in
theorem rrow_25 (w : World) : Calls Tryz.prog 68 #[.int .i64 25] w fun e w' => e = .returned (.tuple #[.string ⟨#[119, 119, 45, 45, 45]⟩, .bool true]) ∧ w' = w := by
 go_enter Tryz.func68, Tryz.ntmps68
 go_wp2
 go_ret2
 exact ⟨rfl, rfl⟩
set_option maxRecDepth 100000 in
set_option maxHeartbeats 2000000 in
theorem rrow_26 (w : World) : Calls Tryz.prog 68 #[.int .i64 26] w fun e w' => e = .returned (.tuple #[.string ⟨#[119, 119, 119, 119, 45]⟩, .bool true]) ∧ w' = w := by
 go_enter Tryz.func68, Tryz.ntmps68
 go_wp2
 go_ret2
 exact ⟨rfl, rfl⟩
set_option maxRecDepth 100000 in
set_option maxHeartbeats 2000000 in
theorem rrow_27 (w : World) : Calls Tryz.prog 68 #[.int .i64 27] w fun e w' => e = .returned (.tuple #[.string ⟨#[119, 119, 119, 45, 45]⟩, .bool true]) ∧ w' = w := by
 go_enter Tryz.func68, Tryz.ntmps68
 go_wp2
 go_ret2
 exact ⟨rfl, rfl⟩
set_option maxRecDepth 100000 in
set_option maxHeartbeats 2000000 in
theorem rrow_28 (w : World) : Calls Tryz.prog 68 #[.int .i64 28] w fun e w' => e = .returned (.tuple #[.string ⟨#[119, 119, 119, 45, 45]⟩, .bool true]) ∧ w' = w := by
 go_enter Tryz.func68, Tryz.ntmps68
 go_wp2
 go_ret2
 exact ⟨rfl, rfl⟩
set_option maxRecDepth 100000 in
set_option maxHeartbeats 2000000 in
theorem rrow_29 (w : World) : Calls Tryz.prog 68 #[.int .i64 29] w fun e w' => e = .returned (.tuple #[.string ⟨#[118, 45, 45, 45, 112]⟩, .bool true]) ∧ w' = w := by
 go_enter Tryz.func68, Tryz.ntmps68
 go_wp2
 go_ret2
 exact ⟨rfl, rfl⟩
end Go.Proofs.YtgcmnkanjcfndaaGreatDoor
namespace Go.Proofs.YtgcmnkanjcfndaaGreatDoor
open Go.RowKit
set_option linter.unusedVariables false
set_option linter.unusedSimpArgs false
set_option maxRecDepth 100000 in
set_option maxHeartbeats 2000000 in
theorem rrow_30 (w : World) : Calls Tryz.prog 68 #[.int .i64 30] w fun e w' => e = .returned (.tuple #[.string ⟨#[118, 45, 45, 45, 112]⟩, .bool true]) ∧ w' = w := by
 go_enter Tryz.func68, Tryz.ntmps68
 go_wp2
 go_ret2
 exact ⟨rfl, rfl⟩
set_option maxRecDepth 100000 in
set_option maxHeartbeats 2000000 in
theorem rrow_31 (w : World) : Calls Tryz.prog 68 #[.int .i64 31] w fun e w' => e = .returned (.tuple #[.string ⟨#[45, 118, 45, 45, 112]⟩, .bool true]) ∧ w' = w := by
 go_enter Tryz.func68, Tryz.ntmps68
 go_wp2
 go_ret2
 exact ⟨rfl, rfl⟩
set_option maxRecDepth 100000 in
set_option maxHeartbeats 2000000 in
theorem rrow_32 (w : World) : Calls Tryz.prog 68 #[.int .i64 32] w fun e w' => e = .returned (.tuple #[.string ⟨#[97, 45, 45, 45, 115]⟩, .bool true]) ∧ w' = w := by
 go_enter Tryz.func68, Tryz.ntmps68
 go_wp2
 go_ret2
 exact ⟨rfl, rfl⟩
set_option maxRecDepth 100000 in
set_option maxHeartbeats 2000000 in
theorem rrow_33 (w : World) : Calls Tryz.prog 68 #[.int .i64 33] w fun e w' => e = .returned (.tuple #[.string ⟨#[45, 97, 45, 45, 115]⟩, .bool true]) ∧ w' = w := by
 go_enter Tryz.func68, Tryz.ntmps68
 go_wp2
 go_ret2
 exact ⟨rfl, rfl⟩
set_option maxRecDepth 100000 in
set_option maxHeartbeats 2000000 in
theorem rrow_34 (w : World) : Calls Tryz.prog 68 #[.int .i64 34] w fun e w' => e = .returned (.tuple #[.string ⟨#[45, 119, 45, 45, 45]⟩, .bool true]) ∧ w' = w := by
 go_enter Tryz.func68, Tryz.ntmps68
 go_wp2
 go_ret2
 exact ⟨rfl, rfl⟩
set_option maxRecDepth 100000 in
set_option maxHeartbeats 2000000 in
theorem rrow_35 (w : World) : Calls Tryz.prog 68 #[.int .i64 35] w fun e w' => e = .returned (.tuple #[.string ⟨#[45, 45, 45, 45, 45]⟩, .bool true]) ∧ w' = w := by
 go_enter Tryz.func68, Tryz.ntmps68
 go_wp2
 go_ret2
 exact ⟨rfl, rfl⟩
set_option maxRecDepth 100000 in
set_option maxHeartbeats 2000000 in
theorem rrow_36 (w : World) : Calls Tryz.prog 68 #[.int .i64 36] w fun e w' => e = .returned (.tuple #[.string ⟨#[45, 45, 45, 45, 113]⟩, .bool true]) ∧ w' = w := by
 go_enter Tryz.func68, Tryz.ntmps68
 go_wp2
 go_ret2
 exact ⟨rfl, rfl⟩
set_option maxRecDepth 100000 in
set_option maxHeartbeats 2000000 in
theorem rrow_37 (w : World) : Calls Tryz.prog 68 #[.int .i64 37] w fun e w' => e = .returned (.tuple #[.string ⟨#[45, 45, 45, 45, 45]⟩, .bool true]) ∧ w' = w := by
 go_enter Tryz.func68, Tryz.ntmps68
 go_wp2
 go_ret2
 exact ⟨rfl, rfl⟩
end Go.Proofs.YtgcmnkanjcfndaaGreatDoor
namespace Go.Proofs.YtgcmnkanjcfndaaGreatDoor
open Go.RowKit
set_option linter.unusedVariables false
set_option linter.unusedSimpArgs false
set_option maxRecDepth 100000 in
set_option maxHeartbeats 2000000 in
theorem rrow_none (op : Int) (h : knownP op = false) (w : World) : Calls Tryz.prog 68 #[.int .i64 op] w fun e w' => e = .returned (.tuple #[.string ⟨#[]⟩, .bool false]) ∧ w' = w := by
 have hh : op < 1 ∨ 37 < op := by unfold knownP at h; simp at h; omega
 have e1 : (op == 1) = false := by have : op ≠ 1 := (by omega); simpa using this
 have e2 : (op == 2) = false := by have : op ≠ 2 := (by omega); simpa using this
 have e3 : (op == 3) = false := by have : op ≠ 3 := (by omega); simpa using this
 have e4 : (op == 4) = false := by have : op ≠ 4 := (by omega); simpa using this
 have e5 : (op == 5) = false := by have : op ≠ 5 := (by omega); simpa using this
 have e6 : (op == 6) = false := by have : op ≠ 6 := (by omega); simpa using this
 have e7 : (op == 7) = false := by have : op ≠ 7 := (by omega); simpa using this
 have e8 : (op == 8) = false := by have : op ≠ 8 := (by omega); simpa using this
 have e9 : (op == 9) = false := by have : op ≠ 9 := (by omega); simpa using this
 have e10 : (op == 10) = false := by have : op ≠ 10 := (by omega); simpa using this
 have e11 : (op == 11) = false := by have : op ≠ 11 := (by omega); simpa using this
 have e12 : (op == 12) = false := by have : op ≠ 12 := (by omega); simpa using this
 have e13 : (op == 13) = false := by have : op ≠ 13 := (by omega); simpa using this
 have e14 : (op == 14) = false := by have : op ≠ 14 := (by omega); simpa using this
 have e15 : (op == 15) = false := by have : op ≠ 15 := (by omega); simpa using this
 have e16 : (op == 16) = false := by have : op ≠ 16 := (by omega); simpa using this
 have e17 : (op == 17) = false := by have : op ≠ 17 := (by omega); simpa using this
 have e18 : (op == 18) = false := by have : op ≠ 18 := (by omega); simpa using this
 have e19 : (op == 19) = false := by have : op ≠ 19 := (by omega); simpa using this
 have e20 : (op == 20) = false := by have : op ≠ 20 := (by omega); simpa using this
 have e21 : (op == 21) = false := by have : op ≠ 21 := (by omega); simpa using this
 have e22 : (op == 22) = false := by have : op ≠ 22 := (by omega); simpa using this
 have e23 : (op == 23) = false := by have : op ≠ 23 := (by omega); simpa using this
 have e24 : (op == 24) = false := by have : op ≠ 24 := (by omega); simpa using this
 have e25 : (op == 25) = false := by have : op ≠ 25 := (by omega); simpa using this
 have e26 : (op == 26) = false := by have : op ≠ 26 := (by omega); simpa using this
 have e27 : (op == 27) = false := by have : op ≠ 27 := (by omega); simpa using this
 have e28 : (op == 28) = false := by have : op ≠ 28 := (by omega); simpa using this
 have e29 : (op == 29) = false := by have : op ≠ 29 := (by omega); simpa using this
 have e30 : (op == 30) = false := by have : op ≠ 30 := (by omega); simpa using this
 have e31 : (op == 31) = false := by have : op ≠ 31 := (by omega); simpa using this
 have e32 : (op == 32) = false := by have : op ≠ 32 := (by omega); simpa using this
 have e33 : (op == 33) = false := by have : op ≠ 33 := (by omega); simpa using this
 have e34 : (op == 34) = false := by have : op ≠ 34 := (by omega); simpa using this
 have e35 : (op == 35) = false := by have : op ≠ 35 := (by omega); simpa using this
 have e36 : (op == 36) = false := by have : op ≠ 36 := (by omega); simpa using this
 have e37 : (op == 37) = false := by have : op ≠ 37 := (by omega); simpa using this
 clear hh h
 go_enter Tryz.func68, Tryz.ntmps68
 go_wp2
 go_ret2
 exact ⟨rfl, rfl⟩
structure RowText (r : Rw) (a b c d e : UInt8) : Prop where
 a : (a == 45) = (r.d == 0)
 b : (b == 45) = (r.a == 0)
 c : (c == 45) = (r.b == 0)
 d : (d == 45) = (r.c == 0)
theorem rrow_any (op : Int) (w : World) : (knownP op = false ∧ Calls Tryz.prog 68 #[.int .i64 op] w fun e w' => e = .returned (.tuple #[.string ⟨#[]⟩, .bool false]) ∧ w' = w) ∨ (knownP op = true ∧ ∃ a b c d e : UInt8, RowText (rowP op) a b c d e ∧ ∀ w, Calls Tryz.prog 68 #[.int .i64 op] w fun x w' => x = .returned (.tuple #[.string ⟨#[a, b, c, d, e]⟩, .bool true]) ∧ w' = w) := by
 by_cases h : knownP op = false
 ·exact .inl ⟨h, rrow_none op h w⟩
 ·have hh : 1 ≤ op ∧ op ≤ 37 := by unfold knownP at h; simp at h; omega
  refine .inr ⟨by simpa using h, ?_⟩
  clear h
  by_cases k1 : op = 1
  ·subst k1; exact ⟨_, _, _, _, _, ⟨rfl, rfl, rfl, rfl⟩, fun w => rrow_1 w⟩
  by_cases k2 : op = 2
  ·subst k2; exact ⟨_, _, _, _, _, ⟨rfl, rfl, rfl, rfl⟩, fun w => rrow_2 w⟩
  by_cases k3 : op = 3
  ·subst k3; exact ⟨_, _, _, _, _, ⟨rfl, rfl, rfl, rfl⟩, fun w => rrow_3 w⟩
  by_cases k4 : op = 4
  ·subst k4; exact ⟨_, _, _, _, _, ⟨rfl, rfl, rfl, rfl⟩, fun w => rrow_4 w⟩
  by_cases k5 : op = 5
  ·subst k5; exact ⟨_, _, _, _, _, ⟨rfl, rfl, rfl, rfl⟩, fun w => rrow_5 w⟩
  by_cases k6 : op = 6
  ·subst k6; exact ⟨_, _, _, _, _, ⟨rfl, rfl, rfl, rfl⟩, fun w => rrow_6 w⟩
  by_cases k7 : op = 7
  ·subst k7; exact ⟨_, _, _, _, _, ⟨rfl, rfl, rfl, rfl⟩, fun w => rrow_7 w⟩
  by_cases k8 : op = 8
  ·subst k8; exact ⟨_, _, _, _, _, ⟨rfl, rfl, rfl, rfl⟩, fun w => rrow_8 w⟩
  by_cases k9 : op = 9
  ·subst k9; exact ⟨_, _, _, _, _, ⟨rfl, rfl, rfl, rfl⟩, fun w => rrow_9 w⟩
  by_cases k10 : op = 10
  ·subst k10; exact ⟨_, _, _, _, _, ⟨rfl, rfl, rfl, rfl⟩, fun w => rrow_10 w⟩
  by_cases k11 : op = 11
  ·subst k11; exact ⟨_, _, _, _, _, ⟨rfl, rfl, rfl, rfl⟩, fun w => rrow_11 w⟩
  by_cases k12 : op = 12
  ·subst k12; exact ⟨_, _, _, _, _, ⟨rfl, rfl, rfl, rfl⟩, fun w => rrow_12 w⟩
  by_cases k13 : op = 13
  ·subst k13; exact ⟨_, _, _, _, _, ⟨rfl, rfl, rfl, rfl⟩, fun w => rrow_13 w⟩
  by_cases k14 : op = 14
  ·subst k14; exact ⟨_, _, _, _, _, ⟨rfl, rfl, rfl, rfl⟩, fun w => rrow_14 w⟩
  by_cases k15 : op = 15
  ·subst k15; exact ⟨_, _, _, _, _, ⟨rfl, rfl, rfl, rfl⟩, fun w => rrow_15 w⟩
  by_cases k16 : op = 16
  ·subst k16; exact ⟨_, _, _, _, _, ⟨rfl, rfl, rfl, rfl⟩, fun w => rrow_16 w⟩
  by_cases k17 : op = 17
  ·subst k17; exact ⟨_, _, _, _, _, ⟨rfl, rfl, rfl, rfl⟩, fun w => rrow_17 w⟩
  by_cases k18 : op = 18
  ·subst k18; exact ⟨_, _, _, _, _, ⟨rfl, rfl, rfl, rfl⟩, fun w => rrow_18 w⟩
  by_cases k19 : op = 19
  ·subst k19; exact ⟨_, _, _, _, _, ⟨rfl, rfl, rfl, rfl⟩, fun w => rrow_19 w⟩
  by_cases k20 : op = 20
  ·subst k20; exact ⟨_, _, _, _, _, ⟨rfl, rfl, rfl, rfl⟩, fun w => rrow_20 w⟩
  by_cases k21 : op = 21
  ·subst k21; exact ⟨_, _, _, _, _, ⟨rfl, rfl, rfl, rfl⟩, fun w => rrow_21 w⟩
  by_cases k22 : op = 22
  ·subst k22; exact ⟨_, _, _, _, _, ⟨rfl, rfl, rfl, rfl⟩, fun w => rrow_22 w⟩
  by_cases k23 : op = 23
  ·subst k23; exact ⟨_, _, _, _, _, ⟨rfl, rfl, rfl, rfl⟩, fun w => rrow_23 w⟩
  by_cases k24 : op = 24
  ·subst k24; exact ⟨_, _, _, _, _, ⟨rfl, rfl, rfl, rfl⟩, fun w => rrow_24 w⟩
  by_cases k25 : op = 25
  ·subst k25; exact ⟨_, _, _, _, _, ⟨rfl, rfl, rfl, rfl⟩, fun w => rrow_25 w⟩
  by_cases k26 : op = 26
  ·subst k26; exact ⟨_, _, _, _, _, ⟨rfl, rfl, rfl, rfl⟩, fun w => rrow_26 w⟩
  by_cases k27 : op = 27
  ·subst k27; exact ⟨_, _, _, _, _, ⟨rfl, rfl, rfl, rfl⟩, fun w => rrow_27 w⟩
  by_cases k28 : op = 28
  ·subst k28; exact ⟨_, _, _, _, _, ⟨rfl, rfl, rfl, rfl⟩, fun w => rrow_28 w⟩
  by_cases k29 : op = 29
  ·subst k29; exact ⟨_, _, _, _, _, ⟨rfl, rfl, rfl, rfl⟩, fun w => rrow_29 w⟩
  by_cases k30 : op = 30
  ·subst k30; exact ⟨_, _, _, _, _, ⟨rfl, rfl, rfl, rfl⟩, fun w => rrow_30 w⟩
  by_cases k31 : op = 31
  ·subst k31; exact ⟨_, _, _, _, _, ⟨rfl, rfl, rfl, rfl⟩, fun w => rrow_31 w⟩
  by_cases k32 : op = 32
  ·subst k32; exact ⟨_, _, _, _, _, ⟨rfl, rfl, rfl, rfl⟩, fun w => rrow_32 w⟩
  by_cases k33 : op = 33
  ·subst k33; exact ⟨_, _, _, _, _, ⟨rfl, rfl, rfl, rfl⟩, fun w => rrow_33 w⟩
  by_cases k34 : op = 34
  ·subst k34; exact ⟨_, _, _, _, _, ⟨rfl, rfl, rfl, rfl⟩, fun w => rrow_34 w⟩
  by_cases k35 : op = 35
  ·subst k35; exact ⟨_, _, _, _, _, ⟨rfl, rfl, rfl, rfl⟩, fun w => rrow_35 w⟩
  by_cases k36 : op = 36
  ·subst k36; exact ⟨_, _, _, _, _, ⟨rfl, rfl, rfl, rfl⟩, fun w => rrow_36 w⟩
  by_cases k37 : op = 37
  ·subst k37; exact ⟨_, _, _, _, _, ⟨rfl, rfl, rfl, rfl⟩, fun w => rrow_37 w⟩
  omega
end Go.Proofs.YtgcmnkanjcfndaaGreatDoor
