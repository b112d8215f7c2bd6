import Derived.RowKit3
/- Layer 6, plainly: a text as a list of bytes, its tokens. No program in it. -/
namespace Go.Proofs.YtnhpnmilgcjeaaaDoor
set_option linter.unusedVariables false
set_option linter.unusedSimpArgs false

abbrev Bs := List UInt8

def pBlank (c : Int) : Bool := c == 9 || c == 10 || c == 13 || c == 32
def pRemark (c : Int) : Bool := c != 10
def pLetter (c : Int) : Bool := (decide (97 ≤ c) && decide (c ≤ 122)) || c == 95
def pDigit (c : Int) : Bool := decide (48 ≤ c) && decide (c ≤ 57)
def pInName (c : Int) : Bool := pLetter c || pDigit c
def pExponent (c : Int) : Bool := c == 101 || c == 69
def pSign (c : Int) : Bool := c == 43 || c == 45
def pInText (c : Int) : Bool := (decide (32 ≤ c) && decide (c ≤ 126)) && c != 34

/-- A byte as a number. -/
def nb (b : UInt8) : Int := (b.toNat : Int)
def on (p : Int → Bool) (b : UInt8) : Bool := p (nb b)

/-- The first byte of a rest, or 0. -/
def hd : Bs → Int
  | [] => 0
  | b :: _ => nb b

/-- How many bytes at the front belong. -/
def run (p : Int → Bool) : Bs → Nat
  | [] => 0
  | b :: t => if p (nb b) then run p t + 1 else 0

theorem run_le (p : Int → Bool) : ∀ r : Bs, run p r ≤ r.length
  | [] => Nat.le_refl 0
  | b :: t => by
    unfold run
    split
    · exact Nat.succ_le_succ (run_le p t)
    · exact Nat.zero_le _

/-- What is left behind blanks and comments; 'true': within a comment. -/
def skp : Bool → Bs → Bs
  | _, [] => []
  | false, b :: t => if pBlank (nb b) then skp false t else if nb b == 35 then skp true t else b :: t
  | true, b :: t => if nb b == 10 then skp false t else skp true t

theorem skp_le : ∀ (c : Bool) (r : Bs), (skp c r).length ≤ r.length
  | c, [] => by cases c <;> exact Nat.le_refl 0
  | false, b :: t => by
    unfold skp
    split
    · exact Nat.le_succ_of_le (skp_le false t)
    · split
      · exact Nat.le_succ_of_le (skp_le true t)
      · exact Nat.le_refl _
  | true, b :: t => by
    unfold skp
    split
    · exact Nat.le_succ_of_le (skp_le false t)
    · exact Nat.le_succ_of_le (skp_le true t)

/-- A mark's number from 0 on, or -1. -/
def markOf (c : Int) : Int := if c == 40 then 0 else if c == 41 then 1 else if c == 44 then 2 else if c == 61 then 3 else if c == 45 then 4 else if c == 59 then 5 else -1

structure Scan1 where
  kind : Int
  len : Nat
  err : Int

def fitL (kind : Int) (len counted : Nat) : Scan1 := if counted > 64 then ⟨0, 0, 2⟩ else ⟨kind, len, 0⟩

def behindL (kind : Int) (m : Nat) (r : Bs) : Scan1 := if pLetter (hd r) || hd r == 46 then ⟨0, 0, 62⟩ else fitL kind m m

/-- Behind the e: m bytes stand ahead of r. -/
def expL (m : Nat) (r : Bs) : Scan1 :=
  if pDigit (hd r) then behindL 2 (m + run pDigit r) (r.drop (run pDigit r)) else ⟨0, 0, 62⟩

def expoL (m : Nat) (r : Bs) : Scan1 :=
  if pSign (hd (r.drop 1)) then expL (m + 2) (r.drop 2) else expL (m + 1) (r.drop 1)

def tailL (kind : Int) (m : Nat) (r : Bs) : Scan1 := if pExponent (hd r) then expoL m r else behindL kind m r

def numL (r : Bs) : Scan1 :=
  if hd (r.drop (run pDigit r)) == 46 then
    (if pDigit (hd (r.drop (run pDigit r + 1))) then tailL 2 (run pDigit r + 1 + run pDigit (r.drop (run pDigit r + 1))) (r.drop (run pDigit r + 1 + run pDigit (r.drop (run pDigit r + 1)))) else ⟨0, 0, 62⟩)
  else tailL 3 (run pDigit r) (r.drop (run pDigit r))

def tokL (r : Bs) : Scan1 :=
  if pLetter (hd r) then fitL 1 (run pInName r) (run pInName r)
  else if pDigit (hd r) then numL r
  else if hd r == 34 then (if hd (r.drop (1 + run pInText (r.drop 1))) == 34 then fitL 4 (2 + run pInText (r.drop 1)) (run pInText (r.drop 1)) else ⟨0, 0, 61⟩)
  else if 0 ≤ markOf (hd r) then ⟨5 + markOf (hd r), 1, 0⟩
  else ⟨0, 0, 60⟩

structure Tok where
  kind : Int
  text : Bs
  at_ : Nat

/-- A token's text: of its bytes. -/
def textOf (kind : Int) (t : Bs) : Bs := if kind == 4 then (t.drop 1).take (t.length - 2) else t

structure Scanned where
  toks : List Tok
  err : Int
  place : Nat

/-- From the first byte of a token on; n: the whole text's length; f: as many rounds at most. -/
def scanF (n : Nat) : Nat → Bs → Scanned
  | _, [] => ⟨[], 0, n⟩
  | 0, _ :: _ => ⟨[], 0, n⟩
  | f + 1, b :: t =>
    if (tokL (b :: t)).err ≠ 0 then ⟨[], (tokL (b :: t)).err, n - (b :: t).length⟩
    else
      ⟨⟨(tokL (b :: t)).kind, textOf (tokL (b :: t)).kind ((b :: t).take (tokL (b :: t)).len), n - (b :: t).length⟩ :: (scanF n f (skp false ((b :: t).drop (tokL (b :: t)).len))).toks,
        (scanF n f (skp false ((b :: t).drop (tokL (b :: t)).len))).err, (scanF n f (skp false ((b :: t).drop (tokL (b :: t)).len))).place⟩

def scan0 (l : Bs) : Scanned := scanF l.length l.length (skp false l)

/-- LX1. -/
def scanP (l : Bs) : Scanned :=
  if l.length > 65536 then ⟨[], 2, 0⟩
  else if (scan0 l).err ≠ 0 then ⟨[], (scan0 l).err, (scan0 l).place⟩
  else ⟨(scan0 l).toks ++ [⟨0, [], l.length⟩], 0, 0⟩

def markB (k : Int) : Bs := if k == 5 then [40] else if k == 6 then [41] else if k == 7 then [44] else if k == 8 then [61] else if k == 9 then [45] else [59]

/-- A token's bytes, as Show writes it. -/
def piece (kind : Int) (t : Bs) : Option Bs :=
  if kind == 1 || kind == 2 || kind == 3 then some t
  else if kind == 4 then some (34 :: (t ++ [34]))
  else if 5 ≤ kind ∧ kind ≤ 10 then some (markB kind)
  else none

def pieces (l : List Tok) : List Bs := l.filterMap fun t => piece t.kind t.text

/-- The pieces, a blank between two. -/
def joinB : List Bs → Bs
  | [] => []
  | [x] => x
  | x :: y :: r => x ++ (32 :: joinB (y :: r))

def showP (l : List Tok) : Bs := joinB (pieces l)

/- What a token has: one byte at least, and no more than there are. -/
theorem run_pos (p : Int → Bool) (r : Bs) (h0 : r ≠ []) (h : p (hd r) = true) : 1 ≤ run p r := by
  cases r with
  | nil => exact absurd rfl h0
  | cons b t => unfold run; unfold hd at h; rw [if_pos h]; omega

theorem hd_lt (r : Bs) (h : hd r ≠ 0) : 1 ≤ r.length := by
  cases r with
  | nil => exact absurd rfl h
  | cons b t => simp

theorem hd_ne (p : Int → Bool) (h0 : p 0 = false) (r : Bs) (h : p (hd r) = true) : 1 ≤ r.length := by
  cases r with
  | nil => unfold hd at h; rw [h0] at h; cases h
  | cons b t => simp

theorem fitL_len {k : Int} {m c : Nat} (h : (fitL k m c).err = 0) : (fitL k m c) = ⟨k, m, 0⟩ ∧ c ≤ 64 := by
  unfold fitL at h ⊢
  split
  · rename_i g; rw [if_pos g] at h; exact absurd h (by decide)
  · exact ⟨rfl, by omega⟩

theorem behindL_len {k : Int} {m : Nat} {r : Bs} (h : (behindL k m r).err = 0) : behindL k m r = ⟨k, m, 0⟩ ∧ m ≤ 64 ∧ pLetter (hd r) = false ∧ (hd r == 46) = false := by
  unfold behindL at h ⊢
  split
  · rename_i g; rw [if_pos g] at h; exact absurd h (by decide)
  · rename_i g
    rw [if_neg g] at h
    have := fitL_len h
    simp only [Bool.or_eq_true, not_or, Bool.not_eq_true] at g
    exact ⟨this.1, this.2, g.1, g.2⟩

end Go.Proofs.YtnhpnmilgcjeaaaDoor
