import Derived.Test.YtpidcmfmdgppbaaFloatRoots
import Derived.Test.YtpidcmfmdgppbaaRefDiv2
import Derived.Test.YtpidcmfmdgppbaaRefAdd3
import Derived.Test.YtpidcmfmdgppbaaRefOrd
import Derived.Test.YtpidcmfmdgppbaaLists4R
/- Layer 5, without the program: folds, the operations by their numbers. -/
namespace Go.Proofs.Ytpidcmfmdgppbaa
open Go.RowKit
set_option linter.unusedVariables false

/-- A pattern of 32 bits. -/
def IsP (a : Int) : Prop := 0 ≤ a ∧ a < 4294967296
theorem isP_canon (a : Int) (h : IsP a) : IsP (canon a) := canon_lo a h.1 h.2
theorem isP_add (a b : Int) : IsP (fadd a b) := fadd_lo a b
theorem isP_sub (a b : Int) : IsP (fsub a b) := fsub_lo a b
theorem isP_mul (a b : Int) : IsP (fmul a b) := fmul_lo a b
theorem isP_div (a b : Int) : IsP (fdiv a b) := fdiv_lo a b
theorem isP_sqrt (a : Int) : IsP (fsqrt a) := fsqrt_lo a
theorem isP_neg (a : Int) (h : IsP a) : IsP (fneg a) := fneg_lo a h.1 h.2
theorem isP_abs (a : Int) (h : IsP a) : IsP (fabs a) := canon_lo _ (by have := h.1; omega) (by have := h.1; omega)
theorem isP_min (a b : Int) (h : IsP a) (k : IsP b) : IsP (fmin a b) := by
  have h1 := h.1; have h2 := h.2; have k1 := k.1; have k2 := k.2
  unfold IsP fmin; split
  · decide
  · exact h
  · exact k
  · split
    · exact h
    · exact k
theorem isP_max (a b : Int) (h : IsP a) (k : IsP b) : IsP (fmax a b) := by
  have h1 := h.1; have h2 := h.2; have k1 := k.1; have k2 := k.2
  unfold IsP fmax; split
  · decide
  · exact k
  · exact h
  · split
    · exact k
    · exact h
theorem isP_sel (c a b : Int) (h : IsP a) (k : IsP b) : IsP (fsel c a b) := by
  unfold fsel; split
  · exact isP_canon b k
  · exact isP_canon a h

/-- From s on, in order. -/
def foldx (f : Int → Int → Int) (s : Int) (X : Nat → Int) : Nat → Int
  | 0 => s
  | n + 1 => f (foldx f s X n) (X n)
theorem foldx_succ (f : Int → Int → Int) (s : Int) (X : Nat → Int) (n : Nat) : foldx f s X (n + 1) = f (foldx f s X n) (X n) := rfl
theorem foldx_lo {f : Int → Int → Int} (hf : ∀ a b, IsP a → IsP b → IsP (f a b)) {s : Int} (hs : IsP s) {X : Nat → Int} (hX : ∀ i, IsP (X i)) : ∀ n, IsP (foldx f s X n)
  | 0 => hs
  | n + 1 => hf _ _ (foldx_lo hf hs hX n) (hX n)
theorem foldx_congr {f : Int → Int → Int} {s : Int} {X Y : Nat → Int} : ∀ n, (∀ i, i < n → X i = Y i) → foldx f s X n = foldx f s Y n
  | 0, _ => rfl
  | n + 1, h => by rw [foldx_succ, foldx_succ, foldx_congr n (fun i hi => h i (by omega)), h n (by omega)]

def fsum (X : Nat → Int) (n : Nat) : Int := foldx fadd 0 X n
def fdot (X Y : Nat → Int) (n : Nat) : Int := foldx fadd 0 (fun i => fmul (X i) (Y i)) n
def fmean (X : Nat → Int) (n : Nat) : Int := fdiv (fsum X n) (ffrom n)
def fleast (X : Nat → Int) (n : Nat) : Int := foldx fmin 2139095040 X n
def fmost (X : Nat → Int) (n : Nat) : Int := foldx fmax 4286578688 X n
def fnorm (X : Nat → Nat → Int) (l : Nat → Nat) (m : Nat) : Int := fsqrt (foldx fadd 0 (fun i => fdot (X i) (X i) (l i)) m)
def allfin (X : Nat → Int) : Nat → Bool
  | 0 => true
  | n + 1 => allfin X n && ffin (X n)
theorem isP_0 : IsP 0 := by unfold IsP; decide
theorem isP_sum (X : Nat → Int) (n : Nat) (hX : ∀ i, IsP (X i)) : IsP (fsum X n) := foldx_lo (fun _ _ _ _ => fadd_lo _ _) isP_0 hX n
theorem isP_dot (X Y : Nat → Int) (n : Nat) : IsP (fdot X Y n) := foldx_lo (fun _ _ _ _ => fadd_lo _ _) isP_0 (fun _ => fmul_lo _ _) n

/-- How many arguments an elementwise instruction takes; 0: it is none. -/
def takes (op : Int) : Nat :=
  if op = 3 ∨ op = 11 ∨ op = 12 ∨ op = 13 ∨ op = 14 then 1 else if op = 4 ∨ op = 5 ∨ op = 6 ∨ op = 7 ∨ op = 8 ∨ op = 9 ∨ op = 10 then 2 else if op = 15 then 3 else 0
def flag (b : Bool) : Int := if b then 1065353216 else 0
theorem isP_flag (b : Bool) : IsP (flag b) := by unfold IsP flag; cases b <;> decide
theorem isP_ite {c : Prop} [Decidable c] {a b : Int} (h : IsP a) (k : IsP b) : IsP (if c then a else b) := by
  split
  · exact h
  · exact k
/-- What it makes of an element of each. -/
def opf (op a b c : Int) : Int :=
  if op = 3 then canon a else if op = 11 then fsqrt a else if op = 12 then fneg a else if op = 13 then fabs a else if op = 14 then flag (ffin a)
  else if op = 4 then fadd a b else if op = 5 then fsub a b else if op = 6 then fmul a b else if op = 7 then fdiv a b else if op = 8 then fmin a b else if op = 9 then fmax a b
  else if op = 10 then flag (fless a b) else fsel a b c
theorem isP_opf (op a b c : Int) (ha : IsP a) (hb : IsP b) (hc : IsP c) : IsP (opf op a b c) :=
  isP_ite (isP_canon a ha) (isP_ite (isP_sqrt a) (isP_ite (isP_neg a ha) (isP_ite (isP_abs a ha) (isP_ite (isP_flag _) (isP_ite (isP_add a b) (isP_ite (isP_sub a b) (isP_ite (isP_mul a b)
    (isP_ite (isP_div a b) (isP_ite (isP_min a b ha hb) (isP_ite (isP_max a b ha hb) (isP_ite (isP_flag _) (isP_sel a b c hb hc))))))))))))

end Go.Proofs.Ytpidcmfmdgppbaa
