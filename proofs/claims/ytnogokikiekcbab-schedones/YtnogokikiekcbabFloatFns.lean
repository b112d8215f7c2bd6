import Derived.Test.YtnogokikiekcbabFloatPlain
import Derived.Test.YtnogokikiekcbabBitsPlain
import Derived.Laws.FloatArith
/- The operations of binary32 as functions of patterns, and what the machine's NaNs come to. -/
namespace Go.Proofs.Ytnogokikiekcbab
set_option linter.unusedVariables false

def op2 : Option Nat → Int
  | some r => r
  | none => 2143289344
def fadd (a b : Int) : Int := op2 (Ieee.single.add a.toNat b.toNat)
def fsub (a b : Int) : Int := op2 (Ieee.single.sub a.toNat b.toNat)
def fmul (a b : Int) : Int := op2 (Ieee.single.mul a.toNat b.toNat)
def fdiv (a b : Int) : Int := op2 (Ieee.single.div a.toNat b.toNat)
def fsqrt (a : Int) : Int := op2 (Ieee.single.sqrt a.toNat)
def ffrom (n : Int) : Int := (Ieee.single.nearest (decide (n < 0)) n.natAbs 0 : Nat)
def fneg (a : Int) : Int := canon (if 2147483648 ≤ a then a - 2147483648 else a + 2147483648)
def fabs (a : Int) : Int := canon (a % 2147483648)
def ord (a b : Int) : Option Ordering := Ieee.single.order a.toNat b.toNat
def fmin (a b : Int) : Int := match ord a b with
  | none => 2143289344
  | some .lt => a
  | some .gt => b
  | some .eq => if 2147483648 ≤ a then a else b
def fmax (a b : Int) : Int := match ord a b with
  | none => 2143289344
  | some .lt => b
  | some .gt => a
  | some .eq => if 2147483648 ≤ a then b else a
def fless (a b : Int) : Bool := ord a b == some .lt
def feq (a b : Int) : Bool := ord a b == some .eq
def ffin (a : Int) : Bool := decide (a % 2147483648 < 2139095040)
def fsel (c a b : Int) : Int := if nan c || c % 2147483648 == 0 then canon b else canon a

theorem rg_wd (s : Bool) (r : Nat) : rg (wd s r) = min r 2139095040 := by
  unfold rg wd; split <;> omega
theorem ng_wd (s : Bool) (r : Nat) : ng (wd s r) = s := by
  unfold ng wd; cases s
  · simp; omega
  · simp; omega
theorem wd_lt (s : Bool) (r : Nat) : wd s r < 4294967296 := by unfold wd; split <;> omega

theorem write_num (d : Ieee.Datum) (h : d.isNaN = false) : rg (Ieee.single.write d) ≤ 2139095040 := by
  cases d with
  | number s m e => show rg (Ieee.single.nearest s m e) ≤ _; rw [nearest_eq, word_wd, rg_wd]; omega
  | infinity s => show rg (wd s 2139095040) ≤ _; rw [rg_wd]; omega
  | nan s t => simp [Ieee.Datum.isNaN] at h

theorem sum_num {d e f : Ieee.Datum} (h : d.sum e = some f) : f.isNaN = false := by
  cases d <;> cases e <;> simp [Ieee.Datum.sum] at h <;> first | (subst h; rfl) | (obtain ⟨_, rfl⟩ := h; rfl)
theorem prod_num {d e f : Ieee.Datum} (h : d.product e = some f) : f.isNaN = false := by
  cases d <;> cases e <;> simp [Ieee.Datum.product] at h <;> first | (subst h; rfl) | (obtain ⟨_, rfl⟩ := h; rfl)
theorem quot_num {k : Nat} {d e f : Ieee.Datum} (h : d.quotient k e = some f) : f.isNaN = false := by
  cases d <;> cases e <;> simp [Ieee.Datum.quotient] at h
  · split at h
    · split at h
      · cases h
      · cases h; rfl
    · cases h; rfl
  · subst h; rfl
  · subst h; rfl
theorem root_num {k : Nat} {d f : Ieee.Datum} (h : d.root k = some f) : f.isNaN = false := by
  cases d <;> simp [Ieee.Datum.root] at h
  · split at h
    · cases h; rfl
    · split at h
      · cases h
      · simp only [Option.some.injEq] at h; subst h; rfl
  · obtain ⟨-, rfl⟩ := h; rfl

theorem map_num {o : Option Ieee.Datum} {r : Nat} (h : o.map Ieee.single.write = some r) (k : ∀ f, o = some f → f.isNaN = false) : rg r ≤ 2139095040 ∧ r < 4294967296 := by
  have lt := Ieee.single.map_write_lt h
  cases o with
  | none => simp at h
  | some d => simp only [Option.map_some, Option.some.injEq] at h; subst h; exact ⟨write_num d (k d rfl), lt⟩
theorem add_num {x y r : Nat} (h : Ieee.single.add x y = some r) : rg r ≤ 2139095040 ∧ r < 4294967296 := map_num h fun _ q => sum_num q
theorem sub_num {x y r : Nat} (h : Ieee.single.sub x y = some r) : rg r ≤ 2139095040 ∧ r < 4294967296 := map_num h fun _ q => sum_num q
theorem mul_num {x y r : Nat} (h : Ieee.single.mul x y = some r) : rg r ≤ 2139095040 ∧ r < 4294967296 := map_num h fun _ q => prod_num q
theorem div_num {x y r : Nat} (h : Ieee.single.div x y = some r) : rg r ≤ 2139095040 ∧ r < 4294967296 := map_num h fun _ q => quot_num q
theorem sqrt_num {x r : Nat} (h : Ieee.single.sqrt x = some r) : rg r ≤ 2139095040 ∧ r < 4294967296 := map_num h fun _ q => root_num q

theorem nan_nat (r : Nat) : nan (r : Int) = decide (2139095040 < rg r) := by unfold nan rg; rw [decide_eq_decide]; omega
theorem canon_num {r : Nat} (h : rg r ≤ 2139095040) : canon (r : Int) = r := by
  unfold canon; rw [nan_nat]; simp; omega
theorem canon_not {r : Nat} (h : 2139095040 < rg r) : canon (r : Int) = 2143289344 := by
  unfold canon; rw [nan_nat]; simp; omega

/-- Whatever NaN the tape says is one. -/
theorem cut_nan (x y t : Nat) : 2139095040 < rg ((Question.nanBits .f32 x y).cut t) ∧ (Question.nanBits .f32 x y).cut t < 4294967296 := by
  have e : (Question.nanBits .f32 x y).cut t = t % 2 * 2147483648 + 2139095040 + 1 + t / 2 % 8388607 := rfl
  have h2 : t % 2 = 0 ∨ t % 2 = 1 := by omega
  have h3 := Nat.mod_lt (t / 2) (show 0 < 8388607 by decide)
  rw [e]; unfold rg
  generalize t / 2 % 8388607 = q at *
  rcases h2 with h | h <;> rw [h] <;> omega
theorem cut_conv (x t : Nat) : 2139095040 < rg ((Question.nanConv .f32 x).cut t) ∧ (Question.nanConv .f32 x).cut t < 4294967296 := by
  have e : (Question.nanConv .f32 x).cut t = t % 2 * 2147483648 + 2139095040 + 1 + t / 2 % 8388607 := rfl
  have h2 : t % 2 = 0 ∨ t % 2 = 1 := by omega
  have h3 := Nat.mod_lt (t / 2) (show 0 < 8388607 by decide)
  rw [e]; unfold rg
  generalize t / 2 % 8388607 = q at *
  rcases h2 with h | h <;> rw [h] <;> omega
theorem cut_minmax (m : Bool) (x y t : Nat) : 2139095040 < rg ((Question.nanMinMax .f32 m x y).cut t) ∧ (Question.nanMinMax .f32 m x y).cut t < 4294967296 := by
  have e : (Question.nanMinMax .f32 m x y).cut t = t % 2 * 2147483648 + 2139095040 + 1 + t / 2 % 8388607 := rfl
  have h2 : t % 2 = 0 ∨ t % 2 = 1 := by omega
  have h3 := Nat.mod_lt (t / 2) (show 0 < 8388607 by decide)
  rw [e]; unfold rg
  generalize t / 2 % 8388607 = q at *
  rcases h2 with h | h <;> rw [h] <;> omega

section
variable {P : Program} (w : World)
theorem run_float_nan (op : BinOp) (t : TypeId) (k : FloatKind) (x y : Nat) (hop : op = .add ∨ op = .sub ∨ op = .mul ∨ op = .quo) (h : floatBits op k x y = none) :
    (binOp op t (.float k x) (.float k y)).run P w = .ok (.float k ((Question.nanBits k x y).cut (w.tape w.drawn (.nanBits k x y)))) w.drew := by
  rcases hop with rfl | rfl | rfl | rfl <;> simp only [floatBits] at h <;> simp [binOp, Op.floatArith, h, choose, Sem.run, Question.forced]
end

theorem op2_lo (o : Option Nat) (h : ∀ r, o = some r → r < 4294967296) : 0 ≤ op2 o ∧ op2 o < 4294967296 := by
  cases o with
  | none => decide
  | some r => have := h r rfl; show 0 ≤ (r : Int) ∧ (r : Int) < _; omega
theorem fadd_lo (a b : Int) : 0 ≤ fadd a b ∧ fadd a b < 4294967296 := op2_lo _ fun _ h => (add_num h).2
theorem fsub_lo (a b : Int) : 0 ≤ fsub a b ∧ fsub a b < 4294967296 := op2_lo _ fun _ h => (sub_num h).2
theorem fmul_lo (a b : Int) : 0 ≤ fmul a b ∧ fmul a b < 4294967296 := op2_lo _ fun _ h => (mul_num h).2
theorem fdiv_lo (a b : Int) : 0 ≤ fdiv a b ∧ fdiv a b < 4294967296 := op2_lo _ fun _ h => (div_num h).2
theorem fsqrt_lo (a : Int) : 0 ≤ fsqrt a ∧ fsqrt a < 4294967296 := op2_lo _ fun _ h => (sqrt_num h).2

end Go.Proofs.Ytnogokikiekcbab
