import Derived.Test.YtnogokikiekcbabFloatWalks
import Derived.Test.YtnogokikiekcbabFloatOrd
import Derived.Deep.Draws
import Derived.Laws.ComplexArith
/- Sums, differences and products of numbers of Go's own, whose NaNs are not yet told as the one: which pattern, how many draws; the same of complex numbers. -/
namespace Go.Proofs.Ytnogokikiekcbab
open Go.RowKit
set_option linter.unusedVariables false

/-- The pattern behind an operation: its own outcome, or the NaN that the tape says. -/
def raw (o : Option Nat) (w : World) (x y : Nat) : Nat := match o with
  | some r => r
  | none => (Question.nanBits .f32 x y).cut (w.tape w.drawn (.nanBits .f32 x y))
def dn (o : Option Nat) : Nat := match o with
  | some _ => 0
  | none => 1
def radd (w : World) (x y : Nat) : Nat := raw (Ieee.single.add x y) w x y
def rsub (w : World) (x y : Nat) : Nat := raw (Ieee.single.sub x y) w x y
def rmul (w : World) (x y : Nat) : Nat := raw (Ieee.single.mul x y) w x y
def nadd (x y : Nat) : Nat := dn (Ieee.single.add x y)
def nsub (x y : Nat) : Nat := dn (Ieee.single.sub x y)
def nmul (x y : Nat) : Nat := dn (Ieee.single.mul x y)

theorem raw_lt (o : Option Nat) (w : World) (x y : Nat) (h : ∀ r, o = some r → r < 4294967296) : raw o w x y < 4294967296 := by
  cases o with
  | none => exact (cut_nan x y _).2
  | some r => exact h r rfl
theorem raw_canon (o : Option Nat) (w : World) (x y : Nat) (h : ∀ r, o = some r → rg r ≤ 2139095040) : canon (raw o w x y) = op2 o := by
  cases o with
  | none => exact canon_not (cut_nan x y _).1
  | some r => exact canon_num (h r rfl)
theorem radd_lt (w : World) (x y : Nat) : radd w x y < 4294967296 := raw_lt _ _ _ _ fun _ h => (add_num h).2
theorem rsub_lt (w : World) (x y : Nat) : rsub w x y < 4294967296 := raw_lt _ _ _ _ fun _ h => (sub_num h).2
theorem rmul_lt (w : World) (x y : Nat) : rmul w x y < 4294967296 := raw_lt _ _ _ _ fun _ h => (mul_num h).2
theorem radd_canon (w : World) (x y : Nat) : canon (radd w x y) = fadd x y := raw_canon _ _ _ _ fun _ h => (add_num h).1
theorem rsub_canon (w : World) (x y : Nat) : canon (rsub w x y) = fsub x y := raw_canon _ _ _ _ fun _ h => (sub_num h).1
theorem rmul_canon (w : World) (x y : Nat) : canon (rmul w x y) = fmul x y := raw_canon _ _ _ _ fun _ h => (mul_num h).1

section
variable {P : Program} (w : World)
theorem run_fa (op : BinOp) (o : Option Nat) (x y : Nat) (hop : op = .add ∨ op = .sub ∨ op = .mul) (h : floatBits op .f32 x y = o) :
    (Op.floatArith op .f32 x y).run P w = .ok (.float .f32 (raw o w x y)) (w.drewN (dn o)) := by
  cases o with
  | some r => rcases hop with rfl | rfl | rfl <;> simp only [floatBits] at h <;> simp [Op.floatArith, h, raw, dn, World.drewN_zero]
  | none => rcases hop with rfl | rfl | rfl <;> simp only [floatBits] at h <;> simp [Op.floatArith, h, choose, Sem.run, Question.forced, raw, dn] <;> rfl
theorem run_oadd (x y : Nat) : (Op.floatArith .add .f32 x y).run P w = .ok (.float .f32 (radd w x y)) (w.drewN (nadd x y)) := run_fa (P := P) w .add _ x y (by simp) rfl
theorem run_fadd (t : TypeId) (x y : Nat) : (binOp .add t (.float .f32 x) (.float .f32 y)).run P w = .ok (.float .f32 (radd w x y)) (w.drewN (nadd x y)) := by
  simp [binOp, run_oadd]
theorem run_osub (x y : Nat) : (Op.floatArith .sub .f32 x y).run P w = .ok (.float .f32 (rsub w x y)) (w.drewN (nsub x y)) := run_fa (P := P) w .sub _ x y (by simp) rfl
theorem run_fsub (t : TypeId) (x y : Nat) : (binOp .sub t (.float .f32 x) (.float .f32 y)).run P w = .ok (.float .f32 (rsub w x y)) (w.drewN (nsub x y)) := by
  simp [binOp, run_osub]
theorem run_omul (x y : Nat) : (Op.floatArith .mul .f32 x y).run P w = .ok (.float .f32 (rmul w x y)) (w.drewN (nmul x y)) := run_fa (P := P) w .mul _ x y (by simp) rfl
theorem run_fmul (t : TypeId) (x y : Nat) : (binOp .mul t (.float .f32 x) (.float .f32 y)).run P w = .ok (.float .f32 (rmul w x y)) (w.drewN (nmul x y)) := by
  simp [binOp, run_omul]
theorem run_cadd (t : TypeId) (a b c d : Nat) : (binOp .add t (.complex .f32 a b) (.complex .f32 c d)).run P w =
    .ok (.complex .f32 (radd w a c) (radd (w.drewN (nadd a c)) b d)) (w.drewN (nadd a c + nadd b d)) := by
  simp [binOp, Op.complexOp, Op.Complex.arith, run_oadd]
theorem run_csub (t : TypeId) (a b c d : Nat) : (binOp .sub t (.complex .f32 a b) (.complex .f32 c d)).run P w =
    .ok (.complex .f32 (rsub w a c) (rsub (w.drewN (nsub a c)) b d)) (w.drewN (nsub a c + nsub b d)) := by
  simp [binOp, Op.complexOp, Op.Complex.arith, run_osub]
end

section
variable (w : World) (n : Nat)
@[go_sem] theorem alloc_drewN (o : Obj) : (w.drewN n).alloc o = (w.alloc o).drewN n := rfl
@[go_sem] theorem setCell_drewN (a : Addr) (v : Value) : (w.drewN n).setCell a v = (w.setCell a v).drewN n := rfl
theorem below_dn {B : Nat} {a : World} (h : Below B a w) : Below B a (w.drewN n) := h.trans ⟨rfl, rfl, rfl, Nat.le_refl _, fun _ _ => rfl⟩
end

/-- A NaN of whatever pattern does what the one does. -/
theorem nan_cases (a : Int) (h0 : 0 ≤ a) : (nan a = true ∧ canon a = 2143289344 ∧ (∃ s t, Ieee.single.read a.toNat = .nan s t)) ∨ (nan a = false ∧ canon a = a) := by
  cases h : nan a
  · exact .inr ⟨rfl, by unfold canon; rw [h]; rfl⟩
  · refine .inl ⟨rfl, by unfold canon; rw [h]; rfl, _, _, read_nan a.toNat ?_⟩
    rw [nan_rg a h0] at h; simpa using h
theorem nan_one : ∃ s t, Ieee.single.read (2143289344 : Int).toNat = .nan s t := ⟨_, _, read_nan 2143289344 (by decide)⟩
theorem nan_sum (s : Bool) (t : Nat) (e : Ieee.Datum) : (Ieee.Datum.nan s t).sum e = none := by cases e <;> rfl
theorem nan_prod (s : Bool) (t : Nat) (e : Ieee.Datum) : (Ieee.Datum.nan s t).product e = none := by cases e <;> rfl
theorem fadd_canl (a b : Int) (h0 : 0 ≤ a) : fadd (canon a) b = fadd a b := by
  rcases nan_cases a h0 with ⟨-, e, s, t, h⟩ | ⟨-, e⟩ <;> rw [e]
  obtain ⟨s', t', h'⟩ := nan_one
  unfold fadd Ieee.Format.add; rw [h, h', nan_sum, nan_sum]
theorem fadd_canr (a b : Int) (h0 : 0 ≤ b) : fadd a (canon b) = fadd a b := by rw [fadd_comm, fadd_canl b a h0, fadd_comm]
theorem fsub_canl (a b : Int) (h0 : 0 ≤ a) : fsub (canon a) b = fsub a b := by
  rcases nan_cases a h0 with ⟨-, e, s, t, h⟩ | ⟨-, e⟩ <;> rw [e]
  obtain ⟨s', t', h'⟩ := nan_one
  unfold fsub Ieee.Format.sub; rw [h, h', nan_sum, nan_sum]
theorem fsub_canr (a b : Int) (h0 : 0 ≤ b) : fsub a (canon b) = fsub a b := by
  rcases nan_cases b h0 with ⟨-, e, s, t, h⟩ | ⟨-, e⟩ <;> rw [e]
  obtain ⟨s', t', h'⟩ := nan_one
  unfold fsub Ieee.Format.sub; rw [h, h', sum_comm, sum_comm (Ieee.single.read a.toNat)]
  show op2 (((Ieee.Datum.nan (!s') t').sum _).map _) = op2 (((Ieee.Datum.nan (!s) t).sum _).map _)
  rw [nan_sum, nan_sum]
theorem fmul_canl (a b : Int) (h0 : 0 ≤ a) : fmul (canon a) b = fmul a b := by
  rcases nan_cases a h0 with ⟨-, e, s, t, h⟩ | ⟨-, e⟩ <;> rw [e]
  obtain ⟨s', t', h'⟩ := nan_one
  unfold fmul Ieee.Format.mul; rw [h, h', nan_prod, nan_prod]
theorem fmul_canr (a b : Int) (h0 : 0 ≤ b) : fmul a (canon b) = fmul a b := by rw [fmul_comm, fmul_canl b a h0, fmul_comm]

end Go.Proofs.Ytnogokikiekcbab
