import Derived.Test.YtjbcafkpcgehdaaRawOps
import Derived.Test.YtjbcafkpcgehdaaRefAdd3
/- A product turned round, conjugated; a square as a product. -/
namespace Go.Proofs.Ytjbcafkpcgehdaa
open Go.RowKit
set_option linter.unusedVariables false

def alk (a b : Int) : Prop := a = b ∨ (a % 2147483648 = 0 ∧ b % 2147483648 = 0)

theorem fneg_fneg (x : Int) (h0 : 0 ≤ x) (h1 : x < 4294967296) : fneg (fneg x) = canon x := by
  cases hn : nan x
  · rw [fneg_num x h0 h1 hn]
    have hr := rg_flip x.toNat (by omega)
    have hlt : flip x.toNat < 4294967296 := by unfold flip; split <;> omega
    have : nan ((flip x.toNat : Nat) : Int) = false := by
      rw [nan_nat, hr, ← nan_rg x h0]; exact hn
    rw [fneg_num _ (by omega) (by omega) this, Int.toNat_natCast]
    have e : canon x = x := by unfold canon; rw [hn]; rfl
    rw [e]
    unfold flip; by_cases c : 2147483648 ≤ x.toNat
    · rw [if_pos c, if_neg (by omega)]; omega
    · rw [if_neg c, if_pos (by omega)]; omega
  · rw [fneg_nan x h0 h1 hn]
    have e : canon x = 2143289344 := by unfold canon; rw [hn]; rfl
    rw [e]; decide

theorem op2_canon {o : Option Nat} (h : ∀ r, o = some r → rg r ≤ 2139095040) : canon (op2 o) = op2 o := by
  cases o with
  | none => decide
  | some r => exact canon_num (h r rfl)
theorem fadd_canon (a b : Int) : canon (fadd a b) = fadd a b := op2_canon fun _ h => (add_num h).1
theorem fsub_canon (a b : Int) : canon (fsub a b) = fsub a b := op2_canon fun _ h => (sub_num h).1
theorem fmul_canon (a b : Int) : canon (fmul a b) = fmul a b := op2_canon fun _ h => (mul_num h).1

theorem write_zero (s : Bool) (i : Int) : Ieee.single.write (.number s 0 i) % 2147483648 = 0 := by
  show Ieee.single.nearest s 0 i % 2147483648 = 0
  rw [nearest_eq, word_wd]
  have : ∀ p e, rungOf p e 0 i = 0 := fun p e => by simp [rungOf]
  rw [this]; cases s <;> rfl

theorem signed_opp (s : Bool) (m k : Nat) : Ieee.signed (!s) m k = - Ieee.signed s m k := by
  unfold Ieee.signed; cases s <;> simp

theorem sum_opp2 (d e : Ieee.Datum) : (d.sum e = none ∧ d.opposite.sum e.opposite = none) ∨
    ∃ f g, d.sum e = some f ∧ d.opposite.sum e.opposite = some g ∧ (g = f.opposite ∨ ∃ s t i, f = .number s 0 i ∧ g = .number t 0 i) := by
  cases d with
  | nan s t => exact .inl ⟨nan_sum _ _ _, nan_sum _ _ _⟩
  | infinity s =>
    cases e with
    | nan t u => exact .inl ⟨rfl, rfl⟩
    | infinity t =>
      by_cases h : s = t
      · exact .inr ⟨.infinity s, .infinity (!s), by simp [Ieee.Datum.sum, h], by simp [Ieee.Datum.sum, Ieee.Datum.opposite, h], .inl rfl⟩
      · refine .inl ⟨by simp [Ieee.Datum.sum, h], ?_⟩
        simp [Ieee.Datum.sum, Ieee.Datum.opposite]; exact h
    | number t n j => exact .inr ⟨.infinity s, .infinity (!s), rfl, rfl, .inl rfl⟩
  | number s m i =>
    cases e with
    | nan t u => exact .inl ⟨rfl, rfl⟩
    | infinity t => exact .inr ⟨.infinity t, .infinity (!t), rfl, rfl, .inl rfl⟩
    | number t n j =>
      refine .inr ⟨_, _, rfl, rfl, ?_⟩
      simp only [signed_opp]
      generalize Ieee.signed s m (i - min i j).toNat = p
      generalize Ieee.signed t n (j - min i j).toNat = q
      by_cases h : p + q = 0
      · have h' : -p + -q = 0 := by omega
        refine .inr ⟨s && t, (!s) && (!t), min i j, ?_, ?_⟩
        · rw [h]; rfl
        · rw [h']; rfl
      · have h' : ¬ (-p + -q = 0) := by omega
        refine .inl ?_
        show Ieee.Datum.number _ _ _ = Ieee.Datum.number _ _ _
        rw [if_neg h, if_neg h', show (-p + -q).natAbs = (p + q).natAbs by omega]
        congr 1
        by_cases c : p + q < 0
        · rw [decide_eq_true c, decide_eq_false (by omega)]; rfl
        · rw [decide_eq_false c, decide_eq_true (by omega)]; rfl

theorem fadd_neg2 (x y : Int) (x0 : 0 ≤ x) (x1 : x < 4294967296) (y0 : 0 ≤ y) (y1 : y < 4294967296) : alk (fneg (fadd x y)) (fadd (fneg x) (fneg y)) := by
  cases hx : nan x
  · cases hy : nan y
    · rw [fneg_num x x0 x1 hx, fneg_num y y0 y1 hy]
      unfold fadd Ieee.Format.add
      rw [Int.toNat_natCast, Int.toNat_natCast, read_flip _ (by omega), read_flip _ (by omega)]
      rcases sum_opp2 (Ieee.single.read x.toNat) (Ieee.single.read y.toNat) with ⟨e1, e2⟩ | ⟨f, g, e1, e2, h⟩
      · rw [e1, e2]; exact .inl (by decide)
      · have hf := sum_num e1
        rw [e1, e2]
        rcases h with rfl | ⟨s, t, i, rfl, rfl⟩
        · exact .inl (op2_opp (some f) (fun _ q => by cases q; exact hf)).symm
        · refine .inr ⟨?_, ?_⟩
          · have h1 := write_zero s i
            have h2 : Ieee.single.write (.number s 0 i) < 4294967296 := Ieee.single.write_lt _
            show fneg ((Ieee.single.write (.number s 0 i) : Nat) : Int) % 2147483648 = 0
            have hn : nan ((Ieee.single.write (.number s 0 i) : Nat) : Int) = false := by unfold nan; rw [decide_eq_false]; omega
            rw [fneg_num _ (by omega) (by omega) hn, Int.toNat_natCast]
            unfold flip; split <;> omega
          · have h1 := write_zero t i
            show ((Ieee.single.write (.number t 0 i) : Nat) : Int) % 2147483648 = 0
            omega
    · left
      have e : canon y = 2143289344 := by unfold canon; rw [hy]; rfl
      have k : ∀ z, fadd z 2143289344 = 2143289344 := fun z => by
        obtain ⟨s, t, h⟩ := nan_one
        rw [fadd_comm]; unfold fadd Ieee.Format.add; rw [h, nan_sum]; rfl
      rw [fneg_nan y y0 y1 hy, k, ← fadd_canr x y y0, e, k]; decide
  · left
    have e : canon x = 2143289344 := by unfold canon; rw [hx]; rfl
    have k : ∀ z, fadd 2143289344 z = 2143289344 := fun z => by
      obtain ⟨s, t, h⟩ := nan_one
      unfold fadd Ieee.Format.add; rw [h, nan_sum]; rfl
    rw [fneg_nan x x0 x1 hx, k, ← fadd_canl x y x0, e, k]; decide

theorem fmul_negr (a b : Int) (h0 : 0 ≤ b) (h1 : b < 4294967296) : fmul a (fneg b) = fneg (fmul a b) := by rw [fmul_comm, fmul_neg b a h0 h1, fmul_comm]

theorem conj_re (a b c d : Int) (a0 : 0 ≤ a) (b0 : 0 ≤ b) (b1 : b < 4294967296) (c0 : 0 ≤ c) (d0 : 0 ≤ d) (d1 : d < 4294967296) :
    fsub (fmul (canon a) (canon c)) (fmul (fneg b) (fneg d)) = canon (fsub (fmul a c) (fmul b d)) := by
  rw [fmul_canl _ _ a0, fmul_canr _ _ c0, fmul_neg b _ b0 b1, fmul_negr b d d0 d1, fneg_fneg _ (fmul_lo _ _).1 (fmul_lo _ _).2, fsub_canr _ _ (fmul_lo _ _).1, fsub_canon]
theorem conj_im (a b c d : Int) (a0 : 0 ≤ a) (b0 : 0 ≤ b) (b1 : b < 4294967296) (c0 : 0 ≤ c) (d0 : 0 ≤ d) (d1 : d < 4294967296) :
    alk (fneg (fadd (fmul a d) (fmul b c))) (fadd (fmul (canon a) (fneg d)) (fmul (fneg b) (canon c))) := by
  rw [fmul_canl _ _ a0, fmul_canr _ _ c0, fmul_neg b _ b0 b1, fmul_negr a d d0 d1]
  exact fadd_neg2 _ _ (fmul_lo _ _).1 (fmul_lo _ _).2 (fmul_lo _ _).1 (fmul_lo _ _).2
theorem square_re (a b : Int) (a0 : 0 ≤ a) (b0 : 0 ≤ b) (b1 : b < 4294967296) : fsub (fmul a (canon a)) (fmul b (fneg b)) = fadd (fmul a a) (fmul b b) := by
  have l := fmul_lo b b
  rw [fmul_canr _ _ a0, fmul_negr b b b0 b1, fsub_eq _ _ (fneg_lo _ l.1 l.2).1 (fneg_lo _ l.1 l.2).2, fneg_fneg _ l.1 l.2, fadd_canr _ _ l.1]

end Go.Proofs.Ytjbcafkpcgehdaa
