import Derived.Test.YtnogokikiekcbabSchAt
import Derived.Test.YtnogokikiekcbabSchWaveP
import Derived.Test.YtnogokikiekcbabSchRowK
/- A piecewise schedule whose factors are 1. -/
namespace Go.Proofs.Ytnogokikiekcbab
open Go.RowKit
set_option linter.unusedVariables false
set_option linter.unusedSimpArgs false

theorem nbeqO {a b : Int} (h : a ≠ b) : (a == b) = false := by simpa using h
theorem valueP_okO {t : Sc} {n : Int} (h : (valueP t n).2 = 0) : isCnt n = true ∧ okS t = true ∧ (valueP t n).1 = valT t n := by
  unfold valueP at h ⊢
  split at h
  · rename_i hc
    rw [if_pos hc]
    exact ⟨hc.1, hc.2, rfl⟩
  · cases h
theorem valueP_01O (t : Sc) (n : Int) : (valueP t n).2 = 0 ∨ (valueP t n).2 = 1 := by
  unfold valueP
  split
  · exact .inl rfl
  · exact .inr rfl
theorem fmul_one {d : Int} (hd : Fn d) : fmul d 1065353216 = d := by
  have f1 : Fn 1065353216 := fn_small (by decide) (by decide)
  have s1 : ng (1065353216 : Int).toNat = false := by decide +kernel
  have m1 : mv (1065353216 : Int).toNat = 2 ^ 149 := by decide +kernel
  obtain ⟨r, e, n1⟩ := fmul_wd hd f1
  have hD : 0 < 2 ^ 149 := Nat.two_pow_pos 149
  have n2 := near_exact 23 (rg d.toNat) (2 ^ 149) hD
  rw [m1] at n1
  have hr := n1.unique n2 hD hD rfl
  rw [s1, hr, Bool.xor_false] at e
  have hrg := hd.rg
  refine pat_ext (fmul_lo _ _).1 (fmul_lo _ _).2 hd.1.1 hd.1.2 ?_ ?_
  · rw [e, rg_wd]; omega
  · rw [e, ng_wd]
/-- The numbers, those from the second on up to a place being 1. -/
def onesL (l : List Int) (j : Nat) : List Int := (List.range l.length).map fun i => if 1 ≤ i ∧ i < j then 1065353216 else l.getD i 0
theorem onesL_len (l : List Int) (j : Nat) : (onesL l j).length = l.length := by simp [onesL]
theorem onesL_at (l : List Int) (j i : Nat) (h : i < (onesL l j).length) : (onesL l j)[i] = if 1 ≤ i ∧ i < j then 1065353216 else l.getD i 0 := by simp [onesL]
theorem onesL_one (l : List Int) : onesL l 1 = l := by
  apply List.ext_getElem
  · exact onesL_len l 1
  · intro i h1 h2
    rw [onesL_at, if_neg (by omega)]
    simp [h2]
theorem onesL_mem {l : List Int} {j : Nat} {x : Int} (h : x ∈ onesL l j) : x = 1065353216 ∨ x ∈ l := by
  obtain ⟨i, hi, rfl⟩ := List.mem_map.1 h
  split
  · exact .inl rfl
  · right
    have := List.mem_range.1 hi
    simp [this]
theorem onesL_cons (a : Int) (ss : List Int) : onesL (a :: ss) (a :: ss).length = a :: List.replicate ss.length 1065353216 := by
  apply List.ext_getElem
  · rw [onesL_len]; simp
  · intro i h1 h2
    rw [onesL_at]
    rw [onesL_len] at h1
    cases i with
    | zero => simp
    | succ i => rw [if_pos ⟨by omega, h1⟩]; simp
theorem piece_ones (n : Int) {a : Int} (ha : Fn a) : ∀ (is : List Int) (k : Nat), pieceV n a is (List.replicate k 1065353216) = a
  | [], k => by cases k <;> simp [pieceV]
  | b :: is, 0 => by simp [pieceV]
  | b :: is, k + 1 => by
    simp only [List.replicate_succ, pieceV]
    split
    · rw [fmul_one ha]; exact piece_ones n ha is k
    · rfl
/-- What is put into one cell of a row of one's own. -/
theorem OwnB.put {w : World} {g : Nat} {e : TypeId} {v : Value} {l : List Int} {j : Nat} (h : OwnB w g e .u32 v (onesL l j)) (hj : j < l.length) (h1 : 1 ≤ j) : OwnB (w.setCell ⟨g, j, none⟩ (.int .u32 1065353216)) g e .u32 v (onesL l (j + 1)) := by
  rcases h with ⟨h, -⟩ | ⟨hl, cap, cur, hv, hg, hs, hc⟩
  · have := onesL_len l j
    rw [h] at this
    simp at this
    omega
  · refine .inr ⟨fun h => ?_, cap, cur.setIfInBounds j (.int .u32 1065353216), ?_, ?_, ?_, fun i hi => ?_⟩
    · have := onesL_len l (j + 1)
      rw [h] at this
      simp at this
      omega
    · rw [hv, onesL_len, onesL_len]
    · simp [World.setCell, Array.getElem?_modify, hg]
    · rw [onesL_len] at hs ⊢; simpa using hs
    · rw [onesL_len] at hi hs
      rw [onesL_at]
      by_cases hij : i = j
      · subst hij
        rw [if_pos ⟨h1, by omega⟩, Array.getElem?_setIfInBounds_self_of_lt (by omega)]
      · rw [Array.getElem?_setIfInBounds_ne (by omega), hc i (by rw [onesL_len]; exact hi), onesL_at]
        congr 2
        by_cases h2 : 1 ≤ i ∧ i < j
        · rw [if_pos h2, if_pos ⟨h2.1, by omega⟩]
        · rw [if_neg h2, if_neg (by omega)]
theorem OwnB.form2 {w : World} {g : Nat} {e : TypeId} {k : IntKind} {v : Value} {l : List Int} (h : OwnB w g e k v l) : ∃ p c, v = .slice p l.length c ∧ (l ≠ [] → p = some ⟨g, 0, none⟩) := by
  rcases h with ⟨rfl, rfl⟩ | ⟨hl, cap, cur, rfl, _⟩
  · exact ⟨none, 0, rfl, fun h => absurd rfl h⟩
  · exact ⟨_, _, rfl, fun _ => rfl⟩
/-- The schedule with ones. -/
def onesT (t : Sc) : Sc := ⟨t.op, onesL t.nums t.nums.length, t.ints, t.kids⟩
theorem ones_fit {t : Sc} {n : Int} (h5 : t.op = 5) (hn : isCnt n = true) (h : okS t = true) (hp : sok t) :
    ∃ a, (∃ ss, t.nums = a :: ss) ∧ t.ints ≠ [] ∧ valueP (onesT t) n = (a, 0) ∧ ∀ b r, t.ints = b :: r → n < b → valT t n = a := by
  obtain ⟨op, ns, is, ks⟩ := t
  simp only at h5
  subst h5
  have hall := okS_all h
  obtain ⟨a, ss, rfl, hl, rfl, hr, hne⟩ := inv_5 hall.1
  have hfa : (hasN ⟨5, a :: ss, is, []⟩ (is.length + 1) is.length 0 && bnds is) = true := hall.1
  have hfin : ffin a = true := by
    simp only [Bool.and_eq_true] at hfa
    have := hfa.1
    unfold hasN at this
    simp only [Bool.and_eq_true, List.all_cons] at this
    exact this.2.1
  have hpa : Fn a := ⟨hp.1.2.1 a (by simp), hfin⟩
  have ht : onesT ⟨5, a :: ss, is, []⟩ = ⟨5, a :: List.replicate ss.length 1065353216, is, []⟩ := by
    unfold onesT
    simp only
    rw [onesL_cons]
  have hfit : fitsP ⟨5, a :: List.replicate ss.length 1065353216, is, []⟩ = true := by
    show (hasN ⟨5, a :: List.replicate ss.length 1065353216, is, []⟩ (is.length + 1) is.length 0 && bnds is) = true
    simp only [Bool.and_eq_true] at hfa ⊢
    refine ⟨?_, hfa.2⟩
    unfold hasN
    simp only [Bool.and_eq_true, List.all_cons, List.length_cons, List.length_replicate, List.length_nil, beq_iff_eq]
    refine ⟨⟨⟨by omega, trivial⟩, trivial⟩, hfin, ?_⟩
    rw [List.all_eq_true]
    intro x hx
    rw [(List.mem_replicate.1 hx).2]
    decide
  have hok : okS ⟨5, a :: List.replicate ss.length 1065353216, is, []⟩ = true := by
    unfold okS
    rw [may_go 64 4096 _ (by decide) (by decide) hfit]
    show (mayL 63 4095 []).isSome = true
    rw [mayL_nil]; rfl
  refine ⟨a, ⟨ss, rfl⟩, hne, ?_, ?_⟩
  · rw [ht]
    unfold valueP
    rw [if_pos ⟨hn, hok⟩]
    show (pieceV n a is (List.replicate ss.length 1065353216), (0 : Int)) = _
    rw [piece_ones n hpa]
  · intro b r e hb
    show pieceV n a is ss = a
    simp only at e
    subst e
    cases ss with
    | nil => rfl
    | cons s ss => simp only [pieceV]; rw [if_neg (by omega)]
theorem ones_sok {t : Sc} (h : sok t) : sok (onesT t) := by
  refine ⟨⟨h.1.1, fun x hx => ?_, h.1.2.2.1, by show (onesL _ _).length ≤ _; rw [onesL_len]; exact h.1.2.2.2.1, h.1.2.2.2.2.1, h.1.2.2.2.2.2⟩, h.2⟩
  rcases onesL_mem hx with rfl | hx
  · decide
  · exact h.1.2.1 x hx

end Go.Proofs.Ytnogokikiekcbab
