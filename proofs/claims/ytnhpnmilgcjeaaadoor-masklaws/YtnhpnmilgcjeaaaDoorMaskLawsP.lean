import Derived.Test.YtnhpnmilgcjeaaaDoorMaskSets
/- M3, plainly: not, and, or over masks without a fault. -/
namespace Go.Proofs.YtnhpnmilgcjeaaaDoor
set_option linter.unusedVariables false
set_option linter.unusedSimpArgs false

/-- A node with its Key emptied. -/
def clr (t : Nd) : Nd := ⟨t.kind, t.name, t.num, t.int_, ⟨#[]⟩, t.args, t.at_⟩
theorem clr_dep (t : Nd) : dep (clr t) = dep t := rfl
theorem clr_cnt (t : Nd) : cnt (clr t) = cnt t := rfl
theorem clr_fault (ps : List Par) (t : Nd) : faultM ps (clr t) = faultM ps t := rfl
theorem clr_in (p : Par) (t : Nd) : inM p (clr t) = inM p t := rfl
theorem clr_ok {t : Nd} (h : ok1 t) : ok1 (clr t) := ⟨⟨h.1.1, (show (0 : Nat) ≤ 140737488351232 by decide), h.1.2.2.1, h.1.2.2.2⟩, h.2⟩
/-- A mask of masks. -/
def callN (nm : ByteArray) (l : List Nd) : Nd := ⟨1, nm, 0, 0, ⟨#[]⟩, l.map clr, 0⟩
def bNot : ByteArray := ⟨#[110, 111, 116]⟩
def bAnd : ByteArray := ⟨#[97, 110, 100]⟩
def bOr : ByteArray := ⟨#[111, 114]⟩
theorem dep_one (nm : ByteArray) (a : Nd) : dep (callN nm [a]) = dep a + 1 := by
  show depL [clr a] + 1 = _
  rw [depL_cons, depL_nil, clr_dep]
  omega
theorem dep_two (nm : ByteArray) (a b : Nd) : dep (callN nm [a, b]) = max (dep a) (dep b) + 1 := by
  show depL [clr a, clr b] + 1 = _
  rw [depL_cons, depL_cons, depL_nil, clr_dep, clr_dep]
  omega
theorem cnt_one (nm : ByteArray) (a : Nd) : cnt (callN nm [a]) = 1 + cnt a := by
  show 1 + cntL [clr a] = _
  rw [cntL_cons, cntL_nil, clr_cnt]
  omega
theorem cnt_two (nm : ByteArray) (a b : Nd) : cnt (callN nm [a, b]) = 1 + cnt a + cnt b := by
  show 1 + cntL [clr a, clr b] = _
  rw [cntL_cons, cntL_cons, cntL_nil, clr_cnt, clr_cnt]
  omega
theorem ok_one {nm : ByteArray} (hn : nm.size ≤ 140737488351232) {a : Nd} (h : ok1 a) : ok1 (callN nm [a]) := ⟨⟨hn, (show (0 : Nat) ≤ 140737488351232 by decide), (show (0 : Int) ≤ 0 by decide), (show (0 : Int) < 4294967296 by decide)⟩, (okL_cons _ _).2 ⟨clr_ok h, okL_nil⟩⟩
theorem ok_two {nm : ByteArray} (hn : nm.size ≤ 140737488351232) {a b : Nd} (h : ok1 a) (k : ok1 b) : ok1 (callN nm [a, b]) := ⟨⟨hn, (show (0 : Nat) ≤ 140737488351232 by decide), (show (0 : Int) ≤ 0 by decide), (show (0 : Int) < 4294967296 by decide)⟩, (okL_cons _ _).2 ⟨clr_ok h, (okL_cons _ _).2 ⟨clr_ok k, okL_nil⟩⟩⟩
theorem fault_callN {ps : List Par} {nm : ByteArray} {l : List Nd} (hn : okName nm l.length = true) (h : ∀ a ∈ l, (faultM ps a).1 = 0) : (faultM ps (callN nm l)).1 = 0 := by
  have e : faultL ps (l.map clr) = (0, 0) := faultL_ok fun i hi => by
    simp only [List.getElem_map]
    exact ⟨rfl, by rw [clr_fault]; exact h _ (List.getElem_mem _)⟩
  show (faultOne ps 1 nm (l.map clr).length 0 (faultL ps (l.map clr))).1 = 0
  rw [e]
  unfold faultOne
  rw [List.length_map, hn]
  rfl
theorem in_not (p : Par) (a : Nd) : inM p (callN bNot [a]) = !inM p a := by
  show inOne 1 bNot p (inL p [clr a]) = _
  rw [inL_cons, inL_nil, clr_in]
  rfl
theorem in_and (p : Par) (a b : Nd) : inM p (callN bAnd [a, b]) = (inM p a && inM p b) := by
  show inOne 1 bAnd p (inL p [clr a, clr b]) = _
  rw [inL_cons, inL_cons, inL_nil, clr_in, clr_in]
  show (inM p a && (inM p b && true)) = _
  rw [Bool.and_true]
theorem in_or (p : Par) (a b : Nd) : inM p (callN bOr [a, b]) = (inM p a || inM p b) := by
  show inOne 1 bOr p (inL p [clr a, clr b]) = _
  rw [inL_cons, inL_cons, inL_nil, clr_in, clr_in]
  show (inM p a || (inM p b || false)) = _
  rw [Bool.or_false]

theorem indU_congr {ps : List Par} {t u : Nd} (h : ∀ p, inM p t = inM p u) (j : Nat) : indU ps t j = indU ps u j := by
  unfold indU
  congr 1
  funext i
  cases ps[i]? with
  | none => rfl
  | some p => exact h p
theorem len_and_or (ps : List Par) (a b : Nd) : ∀ j, j ≤ ps.length → (indU ps (callN bAnd [a, b]) j).length + (indU ps (callN bOr [a, b]) j).length = (indU ps a j).length + (indU ps b j).length
  | 0, _ => rfl
  | j + 1, h => by
    have ih := len_and_or ps a b j (by omega)
    have hj : j < ps.length := h
    have e1 := in_and ps[j] a b
    have e2 := in_or ps[j] a b
    cases ha : inM ps[j] a <;> cases hb : inM ps[j] b <;> rw [ha, hb] at e1 e2
    · rw [indU_no hj e1, indU_no hj e2, indU_no hj ha, indU_no hj hb]; exact ih
    · rw [indU_no hj e1, indU_yes hj e2, indU_no hj ha, indU_yes hj hb]; simp; omega
    · rw [indU_no hj e1, indU_yes hj e2, indU_yes hj ha, indU_no hj hb]; simp; omega
    · rw [indU_yes hj e1, indU_yes hj e2, indU_yes hj ha, indU_yes hj hb]; simp; omega
theorem len_not (ps : List Par) (a : Nd) : ∀ j, j ≤ ps.length → (indU ps a j).length + (indU ps (callN bNot [a]) j).length = j
  | 0, _ => rfl
  | j + 1, h => by
    have ih := len_not ps a j (by omega)
    have hj : j < ps.length := h
    have e1 := in_not ps[j] a
    cases ha : inM ps[j] a <;> rw [ha] at e1
    · rw [indU_no hj ha, indU_yes hj e1]; simp; omega
    · rw [indU_yes hj ha, indU_no hj e1]; simp; omega
/-- How often a place stands in a list, up to k. -/
def tally (l : List Nat) (i k : Nat) : Nat := (l.take k).count i
theorem tally_0 (l : List Nat) (i : Nat) : tally l i 0 = 0 := by simp [tally]
theorem tally_yes {l : List Nat} {i k : Nat} (h : k < l.length) (e : l[k] = i) : tally l i (k + 1) = tally l i k + 1 := by
  unfold tally
  rw [gtake_succ h, List.count_append, e]
  simp
theorem tally_no {l : List Nat} {i k : Nat} (h : k < l.length) (e : l[k] ≠ i) : tally l i (k + 1) = tally l i k := by
  unfold tally
  rw [gtake_succ h, List.count_append]
  simp [e]
theorem tally_all (l : List Nat) (i : Nat) : tally l i l.length = l.count i := by unfold tally; rw [List.take_length]
theorem tally_le (l : List Nat) (i k : Nat) : tally l i k ≤ l.length := Nat.le_trans List.count_le_length (by rw [List.length_take]; omega)
theorem count_ind (ps : List Par) (t : Nd) (i : Nat) : ∀ j, j ≤ ps.length → (indU ps t j).count i = if h : i < j ∧ i < ps.length then (if inM (ps[i]'h.2) t then 1 else 0) else 0
  | 0, _ => by simp [indU]
  | j + 1, h => by
    have ih := count_ind ps t i j (by omega)
    have hj : j < ps.length := h
    by_cases e : i = j
    · subst e
      have ih0 : (indU ps t i).count i = 0 := by rw [ih, dif_neg (by omega)]
      rw [dif_pos ⟨by omega, hj⟩]
      cases hi : inM ps[i] t
      · rw [indU_no hj hi, ih0]; rfl
      · rw [indU_yes hj hi, List.count_append, ih0]; simp
    · have e2 : (indU ps t (j + 1)).count i = (indU ps t j).count i := by
        cases hi : inM ps[j] t
        · rw [indU_no hj hi]
        · rw [indU_yes hj hi, List.count_append]
          simp [Ne.symm e]
      rw [e2, ih]
      by_cases hi : i < j
      · rw [dif_pos ⟨hi, by omega⟩, dif_pos ⟨by omega, by omega⟩]
      · rw [dif_neg (by omega), dif_neg (by omega)]
theorem count_split (ps : List Par) (a : Nd) {i : Nat} (h : i < ps.length) : (indP ps a).count i + (indP ps (callN bNot [a])).count i = 1 := by
  rw [indU_all, indU_all, count_ind ps a i _ (Nat.le_refl _), count_ind ps _ i _ (Nat.le_refl _), dif_pos ⟨h, h⟩, dif_pos ⟨h, h⟩, in_not]
  cases inM ps[i] a <;> rfl

end Go.Proofs.YtnhpnmilgcjeaaaDoor
