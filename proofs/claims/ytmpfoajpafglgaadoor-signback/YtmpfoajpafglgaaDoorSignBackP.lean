import Derived.Test.YtmpfoajpafglgaaDoorSignLaws
/- SG5, plainly: what is printed is read as it was. -/
namespace Go.Proofs.YtmpfoajpafglgaaDoor
set_option linter.unusedVariables false
set_option linter.unusedSimpArgs false

theorem lines_cat : ∀ (x cur r : Bs), (∀ b ∈ x, nb b ≠ 10) → linesA cur (x ++ 10 :: r) = (cur ++ x) :: linesA [] r
  | [], cur, r, _ => by
    rw [List.nil_append, linesA, if_pos (by decide), List.append_nil]
  | b :: x, cur, r, h => by
    rw [List.cons_append, linesA, if_neg (by simpa using h b (by simp)), lines_cat x (cur ++ [b]) r fun c hc => h c (by simp [hc])]
    simp
theorem in_fin : ∀ k : Fin 256, pIn (k.val : Int) = true → (k.val : Int) ≠ 32 ∧ (k.val : Int) ≠ 10 ∧ (k.val : Int) ≠ 35 := by
  intro k h
  unfold pIn at h
  simp at h
  omega
theorem in_ne {b : UInt8} (h : pIn (nb b) = true) : nb b ≠ 32 ∧ nb b ≠ 10 ∧ nb b ≠ 35 := in_fin ⟨b.toNat, b.toNat_lt⟩ h

theorem may_parts {p : Par} (h : mayP p = true) : (p.name.size ≠ 0 ∧ ∀ b ∈ bs p.name, pIn (nb b) = true) ∧ (p.kind = 1 ∨ p.kind = 2) ∧ 1 ≤ p.len ∧ p.len ≤ 4096 := by
  unfold mayP namedP at h
  simp only [Bool.and_eq_true, Bool.or_eq_true, bne_iff_ne, beq_iff_eq, decide_eq_true_eq, List.all_eq_true] at h
  exact ⟨⟨h.1.1.1.1, fun b hb => h.1.1.2 b hb⟩, h.1.2, h.2.1, h.2.2⟩
/-- A line without its end. -/
def lineC (p : Par) : Bs := bs p.name ++ kindB p.kind ++ digB p.len.toNat
theorem lineB_eq (p : Par) : lineB p = lineC p ++ [10] := rfl
theorem kindB_no10 (k : Int) : ∀ b ∈ kindB k, nb b ≠ 10 := by
  unfold kindB
  split <;> decide
theorem line_no10 {p : Par} (h : mayP p = true) : ∀ b ∈ lineC p, nb b ≠ 10 := by
  obtain ⟨⟨_, h1⟩, _, h2, h3⟩ := may_parts h
  intro b hb
  unfold lineC at hb
  rcases List.mem_append.1 hb with hb | hb
  · rcases List.mem_append.1 hb with hb | hb
    · exact (in_ne (h1 b hb)).2.1
    · exact kindB_no10 _ b hb
  · exact ((dig_len h2 h3).2 b hb).2
theorem line_some {p : Par} (h : mayP p = true) : lineP (lineC p) = some p := by
  have hm := h
  obtain ⟨⟨_, h1⟩, hk, h2, h3⟩ := may_parts h
  obtain ⟨d1, d2⟩ := dig_len h2 h3
  obtain ⟨A, K, L⟩ := p
  simp only at h1 hk h2 h3 d1 d2
  have hA : (⟨(bs A).toArray⟩ : ByteArray) = A := of_bs A
  rcases hk with rfl | rfl
  · have e : lineC ⟨A, 1, L⟩ = bs A ++ 32 :: (realB ++ 32 :: digB L.toNat) := by simp [lineC, kindB, realB]
    have hw : wordsA [] (lineC ⟨A, 1, L⟩) = [bs A, realB, digB L.toNat] := by
      rw [e, words_cat _ _ _ fun b hb => (in_ne (h1 b hb)).1, words_cat _ _ _ (by decide), words_end _ _ fun b hb => (d2 b hb).1]
      rfl
    rw [lineP_eq hw]
    unfold parL
    rw [if_pos (by decide), d1]
    simp only
    rw [show (if (realB == complexB) = true then (2 : Int) else 1) = 1 from rfl, hA, if_pos hm]
  · have e : lineC ⟨A, 2, L⟩ = bs A ++ 32 :: (complexB ++ 32 :: digB L.toNat) := by simp [lineC, kindB, complexB]
    have hw : wordsA [] (lineC ⟨A, 2, L⟩) = [bs A, complexB, digB L.toNat] := by
      rw [e, words_cat _ _ _ fun b hb => (in_ne (h1 b hb)).1, words_cat _ _ _ (by decide), words_end _ _ fun b hb => (d2 b hb).1]
      rfl
    rw [lineP_eq hw]
    unfold parL
    rw [if_pos (by decide), d1]
    simp only
    rw [show (if (complexB == complexB) = true then (2 : Int) else 1) = 2 from rfl, hA, if_pos hm]
theorem line_says {p : Par} (h : mayP p = true) : ((lineC p).isEmpty || hd (lineC p) == 35) = false := by
  obtain ⟨⟨h0, h1⟩, _⟩ := may_parts h
  cases hb : bs p.name with
  | nil => have := bs_length p.name; rw [hb] at this; exact absurd this.symm h0
  | cons a r =>
    have := (in_ne (h1 a (by rw [hb]; simp))).2.2
    have e : lineC p = a :: (r ++ kindB p.kind ++ digB p.len.toNat) := by unfold lineC; rw [hb]; rfl
    rw [e]
    simp [hd, this]
theorem lines_text : ∀ (l : List Par), (∀ p ∈ l, mayP p = true) → linesA [] (textB l) = l.map lineC
  | [], _ => rfl
  | p :: r, h => by
    have e : textB (p :: r) = lineC p ++ 10 :: textB r := by
      show lineB p ++ textB r = _
      rw [lineB_eq]; simp
    rw [e, lines_cat _ _ _ (line_no10 (h p (by simp))), lines_text r fun q hq => h q (by simp [hq])]
    simp
theorem read_text : ∀ (l acc : List Par) (n : Nat), (∀ p ∈ l, mayP p = true) → readL acc n (l.map lineC) = ⟨acc ++ l, 0, 0⟩
  | [], acc, n, _ => by simp [readL]
  | p :: r, acc, n, h => by
    rw [List.map_cons, read_par (line_says (h p (by simp))) (line_some (h p (by simp))), read_text r _ _ fun q hq => h q (by simp [hq])]
    simp
/-- SG5. -/
theorem parse_print {l : List Par} (h : checkP l = 0) : parseP (textB l) = ⟨l, 0, 0⟩ := by
  have hm := check_may h
  have h1 := text_len l hm
  have h2 := check_len h
  have hr : readL [] 0 (linesA [] (textB l)) = ⟨l, 0, 0⟩ := by rw [lines_text l hm, read_text l [] 0 hm]; rfl
  unfold parseP
  rw [if_neg (by omega), hr, if_neg (by simp)]
  simp only
  rw [if_neg (by rw [h]; decide)]

end Go.Proofs.YtmpfoajpafglgaaDoor
