import Derived.Test.YtheedniegjcbgaaLexScans
/- Laws of texts and tokens: no program in it. -/
namespace Go.Proofs.Ytheedniegjcbgaa
set_option linter.unusedVariables false
set_option linter.unusedSimpArgs false

/- The rounds do not matter, if there are enough. -/
theorem scanF_fuel (n : Nat) : ∀ (f g : Nat) (r : Bs), r.length ≤ f → r.length ≤ g → scanF n f r = scanF n g r
  | f, g, [], _, _ => by rw [scanF_nil, scanF_nil]
  | 0, _, b :: t, h, _ => absurd h (by simp)
  | f + 1, 0, b :: t, _, h => absurd h (by simp)
  | f + 1, g + 1, b :: t, hf, hg => by
    by_cases he : (tokL (b :: t)).err = 0
    · have ok := okay_tok (b :: t) (by simp) he
      have hl : (skp false ((b :: t).drop (tokL (b :: t)).len)).length ≤ f ∧ (skp false ((b :: t).drop (tokL (b :: t)).len)).length ≤ g := by
        have := skp_le false ((b :: t).drop (tokL (b :: t)).len)
        rw [List.length_drop] at this
        omega
      rw [scanF_tok n f _ (by simp) he, scanF_tok n g _ (by simp) he, scanF_fuel n f g _ hl.1 hl.2]
    · rw [scanF_err n f _ (by simp) he, scanF_err n g _ (by simp) he]

/- Blanks ahead. -/
def shT (b : Nat) (t : Tok) : Tok := ⟨t.kind, t.text, t.at_ + b⟩
theorem scanF_shift (b n : Nat) : ∀ (f : Nat) (r : Bs), r.length ≤ n → r.length ≤ f → (scanF (n + b) f r).toks = (scanF n f r).toks.map (shT b) ∧ (scanF (n + b) f r).err = (scanF n f r).err ∧ (scanF (n + b) f r).place = (scanF n f r).place + b
  | f, [], _, _ => by rw [scanF_nil, scanF_nil]; exact ⟨rfl, rfl, rfl⟩
  | 0, b :: t, _, h => absurd h (by simp)
  | f + 1, c :: t, hn, hf => by
    by_cases he : (tokL (c :: t)).err = 0
    · have ok := okay_tok (c :: t) (by simp) he
      have hl : (skp false ((c :: t).drop (tokL (c :: t)).len)).length ≤ f ∧ (skp false ((c :: t).drop (tokL (c :: t)).len)).length ≤ n := by
        have := skp_le false ((c :: t).drop (tokL (c :: t)).len)
        rw [List.length_drop] at this
        omega
      obtain ⟨i1, i2, i3⟩ := scanF_shift b n f _ hl.2 hl.1
      rw [scanF_tok _ f _ (by simp) he, scanF_tok _ f _ (by simp) he]
      refine ⟨?_, i2, i3⟩
      simp only [List.map_cons, i1, shT]
      congr 2
      omega
    · rw [scanF_err _ f _ (by simp) he, scanF_err _ f _ (by simp) he]
      refine ⟨rfl, rfl, ?_⟩
      show n + b - (c :: t).length = n - (c :: t).length + b
      omega
theorem skp_ahead : ∀ (a l : Bs), (∀ c ∈ a, pBlank (nb c) = true) → skp false (a ++ l) = skp false l
  | [], l, _ => rfl
  | c :: a, l, h => by
    rw [List.cons_append, skp, if_pos (h c (by simp))]
    exact skp_ahead a l fun d hd => h d (by simp [hd])
theorem scan0_ahead (a l : Bs) (h : ∀ c ∈ a, pBlank (nb c) = true) : (scan0 (a ++ l)).toks = (scan0 l).toks.map (shT a.length) ∧ (scan0 (a ++ l)).err = (scan0 l).err ∧ (scan0 (a ++ l)).place = (scan0 l).place + a.length := by
  have h1 := scanF_shift a.length l.length l.length (skp false l) (skp_le _ _) (skp_le _ _)
  have h2 : scan0 (a ++ l) = scanF (l.length + a.length) l.length (skp false l) := by
    unfold scan0
    rw [skp_ahead a l h, List.length_append, Nat.add_comm a.length l.length]
    exact scanF_fuel _ _ _ _ (Nat.le_trans (skp_le _ _) (Nat.le_add_right _ _)) (skp_le _ _)
  rw [h2]
  exact h1
/-- LX4. -/
theorem scan_ahead (a l : Bs) (h : ∀ c ∈ a, pBlank (nb c) = true) (hl : l.length + a.length ≤ 65536) :
    (scanP (a ++ l)).toks = (scanP l).toks.map (shT a.length) ∧ (scanP (a ++ l)).err = (scanP l).err ∧ ((scanP l).err ≠ 0 → (scanP (a ++ l)).place = (scanP l).place + a.length) := by
  obtain ⟨h1, h2, h3⟩ := scan0_ahead a l h
  have la : (a ++ l).length ≤ 65536 := by rw [List.length_append]; omega
  by_cases he : (scan0 l).err = 0
  · rw [scan_ok (by omega) he, scan_ok la (by rw [h2]; exact he), h1]
    refine ⟨?_, rfl, fun h => absurd rfl h⟩
    simp [shT]; omega
  · rw [scan_err (by omega) he, scan_err la (by rw [h2]; exact he), h2, h3]
    exact ⟨rfl, rfl, fun _ => rfl⟩
theorem scan_ahead_long (a l : Bs) (hl : 65536 < l.length + a.length) : scanP (a ++ l) = ⟨[], 2, 0⟩ := scan_long _ (by rw [List.length_append]; omega)

/- Gaps. -/
def gapS : Bool → Bs → Option Bool
  | c, [] => some c
  | c, b :: t => if nb b == 10 then gapS false t else if c || nb b == 9 || nb b == 13 || nb b == 32 then gapS c t else if nb b == 35 then gapS true t else none
def gapB (l : Bs) (last : Bool) : Bool :=
  match gapS false l with
  | none => false
  | some c => !c || last

theorem gap_skp : ∀ (c : Bool) (r : Bs), ∃ c', gapS c (r.take (r.length - (skp c r).length)) = some c' ∧ (skp c r ≠ [] → c' = false)
  | c, [] => ⟨c, by cases c <;> rfl, fun h => absurd (by cases c <;> rfl) h⟩
  | false, b :: t => by
    have hle := skp_le false t
    have hle2 := skp_le true t
    cases h : pBlank (nb b)
    · cases h' : (nb b == 35)
      · have e : skp false (b :: t) = b :: t := by rw [skp, if_neg (by rw [h]; simp), if_neg (by rw [h']; simp)]
        rw [e, Nat.sub_self]
        exact ⟨false, rfl, fun _ => rfl⟩
      · have e : skp false (b :: t) = skp true t := by rw [skp, if_neg (by rw [h]; simp), if_pos h']
        obtain ⟨c', h1, h2⟩ := gap_skp true t
        rw [e]
        refine ⟨c', ?_, h2⟩
        have hb : nb b = 35 := by simpa using h'
        rw [show (b :: t).length - (skp true t).length = (t.length - (skp true t).length) + 1 by simp; omega, List.take_succ_cons, gapS, hb]
        exact h1
    · have e : skp false (b :: t) = skp false t := by rw [skp, if_pos h]
      obtain ⟨c', h1, h2⟩ := gap_skp false t
      rw [e]
      refine ⟨c', ?_, h2⟩
      rw [show (b :: t).length - (skp false t).length = (t.length - (skp false t).length) + 1 by simp; omega, List.take_succ_cons, gapS]
      have hb : nb b = 9 ∨ nb b = 10 ∨ nb b = 13 ∨ nb b = 32 := by simpa [pBlank, or_assoc] using h
      rcases hb with hb | hb | hb | hb <;> rw [hb] <;> exact h1
  | true, b :: t => by
    have hle := skp_le false t
    have hle2 := skp_le true t
    cases h : (nb b == 10)
    · have e : skp true (b :: t) = skp true t := by rw [skp, if_neg (by rw [h]; simp)]
      obtain ⟨c', h1, h2⟩ := gap_skp true t
      rw [e]
      refine ⟨c', ?_, h2⟩
      rw [show (b :: t).length - (skp true t).length = (t.length - (skp true t).length) + 1 by simp; omega, List.take_succ_cons, gapS, h]
      exact h1
    · have e : skp true (b :: t) = skp false t := by rw [skp, if_pos h]
      obtain ⟨c', h1, h2⟩ := gap_skp false t
      rw [e]
      refine ⟨c', ?_, h2⟩
      rw [show (b :: t).length - (skp false t).length = (t.length - (skp false t).length) + 1 by simp; omega, List.take_succ_cons, gapS, h]
      exact h1
theorem gap_mid (r : Bs) (h : skp false r ≠ []) : gapB (r.take (r.length - (skp false r).length)) false = true := by
  obtain ⟨c', h1, h2⟩ := gap_skp false r
  unfold gapB
  rw [h1, h2 h]
  rfl
theorem gap_last (r : Bs) (h : skp false r = []) : gapB r true = true := by
  obtain ⟨c', h1, h2⟩ := gap_skp false r
  rw [h, List.length_nil, Nat.sub_zero, List.take_length] at h1
  unfold gapB
  rw [h1]
  simp

/-- A token's bytes: its text, with quotes if it is one. -/
def quo (k : Int) (x : Bs) : Bs := if k == 4 then 34 :: (x ++ [34]) else x
theorem hd_cons {r : Bs} (c : Int) (h0 : c ≠ 0) (h : hd r = c) : ∃ b t, r = b :: t ∧ nb b = c := by
  cases r with
  | nil => exact absurd h.symm h0
  | cons b t => exact ⟨b, t, rfl, h⟩
theorem nb_inj {a b : UInt8} (h : nb a = nb b) : a = b := by
  unfold nb at h
  exact UInt8.toNat_inj.1 (by omega)
theorem kind4 (r : Bs) (h : (tokL r).err = 0) (h4 : (tokL r).kind = 4) : hd r = 34 ∧ hd (r.drop (1 + run pInText (r.drop 1))) = 34 ∧ (tokL r).len = 2 + run pInText (r.drop 1) := by
  unfold tokL at h h4 ⊢
  split at h
  · rename_i c; rw [if_pos c] at h4; rw [(fitL_len h).1] at h4; exact absurd (show (1 : Int) = 4 from h4) (by decide)
  · rename_i c
    rw [if_neg c] at h4 ⊢
    split at h
    · rename_i d
      rw [if_pos d] at h4
      rcases numL_kind r h with e | e <;> rw [e] at h4 <;> exact absurd h4 (by decide)
    · rename_i d
      rw [if_neg d] at h4 ⊢
      split at h
      · rename_i e
        rw [if_pos e] at h4 ⊢
        split at h
        · rename_i f
          rw [if_pos f] at h4 ⊢
          rw [(fitL_len h).1]
          exact ⟨by simpa using e, by simpa using f, rfl⟩
        · exact absurd h (by decide)
      · rename_i e
        rw [if_neg e] at h4
        split at h
        · rename_i f
          rw [if_pos f] at h4
          have h4' : 5 + markOf (hd r) = 4 := h4
          omega
        · exact absurd h (by decide)
theorem quo_tok (r : Bs) (h0 : r ≠ []) (h : (tokL r).err = 0) : quo (tokL r).kind (textOf (tokL r).kind (r.take (tokL r).len)) = r.take (tokL r).len := by
  have ok := okay_tok r h0 h
  by_cases h4 : (tokL r).kind = 4
  · obtain ⟨e1, e2, e3⟩ := kind4 r h h4
    obtain ⟨n, hn⟩ : ∃ n, run pInText (r.drop 1) = n := ⟨_, rfl⟩
    rw [hn] at e2 e3
    rw [h4, e3, text4 r n (by have := ok.2.1; omega)]
    obtain ⟨b, t, rfl, hb⟩ := hd_cons 34 (by decide) e1
    have hb' : b = 34 := nb_inj (by rw [hb]; rfl)
    subst hb'
    rw [show 1 + n = n + 1 by omega, List.drop_succ_cons] at e2
    obtain ⟨c, u, hc, hcb⟩ := hd_cons 34 (by decide) e2
    have hc' : c = 34 := nb_inj (by rw [hcb]; rfl)
    subst hc'
    unfold quo
    rw [if_pos (by decide), List.drop_succ_cons, List.drop_zero, show 2 + n = (n + 1) + 1 by omega, List.take_succ_cons, List.take_succ_eq_append_getElem (by have := congrArg List.length hc; rw [List.length_drop] at this; simp at this; omega)]
    congr 3
    have := List.getElem?_drop (xs := t) (i := n) (j := 0)
    rw [hc] at this
    simp at this
    have e := List.getElem?_eq_some_iff.1 this.symm
    exact e.2.symm
  · unfold quo
    rw [if_neg (by simpa using h4), textOf_ne h4]
theorem quo_len (k : Int) (x : Bs) : (quo k x).length = if k == 4 then x.length + 2 else x.length := by
  unfold quo
  split <;> simp

end Go.Proofs.Ytheedniegjcbgaa
