import Derived.Test.YtheedniegjcbgaaLexTok
/- Places and lists: what the walks tell is what LexPlain says; a token's bounds; a round of Scan. -/
namespace Go.Proofs.Ytheedniegjcbgaa
open Go.RowKit
set_option linter.unusedVariables false
set_option linter.unusedSimpArgs false

theorem peekN_add (s : ByteArray) (i m : Nat) : peekN s (i + m) = hd (((bs s).drop i).drop m) := by unfold peekN; rw [List.drop_drop]
theorem pastN_add (p : Int → Bool) (s : ByteArray) (i m : Nat) : pastN p s (i + m) = i + (m + run p (((bs s).drop i).drop m)) := by unfold pastN; rw [List.drop_drop]; omega

def toT3 (i : Nat) (t : Scan1) : T3 := ⟨t.kind, if t.err = 0 then (i : Int) + t.len else 0, t.err⟩

theorem fit_eq (i : Nat) (kind : Int) (m c : Nat) : fitN kind ((i : Int) + m) (c : Int) = toT3 i (fitL kind m c) := by
  unfold fitN fitL toT3
  by_cases h : c > 64
  · have h' : (c : Int) > 64 := by omega
    simp [h, h']
  · have h' : ¬ (c : Int) > 64 := by omega
    simp [h, h']
theorem fault_eq (i : Nat) (e : Int) (h : e ≠ 0) : (⟨0, 0, e⟩ : T3) = toT3 i ⟨0, 0, e⟩ := by unfold toT3; rw [if_neg h]
theorem behind_eq (s : ByteArray) (i : Nat) (kind : Int) (m : Nat) : behindN s i kind (i + m) = toT3 i (behindL kind m (((bs s).drop i).drop m)) := by
  unfold behindN behindL
  rw [peekN_add]
  split
  · exact fault_eq i 62 (by decide)
  · rw [← fit_eq]
    congr 1 <;> omega
theorem exp_eq (s : ByteArray) (i m : Nat) : expN s i (i + m) = toT3 i (expL m (((bs s).drop i).drop m)) := by
  unfold expN expL
  rw [peekN_add, pastN_add]
  split
  · rw [behind_eq]
    simp only [List.drop_drop, Nat.add_assoc]
  · exact fault_eq i 62 (by decide)
theorem expo_eq (s : ByteArray) (i m : Nat) : expoN s i (i + m) = toT3 i (expoL m (((bs s).drop i).drop m)) := by
  unfold expoN expoL
  rw [Nat.add_assoc, Nat.add_assoc, peekN_add, exp_eq, exp_eq, List.drop_drop, List.drop_drop, List.drop_drop, List.drop_drop]
  simp only [List.drop_drop]
  split <;> rfl
theorem tail_eq (s : ByteArray) (i : Nat) (kind : Int) (m : Nat) : tailN s i kind (i + m) = toT3 i (tailL kind m (((bs s).drop i).drop m)) := by
  unfold tailN tailL
  rw [peekN_add, expo_eq, behind_eq]
  split <;> rfl
theorem num_eq (s : ByteArray) (i : Nat) : numN s i = toT3 i (numL ((bs s).drop i)) := by
  unfold numN numL
  have e0 : pastN pDigit s i = i + run pDigit ((bs s).drop i) := rfl
  rw [e0, peekN_add, Nat.add_assoc, peekN_add, pastN_add, tail_eq, tail_eq]
  split
  · split
    · rfl
    · exact fault_eq i 62 (by decide)
  · rfl
theorem tok_eq (s : ByteArray) (i : Nat) : tokN s i = toT3 i (tokL ((bs s).drop i)) := by
  unfold tokN tokL
  have e1 : peekN s i = hd ((bs s).drop i) := rfl
  have e0 : pastN pInName s i = i + run pInName ((bs s).drop i) := rfl
  rw [e1, num_eq, pastN_add, peekN_add]
  split
  · rw [← fit_eq, e0]
    congr 1 <;> omega
  · split
    · rfl
    · split
      · split
        · rw [← fit_eq]
          congr 1 <;> omega
        · exact fault_eq i 61 (by decide)
      · split
        · unfold toT3; simp
        · exact fault_eq i 60 (by decide)

/- What a token has. -/
theorem run_drop (p : Int → Bool) (r : Bs) : run p r ≤ r.length := run_le p r
theorem drop_add_le (r : Bs) (m k : Nat) (h : k ≤ (r.drop m).length) (hm : m ≤ r.length) : m + k ≤ r.length := by rw [List.length_drop] at h; omega

def Okay (r : Bs) (t : Scan1) : Prop := t.err = 0 → 1 ≤ t.len ∧ t.len ≤ r.length ∧ 1 ≤ t.kind ∧ t.kind ≤ 10 ∧ (t.kind = 4 → 2 ≤ t.len)

theorem okay_fault (r : Bs) (e : Int) (h : e ≠ 0) : Okay r ⟨0, 0, e⟩ := fun h' => absurd h' h
theorem okay_fit (r : Bs) (k : Int) (m c : Nat) (h1 : 1 ≤ m) (h2 : m ≤ r.length) (h3 : 1 ≤ k) (h4 : k ≤ 10) (h5 : k = 4 → 2 ≤ m) : Okay r (fitL k m c) := by
  intro h
  rw [(fitL_len h).1]
  exact ⟨h1, h2, h3, h4, h5⟩
theorem okay_behind (r : Bs) (k : Int) (m : Nat) (x : Bs) (h1 : 1 ≤ m) (h2 : m ≤ r.length) (h3 : k = 2 ∨ k = 3) : Okay r (behindL k m x) := by
  unfold behindL
  split
  · exact okay_fault _ _ (by decide)
  · exact okay_fit r k m m h1 h2 (by omega) (by omega) (by omega)
theorem okay_exp (r : Bs) (m : Nat) (h1 : 1 ≤ m) (h2 : m ≤ r.length) : Okay r (expL m (r.drop m)) := by
  unfold expL
  split
  · exact okay_behind r 2 _ _ (by omega) (drop_add_le r m _ (run_le _ _) h2) (by omega)
  · exact okay_fault _ _ (by decide)
theorem okay_tail (r : Bs) (k : Int) (m : Nat) (h1 : 1 ≤ m) (h2 : m ≤ r.length) (h3 : k = 2 ∨ k = 3) : Okay r (tailL k m (r.drop m)) := by
  unfold tailL expoL
  split
  · rename_i he
    have l1 := hd_ne pExponent rfl _ he
    rw [List.length_drop] at l1
    rw [List.drop_drop, List.drop_drop]
    split
    · rename_i hs
      have l2 := hd_ne pSign rfl _ hs
      rw [List.length_drop] at l2
      exact okay_exp r (m + 2) (by omega) (by omega)
    · exact okay_exp r (m + 1) (by omega) (by omega)
  · exact okay_behind r k m _ h1 h2 h3
theorem okay_num (r : Bs) (h : pDigit (hd r) = true) : Okay r (numL r) := by
  have l0 := hd_ne pDigit rfl _ h
  have h1 := run_pos pDigit r (by intro e; rw [e] at l0; exact absurd l0 (by decide)) h
  have h2 := run_le pDigit r
  unfold numL
  split
  · rename_i he
    have l1 := hd_ne (fun c => c == 46) rfl _ he
    rw [List.length_drop] at l1
    split
    · have h3 := run_le pDigit (r.drop (run pDigit r + 1))
      rw [List.length_drop] at h3
      exact okay_tail r 2 _ (by omega) (by omega) (by omega)
    · exact okay_fault _ _ (by decide)
  · exact okay_tail r 3 _ h1 h2 (by omega)
theorem okay_tok (r : Bs) (h0 : r ≠ []) : Okay r (tokL r) := by
  have hl : 1 ≤ r.length := by cases r with | nil => exact absurd rfl h0 | cons a b => simp
  unfold tokL
  split
  · rename_i h
    exact okay_fit r 1 _ _ (run_pos pInName r h0 (by unfold pInName; rw [h]; rfl)) (run_le _ _) (by decide) (by decide) (fun h => absurd h (by decide))
  · split
    · rename_i h; exact okay_num r h
    · split
      · split
        · rename_i he
          have l1 := hd_ne (fun c => c == 34) rfl _ he
          rw [List.length_drop] at l1
          exact okay_fit r 4 _ _ (by omega) (by omega) (by decide) (by decide) (by omega)
        · exact okay_fault _ _ (by decide)
      · split
        · intro _
          have := mark_hi (hd r)
          exact ⟨Nat.le_refl _, hl, by show 1 ≤ 5 + markOf (hd r); omega, by show 5 + markOf (hd r) ≤ 10; omega, fun h => by have h' : 5 + markOf (hd r) = 4 := h; omega⟩
        · exact okay_fault _ _ (by decide)

/- Errors are numbers of errors, kinds are kinds. -/
theorem tok_bounds (r : Bs) (h0 : r ≠ []) : 0 ≤ (tokL r).err ∧ (tokL r).err ≤ 100 := by
  have fit : ∀ k m c, 0 ≤ (fitL k m c).err ∧ (fitL k m c).err ≤ 100 := fun k m c => by unfold fitL; split <;> simp
  have beh : ∀ k m x, 0 ≤ (behindL k m x).err ∧ (behindL k m x).err ≤ 100 := fun k m x => by
    unfold behindL
    split
    · decide
    · exact fit _ _ _
  have ex : ∀ m x, 0 ≤ (expL m x).err ∧ (expL m x).err ≤ 100 := fun m x => by
    unfold expL
    split
    · exact beh _ _ _
    · decide
  have tl : ∀ k m x, 0 ≤ (tailL k m x).err ∧ (tailL k m x).err ≤ 100 := fun k m x => by
    unfold tailL expoL
    split
    · split <;> exact ex _ _
    · exact beh _ _ _
  unfold tokL numL
  split
  · exact fit _ _ _
  · split
    · split
      · split
        · exact tl _ _ _
        · decide
      · exact tl _ _ _
    · split
      · split
        · exact fit _ _ _
        · decide
      · split <;> simp

/- Rounds of Scan. -/
theorem scanF_nil (n f : Nat) : scanF n f [] = ⟨[], 0, n⟩ := by cases f <;> rfl
theorem scanF_err (n f : Nat) (r : Bs) (h0 : r ≠ []) (h : (tokL r).err ≠ 0) : scanF n (f + 1) r = ⟨[], (tokL r).err, n - r.length⟩ := by
  cases r with
  | nil => exact absurd rfl h0
  | cons b t => rw [scanF, if_pos h]
theorem scanF_tok (n f : Nat) (r : Bs) (h0 : r ≠ []) (h : (tokL r).err = 0) : scanF n (f + 1) r =
    ⟨⟨(tokL r).kind, textOf (tokL r).kind (r.take (tokL r).len), n - r.length⟩ :: (scanF n f (skp false (r.drop (tokL r).len))).toks, (scanF n f (skp false (r.drop (tokL r).len))).err, (scanF n f (skp false (r.drop (tokL r).len))).place⟩ := by
  cases r with
  | nil => exact absurd rfl h0
  | cons b t => rw [scanF, if_neg (by simpa using h)]

/-- So far: the tokens acc are told, r is left. -/
def SoFar (l : Bs) (acc : List Tok) (r : Bs) : Prop :=
  ∃ f, r.length ≤ f ∧ (scan0 l).toks = acc ++ (scanF l.length f r).toks ∧ (scan0 l).err = (scanF l.length f r).err ∧ (scan0 l).place = (scanF l.length f r).place
theorem soFar_start (l : Bs) : SoFar l [] (skp false l) := ⟨l.length, skp_le _ _, by simp [scan0], rfl, rfl⟩
theorem soFar_end {l : Bs} {acc : List Tok} (h : SoFar l acc []) : (scan0 l).toks = acc ∧ (scan0 l).err = 0 ∧ (scan0 l).place = l.length := by
  obtain ⟨f, _, h1, h2, h3⟩ := h
  rw [scanF_nil] at h1 h2 h3
  exact ⟨by simpa using h1, h2, h3⟩
theorem soFar_err {l : Bs} {acc : List Tok} {r : Bs} (h : SoFar l acc r) (h0 : r ≠ []) (he : (tokL r).err ≠ 0) : (scan0 l).err = (tokL r).err ∧ (scan0 l).place = l.length - r.length := by
  obtain ⟨f, hf, h1, h2, h3⟩ := h
  cases f with
  | zero => exact absurd (List.eq_nil_of_length_eq_zero (by omega)) h0
  | succ f =>
    rw [scanF_err _ _ _ h0 he] at h2 h3
    exact ⟨h2, h3⟩
theorem soFar_tok {l : Bs} {acc : List Tok} {r : Bs} (h : SoFar l acc r) (h0 : r ≠ []) (he : (tokL r).err = 0) :
    SoFar l (acc ++ [⟨(tokL r).kind, textOf (tokL r).kind (r.take (tokL r).len), l.length - r.length⟩]) (skp false (r.drop (tokL r).len)) := by
  obtain ⟨f, hf, h1, h2, h3⟩ := h
  have ok := okay_tok r h0 he
  cases f with
  | zero => exact absurd (List.eq_nil_of_length_eq_zero (by omega)) h0
  | succ f =>
    rw [scanF_tok _ _ _ h0 he] at h1 h2 h3
    refine ⟨f, ?_, by rw [h1]; simp, h2, h3⟩
    have := skp_le false (r.drop (tokL r).len)
    rw [List.length_drop] at this
    omega

/- A piece of a text. -/
theorem bs_extract (s : ByteArray) (a b : Nat) : bs (s.extract a b) = ((bs s).drop a).take (b - a) := by
  unfold bs
  simp [ByteArray.data_extract, Array.toList_extract, List.extract_eq_take_drop]
theorem of_bs (s : ByteArray) : s = ⟨(bs s).toArray⟩ := by
  apply ByteArray.ext
  simp [bs]

end Go.Proofs.Ytheedniegjcbgaa
