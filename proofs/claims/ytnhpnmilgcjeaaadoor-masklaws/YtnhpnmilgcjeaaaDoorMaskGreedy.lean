import Derived.Test.YtnhpnmilgcjeaaaDoorMaskPlain
/- A glob by its pieces: each taken where it is found first. No program in it. -/
namespace Go.Proofs.YtnhpnmilgcjeaaaDoor
set_option linter.unusedVariables false
set_option linter.unusedSimpArgs false

def fitsG : Gs → Gs → Bool
  | [], [] => true
  | c :: p, b :: t => (c == 63 || c == b) && fitsG p t
  | _, _ => false
def PlainG (p : Gs) : Prop := ∀ c ∈ p, c ≠ 42

theorem fits_len : ∀ (p t : Gs), fitsG p t = true → p.length = t.length
  | [], [], _ => rfl
  | c :: p, b :: t, h => by
    simp only [fitsG, Bool.and_eq_true] at h
    simp [fits_len p t h.2]
  | [], b :: t, h => by simp [fitsG] at h
  | c :: p, [], h => by simp [fitsG] at h

theorem fits_means : ∀ (p t : Gs), PlainG p → (fitsG p t = true ↔ Means p t)
  | [], [], _ => by simp [fitsG, Means]
  | [], b :: t, _ => by simp [fitsG, Means]
  | c :: p, [], h => by
    have hc : c ≠ 42 := h c (by simp)
    rw [means_byte hc]
    simp [fitsG]
  | c :: p, b :: t, h => by
    have hc : c ≠ 42 := h c (by simp)
    rw [means_byte hc, fitsG, Bool.and_eq_true, fits_means p t (fun x hx => h x (by simp [hx]))]
    constructor
    · rintro ⟨h1, h2⟩
      exact ⟨b, t, rfl, by simpa using h1, h2⟩
    · rintro ⟨b', t', e, h1, h2⟩
      obtain ⟨rfl, rfl⟩ := List.cons.inj e
      exact ⟨by simpa using h1, h2⟩

theorem fits_at : ∀ (p t : Gs), fitsG p t = true ↔ p.length = t.length ∧ ∀ i, i < p.length → (p[i]? = some 63 ∨ p[i]? = t[i]?)
  | [], [] => by simp [fitsG]
  | [], b :: t => by simp [fitsG]
  | c :: p, [] => by simp [fitsG]
  | c :: p, b :: t => by
    rw [fitsG, Bool.and_eq_true, fits_at p t]
    constructor
    · rintro ⟨h1, h2, h3⟩
      refine ⟨by simp [h2], fun i hi => ?_⟩
      cases i with
      | zero => simpa using h1
      | succ i => simpa using h3 i (by simpa using hi)
    · rintro ⟨h1, h2⟩
      refine ⟨by simpa using h2 0 (by simp), by simpa using h1, fun i hi => by simpa using h2 (i + 1) (by simpa using hi)⟩

theorem plain_take {p n : Gs} (h : PlainG p) {k : Nat} (hk : k ≤ n.length) (m : Means p (n.take k)) : k = p.length := by
  have := fits_len _ _ ((fits_means p _ h).2 m)
  simp at this
  omega

theorem star_on {g n : Gs} {i j : Nat} (hij : i ≤ j) (h : Means (42 :: g) (n.drop j)) : Means (42 :: g) (n.drop i) := by
  obtain ⟨k, hk, hm⟩ := means_star.1 h
  rw [List.drop_drop] at hm
  by_cases hj : j ≤ n.length
  · rw [List.length_drop] at hk
    exact means_star.2 ⟨j - i + k, by rw [List.length_drop]; omega, by rw [List.drop_drop, show i + (j - i + k) = j + k by omega]; exact hm⟩
  · rw [List.drop_eq_nil_of_le (by omega)] at hm
    exact means_star.2 ⟨(n.drop i).length, Nat.le_refl _, by rw [List.drop_length]; exact hm⟩

/-- Where the piece p stands in x. -/
def FitAt (p x : Gs) (a : Nat) : Prop := a + p.length ≤ x.length ∧ fitsG p ((x.drop a).take p.length) = true

theorem piece_means {p g x : Gs} (h : PlainG p) : Means (42 :: (p ++ 42 :: g)) x ↔ ∃ a, FitAt p x a ∧ Means (42 :: g) (x.drop (a + p.length)) := by
  rw [means_star]
  constructor
  · rintro ⟨a, ha, hm⟩
    obtain ⟨k, hk, h1, h2⟩ := (means_append p (42 :: g) _).1 hm
    have e := plain_take h hk h1
    subst e
    rw [List.length_drop] at hk
    rw [List.drop_drop] at h2
    exact ⟨a, ⟨by omega, (fits_means p _ h).2 h1⟩, h2⟩
  · rintro ⟨a, ⟨h0, h1⟩, h2⟩
    refine ⟨a, by omega, (means_append p (42 :: g) _).2 ⟨p.length, by rw [List.length_drop]; omega, (fits_means p _ h).1 h1, ?_⟩⟩
    rw [List.drop_drop]; exact h2

theorem step_some {p g x : Gs} (h : PlainG p) {a : Nat} (ha : FitAt p x a) (hf : ∀ j, j < a → ¬ FitAt p x j) : Means (42 :: (p ++ 42 :: g)) x ↔ Means (42 :: g) (x.drop (a + p.length)) := by
  rw [piece_means h]
  constructor
  · rintro ⟨b, hb, hm⟩
    exact star_on (by have : ¬ b < a := fun hlt => hf b hlt hb
                      omega) hm
  · intro hm
    exact ⟨a, ha, hm⟩
theorem step_none {p g x : Gs} (h : PlainG p) (hf : ∀ j, ¬ FitAt p x j) : ¬ Means (42 :: (p ++ 42 :: g)) x := by
  rw [piece_means h]
  rintro ⟨a, ha, _⟩
  exact hf a ha

theorem dbl_head (g n : Gs) : Means (42 :: 42 :: g) n ↔ Means (42 :: g) n := by
  rw [means_star]
  constructor
  · rintro ⟨k, hk, hm⟩
    exact star_on (n := n) (i := 0) (j := k) (by omega) hm
  · intro h
    exact ⟨0, by omega, h⟩
theorem dbl_tail (g n : Gs) : Means (g ++ [42, 42]) n ↔ Means (g ++ [42]) n := by
  rw [means_append, means_append]
  constructor
  · rintro ⟨k, hk, h1, h2⟩
    exact ⟨k, hk, h1, means_all _⟩
  · rintro ⟨k, hk, h1, h2⟩
    exact ⟨k, hk, h1, (dbl_head [] _).2 (means_all _)⟩
theorem mid_means (m n : Gs) (h1 : ∃ a, m = 42 :: a) (h2 : ∃ b, m = b ++ [42]) : Means (42 :: (m ++ [42])) n ↔ Means m n := by
  obtain ⟨b, hb⟩ := h2
  obtain ⟨a, ha⟩ := h1
  rw [ha, List.cons_append, dbl_head, ← List.cons_append, ← ha, hb, List.append_assoc]
  exact dbl_tail b n

/-- The whole: what stands ahead of the first star, behind the last, and between them. -/
theorem ends_means {h m t n : Gs} (ph : PlainG h) (pt : PlainG t) : Means (h ++ m ++ t) n ↔ h.length + t.length ≤ n.length ∧ fitsG h (n.take h.length) = true ∧ fitsG t (n.drop (n.length - t.length)) = true ∧ Means m ((n.drop h.length).take (n.length - t.length - h.length)) := by
  rw [List.append_assoc, means_append]
  constructor
  · rintro ⟨k, hk, h1, h2⟩
    have e := plain_take ph hk h1
    subst e
    obtain ⟨j, hj, h3, h4⟩ := (means_append m t _).1 h2
    have f4 := (fits_means t _ pt).2 h4
    have l4 := fits_len _ _ f4
    rw [List.length_drop, List.length_drop] at l4
    rw [List.length_drop] at hj
    rw [List.drop_drop] at f4
    have ej : j = n.length - t.length - h.length := by omega
    have ed : h.length + j = n.length - t.length := by omega
    rw [ed] at f4
    exact ⟨by omega, (fits_means h _ ph).2 h1, f4, by rw [← ej]; exact h3⟩
  · rintro ⟨h0, h1, h2, h3⟩
    refine ⟨h.length, by omega, (fits_means h _ ph).1 h1, (means_append m t _).2 ⟨n.length - t.length - h.length, by rw [List.length_drop]; omega, h3, ?_⟩⟩
    rw [List.drop_drop, show h.length + (n.length - t.length - h.length) = n.length - t.length by omega]
    exact (fits_means t _ pt).1 h2

theorem gx_extract (s : ByteArray) (a b : Nat) : gs (s.extract a b) = ((gs s).take b).drop a := by
  simp [gs, ByteArray.data_extract, Array.toList_extract, List.extract_eq_take_drop, List.drop_take]

end Go.Proofs.YtnhpnmilgcjeaaaDoor
