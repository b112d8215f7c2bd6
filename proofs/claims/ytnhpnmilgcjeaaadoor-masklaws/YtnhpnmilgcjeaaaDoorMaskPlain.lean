import Derived.RowKit3
/- Layer 11, plainly: globs. No program in it. -/
namespace Go.Proofs.YtnhpnmilgcjeaaaDoor
set_option linter.unusedVariables false
set_option linter.unusedSimpArgs false

abbrev Gs := List UInt8
def gs (s : ByteArray) : Gs := s.data.toList
theorem gs_length (s : ByteArray) : (gs s).length = s.size := by simp [gs]
theorem gs_at (s : ByteArray) (k : Nat) (h : k < s.size) : (gs s)[k]? = some s[k] := by
  unfold gs
  rw [List.getElem?_eq_getElem (by simpa using h)]
  rfl
theorem gtake_succ {α : Type} {l : List α} {i : Nat} (h : i < l.length) : l.take (i + 1) = l.take i ++ [l[i]] := by simp

/-- M1: a glob means a text. -/
def Means : Gs → Gs → Prop
  | [], n => n = []
  | c :: g, n => if c = 42 then ∃ k, k ≤ n.length ∧ Means g (n.drop k) else ∃ b t, n = b :: t ∧ (c = 63 ∨ c = b) ∧ Means g t
theorem means_star {g n : Gs} : Means (42 :: g) n ↔ ∃ k, k ≤ n.length ∧ Means g (n.drop k) := by rw [Means, if_pos rfl]
theorem means_byte {c : UInt8} {g n : Gs} (h : c ≠ 42) : Means (c :: g) n ↔ ∃ b t, n = b :: t ∧ (c = 63 ∨ c = b) ∧ Means g t := by rw [Means, if_neg h]

theorem means_append : ∀ (g h n : Gs), Means (g ++ h) n ↔ ∃ k, k ≤ n.length ∧ Means g (n.take k) ∧ Means h (n.drop k)
  | [], h, n => by
    constructor
    · intro m
      exact ⟨0, Nat.zero_le _, by simp [Means], by simpa using m⟩
    · rintro ⟨k, hk, m1, m2⟩
      have : n.take k = [] := m1
      have e : n.drop k = n := by
        rcases List.take_eq_nil_iff.1 this with rfl | rfl
        · rfl
        · simp
      rw [e] at m2
      exact m2
  | c :: g, h, n => by
    rw [List.cons_append]
    by_cases hc : c = 42
    · subst hc
      rw [means_star]
      constructor
      · rintro ⟨j, hj, m⟩
        obtain ⟨k, hk, m1, m2⟩ := (means_append g h _).1 m
        rw [List.length_drop] at hk
        refine ⟨j + k, by omega, ?_, by rw [List.drop_drop] at m2; exact m2⟩
        rw [means_star]
        refine ⟨j, by rw [List.length_take]; omega, ?_⟩
        rw [List.drop_take, Nat.add_sub_cancel_left]
        exact m1
      · rintro ⟨k, hk, m1, m2⟩
        obtain ⟨j, hj, m⟩ := means_star.1 m1
        rw [List.length_take] at hj
        refine ⟨j, by omega, (means_append g h _).2 ⟨k - j, by rw [List.length_drop]; omega, ?_, ?_⟩⟩
        · rw [List.drop_take] at m
          exact m
        · rw [List.drop_drop, show j + (k - j) = k by omega]
          exact m2
    · rw [means_byte hc]
      constructor
      · rintro ⟨b, t, rfl, hb, m⟩
        obtain ⟨k, hk, m1, m2⟩ := (means_append g h _).1 m
        refine ⟨k + 1, by simp; exact hk, ?_, by simpa using m2⟩
        rw [means_byte hc]
        exact ⟨b, t.take k, by simp, hb, m1⟩
      · rintro ⟨k, hk, m1, m2⟩
        obtain ⟨b, t, e, hb, m⟩ := (means_byte hc).1 m1
        cases n with
        | nil => simp at e
        | cons x r =>
          cases k with
          | zero => simp at e
          | succ k =>
            simp at e
            obtain ⟨rfl, rfl⟩ := e
            exact ⟨x, r, rfl, hb, (means_append g h _).2 ⟨k, by simpa using hk, m, by simpa using m2⟩⟩
theorem means_one {c : UInt8} (h : c ≠ 42) (n : Gs) : Means [c] n ↔ ∃ b, n = [b] ∧ (c = 63 ∨ c = b) := by
  rw [means_byte h]
  constructor
  · rintro ⟨b, t, rfl, hb, m⟩
    have : t = [] := m
    subst this
    exact ⟨b, rfl, hb⟩
  · rintro ⟨b, rfl, hb⟩
    exact ⟨b, [], rfl, hb, rfl⟩
theorem means_all (n : Gs) : Means [42] n := means_star.2 ⟨n.length, Nat.le_refl _, by rw [List.drop_length]; rfl⟩

/-- Does the beginning of i bytes of the glob mean the beginning of k bytes of the name? -/
def gR (g n : Gs) : Nat → Nat → Bool
  | 0, k => k == 0
  | i + 1, k => if g[i]? = some 42 then (List.range (k + 1)).any (gR g n i)
    else match k with
      | 0 => false
      | k + 1 => (g[i]? == some 63 || g[i]? == n[k]?) && gR g n i k
def matchP (g n : Gs) : Bool := gR g n g.length n.length

theorem gR_star {g n : Gs} {i : Nat} (h : g[i]? = some 42) (k : Nat) : gR g n (i + 1) k = (List.range (k + 1)).any (gR g n i) := by cases k <;> rw [gR, if_pos h]
theorem gR_star0 {g n : Gs} {i : Nat} (h : g[i]? = some 42) : gR g n (i + 1) 0 = gR g n i 0 := by rw [gR_star h]; simp
theorem gR_starS {g n : Gs} {i : Nat} (h : g[i]? = some 42) (k : Nat) : gR g n (i + 1) (k + 1) = (gR g n i (k + 1) || gR g n (i + 1) k) := by
  rw [gR_star h, gR_star h, List.range_succ, List.any_append]
  simp [Bool.or_comm]
theorem gR_no0 {g n : Gs} {i : Nat} (h : g[i]? ≠ some 42) : gR g n (i + 1) 0 = false := by rw [gR, if_neg h]
theorem gR_noS {g n : Gs} {i : Nat} (h : g[i]? ≠ some 42) (k : Nat) : gR g n (i + 1) (k + 1) = ((g[i]? == some 63 || g[i]? == n[k]?) && gR g n i k) := by rw [gR, if_neg h]

theorem gR_means (g n : Gs) : ∀ (i k : Nat), i ≤ g.length → k ≤ n.length → (gR g n i k = true ↔ Means (g.take i) (n.take k))
  | 0, k, _, hk => by
    rw [gR, List.take_zero]
    show _ ↔ n.take k = []
    rw [beq_iff_eq, List.take_eq_nil_iff]
    constructor
    · intro h; exact .inl h
    · rintro (h | h)
      · exact h
      · subst h; simp at hk; exact hk
  | i + 1, k, hi, hk => by
    have hi' : i < g.length := hi
    have ih := fun j (hj : j ≤ n.length) => gR_means g n i j (by omega) hj
    rw [gtake_succ hi', means_append]
    have hlen : (n.take k).length = k := by rw [List.length_take]; omega
    by_cases hc : g[i] = 42
    · have hc' : g[i]? = some 42 := by rw [List.getElem?_eq_getElem hi', hc]
      rw [gR_star hc', List.any_eq_true, hc]
      constructor
      · rintro ⟨j, hj, m⟩
        have hj := List.mem_range.1 hj
        refine ⟨j, by rw [hlen]; omega, ?_, means_all _⟩
        rw [List.take_take, Nat.min_eq_left (by omega)]
        exact (ih j (by omega)).1 m
      · rintro ⟨j, hj, m1, m2⟩
        rw [hlen] at hj
        rw [List.take_take, Nat.min_eq_left (by omega)] at m1
        exact ⟨j, List.mem_range.2 (by omega), (ih j (by omega)).2 m1⟩
    · have hc' : g[i]? ≠ some 42 := by rw [List.getElem?_eq_getElem hi']; simpa using hc
      cases k with
      | zero =>
        rw [gR_no0 hc']
        constructor
        · intro h; cases h
        · rintro ⟨j, hj, m1, m2⟩
          obtain ⟨b, e, _⟩ := (means_one hc _).1 m2
          simp at e
      | succ k =>
        have hk' : k < n.length := hk
        rw [gR_noS hc', Bool.and_eq_true, Bool.or_eq_true, beq_iff_eq, beq_iff_eq, List.getElem?_eq_getElem hi', List.getElem?_eq_getElem hk', ih k (by omega)]
        simp only [Option.some.injEq]
        constructor
        · rintro ⟨hb, m⟩
          refine ⟨k, by rw [hlen]; omega, ?_, ?_⟩
          · rw [List.take_take, Nat.min_eq_left (by omega)]
            exact m
          · rw [gtake_succ hk', List.drop_append_of_le_length (by rw [List.length_take]; omega), List.drop_of_length_le (by rw [List.length_take]; omega)]
            exact (means_one hc _).2 ⟨n[k], rfl, hb⟩
        · rintro ⟨j, hj, m1, m2⟩
          obtain ⟨b, e, hb⟩ := (means_one hc _).1 m2
          have hl := congrArg List.length e
          rw [List.length_drop, hlen] at hl
          simp at hl
          have hjk : j = k := by omega
          subst hjk
          rw [gtake_succ hk', List.drop_append_of_le_length (by rw [List.length_take]; omega), List.drop_of_length_le (by rw [List.length_take]; omega)] at e
          simp at e
          rw [List.take_take, Nat.min_eq_left (by omega)] at m1
          exact ⟨by rw [e]; exact hb, m1⟩
theorem match_means (g n : Gs) : matchP g n = true ↔ Means g n := by
  unfold matchP
  rw [gR_means g n _ _ (Nat.le_refl _) (Nat.le_refl _), List.take_length, List.take_length]

end Go.Proofs.YtnhpnmilgcjeaaaDoor
