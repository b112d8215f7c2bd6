import Derived.Test.YtpidjmgifglmiabTreeHalf
/- sure. -/
namespace Go.Proofs.Ytpidjmgifglmiab
open Go.RowKit
set_option linter.unusedVariables false
set_option linter.unusedSimpArgs false

/-- What sure keeps while it asks. -/
def Sre (n bad l : Nat) (p : Option Addr) (c : Nat) (v : World) : Prop :=
  (v.cell? ⟨n, 2, none⟩ = some (.int .u32 1056964608) ∧ v.cell? ⟨n, 6, none⟩ = some (.int .i64 12) ∧ v.cell? ⟨l, 1, none⟩ = some (.string ⟨#[115, 99, 97, 108, 101]⟩)
  ∧ v.cell? ⟨bad, 0, none⟩ = some (.int .i64 1) ∧ v.cell? ⟨bad, 1, none⟩ = some (.string ⟨#[67, 104, 97, 105, 110]⟩) ∧ v.cell? ⟨bad, 2, none⟩ = some (.int .u32 0) ∧ v.cell? ⟨bad, 3, none⟩ = some (.int .i64 0) ∧ v.cell? ⟨bad, 4, none⟩ = some (.string ⟨#[]⟩) ∧ v.cell? ⟨bad, 5, none⟩ = some (.slice p 2 c) ∧ v.cell? ⟨bad, 6, none⟩ = some (.int .i64 0))
  ∧ Kids v anyH (.slice p 2 c) badT.args
theorem Sre.below {n bad l : Nat} {p : Option Addr} {c : Nat} {v v' : World} (h : Sre n bad l p c v) (k : Below v.heap.size v v') : Sre n bad l p c v' := by
  obtain ⟨⟨h0, h1, h2, h3, h4, h5, h6, h7, h8, h9⟩, hk⟩ := h
  exact ⟨⟨(k.cell (mcell_lt h0)).trans h0, (k.cell (mcell_lt h1)).trans h1, (k.cell (mcell_lt h2)).trans h2, (k.cell (mcell_lt h3)).trans h3, (k.cell (mcell_lt h4)).trans h4, (k.cell (mcell_lt h5)).trans h5, (k.cell (mcell_lt h6)).trans h6, (k.cell (mcell_lt h7)).trans h7, (k.cell (mcell_lt h8)).trans h8, (k.cell (mcell_lt h9)).trans h9⟩, hk.below k⟩

theorem find_half (v : World) (p : Option Addr) (c : Nat) (hk : Kids v anyH (.slice p 2 c) halfT.args) (q : Nat) (hq : v.heap[q]? = some (.cells #[.int .i64 0, .int .i64 0] 3)) :
    Calls Try.prog 15 #[.agg #[.int .i64 1, .string ⟨#[99, 104, 97, 105, 110]⟩, .int .u32 0, .int .i64 0, .string ⟨#[]⟩, .slice p 2 c, .int .i64 0], .slice (some ⟨q, 0, none⟩) 2 2] v fun e v' => ∃ p n c, e = .returned (.tuple #[.agg #[.int .i64 2, .string ⟨#[]⟩, .int .u32 1056964608, .int .i64 0, .string ⟨#[]⟩, .slice p n c, .int .i64 12], .bool true]) ∧ Below v.heap.size v v' := by
  have hp : Path v (.slice (some ⟨q, 0, none⟩) 2 2) [0, 0] := ⟨some ⟨q, 0, none⟩, 2, rfl, .inr ⟨q, 0, rfl, fun i hi => by
    have hi2 : i < 2 := hi
    match i, hi2 with
    | 0, _ => exact cell_heap hq 0
    | 1, _ => exact cell_heap hq 1⟩⟩
  have := find_any halfT (.slice p 2 c) _ [0, 0] v (by decide) (by rw [half_cnt]; decide) half_ok hk hp
  rw [half_find] at this
  exact this.mono fun e v' ⟨p, n, c, he, _, hb⟩ => ⟨p, n, c, he, hb⟩
theorem names_half (v : World) (p : Option Addr) (c : Nat) (hk : Kids v anyH (.slice p 2 c) halfT.args) :
    Calls Try.prog 8 #[.agg #[.int .i64 1, .string ⟨#[99, 104, 97, 105, 110]⟩, .int .u32 0, .int .i64 0, .string ⟨#[]⟩, .slice p 2 c, .int .i64 0]] v fun e v' => ∃ g c, e = .returned (.slice (some ⟨g, 0, none⟩) 3 c) ∧ v'.cell? ⟨g, 1, none⟩ = some (.string ⟨#[115, 99, 97, 108, 101]⟩) ∧ Below v.heap.size v v' := by
  have := names_any halfT (.slice p 2 c) v (by rw [half_cnt]; decide) half_ok hk
  rw [half_names] at this
  refine this.mono fun e v' ⟨x, he, ho, _, hb⟩ => ?_
  obtain ⟨hl, ho⟩ := ho
  rcases ho with ⟨_, hn⟩ | ⟨g, cap, cur, hv, _, hg, _, _, _, htk⟩
  · simp at hn
  · subst hv
    refine ⟨g, cap, he, ?_, hb⟩
    have h1 : (strs [chainS, scaleS, identS])[1]? = some (.string scaleS) := rfl
    rw [← htk, List.getElem?_take_of_lt (by decide)] at h1
    rw [cell_heap hg]
    have h2 : cur[1]? = some (.string scaleS) := by simpa using h1
    exact h2

theorem strip_half (v : World) (p : Option Addr) (c : Nat) (hk : Kids v anyH (.slice p 2 c) halfT.args) :
    Calls Try.prog 7 #[.agg #[.int .i64 1, .string ⟨#[99, 104, 97, 105, 110]⟩, .int .u32 0, .int .i64 0, .string ⟨#[]⟩, .slice p 2 c, .int .i64 0]] v fun e v' => ∃ b c, e = .returned (.agg #[.int .i64 1, .string ⟨#[99, 104, 97, 105, 110]⟩, .int .u32 0, .int .i64 0, .string ⟨#[]⟩, .slice (some ⟨b, 0, none⟩) 2 c, .int .i64 0]) ∧ v'.cell? ⟨b, 6, none⟩ = some (.int .i64 0) ∧ Below v.heap.size v v' := by
  refine (strip_any halfT (.slice p 2 c) v (by rw [half_cnt]; decide) half_ok hk).mono fun e v' ⟨p', c', he, hk', hb⟩ => ?_
  obtain ⟨p2, c2, hv, hq, hkk⟩ := hk'
  rw [stripL_len] at hv hq
  simp only [Value.slice.injEq] at hv
  obtain ⟨rfl, -, rfl⟩ := hv
  rcases hq with ⟨_, h0, _⟩ | ⟨b, cs, rfl, _, _, _, _, _⟩
  · simp [halfT] at h0
  · refine ⟨b, c', he, ?_, hb⟩
    rcases hkk with hkk | ⟨b', o', hp, hkk⟩
    · have := congrArg List.length hkk
      rw [stripL_len] at this
      simp [halfT] at this
    · simp only [Option.some.injEq, Addr.mk.injEq] at hp
      obtain ⟨rfl, rfl, -⟩ := hp
      have e2 : stripL halfT.args = [strip scaleT, strip identT] := by
        show stripL [scaleT, identT] = _
        rw [stripL_cons, stripL_cons, stripL_nil]
      rw [e2] at hkk
      exact (KA_cons.1 hkk).1.2.2.2.2.2.1

/-- What sure asks, of a world in which all lies. -/
structure Asks (V : World) (nb bb gl : Nat) (ph : Option Addr) (ch : Nat) : Prop where
  half : ∀ v, Below V.heap.size V v → Calls Try.prog 16 #[] v fun e v' => ∃ p c, e = .returned (.agg #[.int .i64 1, .string ⟨#[99, 104, 97, 105, 110]⟩, .int .u32 0, .int .i64 0, .string ⟨#[]⟩, .slice p 2 c, .int .i64 0]) ∧ Kids v' anyH (.slice p 2 c) halfT.args ∧ (Sre nb bb gl ph ch v' ∧ Below V.heap.size V v')
  check : ∀ v p c, Sre nb bb gl ph ch v ∧ Below V.heap.size V v → Kids v anyH (.slice p 2 c) halfT.args → Calls Try.prog 17 #[.agg #[.int .i64 1, .string ⟨#[99, 104, 97, 105, 110]⟩, .int .u32 0, .int .i64 0, .string ⟨#[]⟩, .slice p 2 c, .int .i64 0]] v fun e v' => e = .returned (.int .i64 0) ∧ (Sre nb bb gl ph ch v' ∧ Below V.heap.size V v')
  bad : ∀ v, Sre nb bb gl ph ch v ∧ Below V.heap.size V v → Calls Try.prog 17 #[.agg #[.int .i64 1, .string ⟨#[67, 104, 97, 105, 110]⟩, .int .u32 0, .int .i64 0, .string ⟨#[]⟩, .slice ph 2 ch, .int .i64 0]] v fun e v' => e = .returned (.int .i64 70) ∧ (Sre nb bb gl ph ch v' ∧ Below V.heap.size V v')
  count : ∀ v p c, Sre nb bb gl ph ch v ∧ Below V.heap.size V v → Kids v anyH (.slice p 2 c) halfT.args → Calls Try.prog 18 #[.agg #[.int .i64 1, .string ⟨#[99, 104, 97, 105, 110]⟩, .int .u32 0, .int .i64 0, .string ⟨#[]⟩, .slice p 2 c, .int .i64 0]] v fun e v' => e = .returned (.int .i64 4) ∧ (Sre nb bb gl ph ch v' ∧ Below V.heap.size V v')
  depth : ∀ v p c, Sre nb bb gl ph ch v ∧ Below V.heap.size V v → Kids v anyH (.slice p 2 c) halfT.args → Calls Try.prog 19 #[.agg #[.int .i64 1, .string ⟨#[99, 104, 97, 105, 110]⟩, .int .u32 0, .int .i64 0, .string ⟨#[]⟩, .slice p 2 c, .int .i64 0]] v fun e v' => e = .returned (.int .i64 3) ∧ (Sre nb bb gl ph ch v' ∧ Below V.heap.size V v')
  equal : ∀ v p c, Sre nb bb gl ph ch v ∧ Below V.heap.size V v → Kids v anyH (.slice p 2 c) halfT.args → Calls Try.prog 20 #[.agg #[.int .i64 1, .string ⟨#[99, 104, 97, 105, 110]⟩, .int .u32 0, .int .i64 0, .string ⟨#[]⟩, .slice p 2 c, .int .i64 0], .agg #[.int .i64 1, .string ⟨#[67, 104, 97, 105, 110]⟩, .int .u32 0, .int .i64 0, .string ⟨#[]⟩, .slice ph 2 ch, .int .i64 0]] v fun e v' => e = .returned (.bool false) ∧ (Sre nb bb gl ph ch v' ∧ Below V.heap.size V v')
  strip : ∀ v p c, Sre nb bb gl ph ch v ∧ Below V.heap.size V v → Kids v anyH (.slice p 2 c) halfT.args → Calls Try.prog 7 #[.agg #[.int .i64 1, .string ⟨#[99, 104, 97, 105, 110]⟩, .int .u32 0, .int .i64 0, .string ⟨#[]⟩, .slice p 2 c, .int .i64 0]] v fun e v' => ∃ b c, e = .returned (.agg #[.int .i64 1, .string ⟨#[99, 104, 97, 105, 110]⟩, .int .u32 0, .int .i64 0, .string ⟨#[]⟩, .slice (some ⟨b, 0, none⟩) 2 c, .int .i64 0]) ∧ v'.cell? ⟨b, 6, none⟩ = some (.int .i64 0) ∧ (Sre nb bb gl ph ch v' ∧ Below V.heap.size V v')
theorem asks_of {V : World} {nb bb gl : Nat} {ph : Option Addr} {ch : Nat} (hS : Sre nb bb gl ph ch V) : Asks V nb bb gl ph ch where
  half := fun v hv => (half_any v).mono fun e v' ⟨p, c, he, hk, hb⟩ => ⟨p, c, he, hk, hS.below (bel hv hb), bel hv hb⟩
  check := fun v p c hs hk => by
    have := check_any halfT (.slice p 2 c) v (by rw [half_cnt]; decide) half_ok hk
    rw [half_check] at this
    exact this.mono fun e v' ⟨he, hb⟩ => ⟨he, hs.1.below hb, bel hs.2 hb⟩
  bad := fun v hs => by
    have := check_any badT (.slice ph 2 ch) v (by rw [bad_cnt]; decide) bad_ok hs.1.2
    rw [bad_check] at this
    exact this.mono fun e v' ⟨he, hb⟩ => ⟨he, hs.1.below hb, bel hs.2 hb⟩
  count := fun v p c hs hk => by
    have := count_any halfT (.slice p 2 c) v (by rw [half_cnt]; decide) half_ok hk
    rw [half_cnt] at this
    exact this.mono fun e v' ⟨he, hb⟩ => ⟨he, hs.1.below hb, bel hs.2 hb⟩
  depth := fun v p c hs hk => by
    have := depth_any halfT (.slice p 2 c) v (by rw [half_cnt]; decide) half_ok hk
    rw [half_dep] at this
    exact this.mono fun e v' ⟨he, hb⟩ => ⟨he, hs.1.below hb, bel hs.2 hb⟩
  equal := fun v p c hs hk => by
    have := equal_to (dep halfT) halfT badT p ph c ch v (Nat.le_refl _) (by rw [half_cnt]; decide) (by rw [bad_cnt]; decide) hk hs.1.2
    rw [half_eq] at this
    exact this.mono fun e v' ⟨he, hb⟩ => ⟨he, hs.1.below hb, bel hs.2 hb⟩
  strip := fun v p c hs hk => (strip_half v p c hk).mono fun e v' ⟨b, c, he, hx, hb⟩ => ⟨b, c, he, hx, hs.1.below hb, bel hs.2 hb⟩

end Go.Proofs.Ytpidjmgifglmiab
