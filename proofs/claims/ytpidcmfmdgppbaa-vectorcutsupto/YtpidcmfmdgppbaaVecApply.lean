import Derived.Test.YtpidcmfmdgppbaaVecOps
/- Package vector: Apply. -/
namespace Go.Proofs.Ytpidcmfmdgppbaa
open Go.RowKit
set_option linter.unusedVariables false

/-- The length that the lists 0 .. j have together, where they go together. -/
def shp (l : Nat → Nat) : Nat → Option Nat
  | 0 => some (l 0)
  | j + 1 => match shp l j with
    | none => none
    | some n => if l (j + 1) = n then some n else if l (j + 1) = 0 ∨ n = 0 then none else if n = 1 then some (l (j + 1)) else if l (j + 1) = 1 then some n else none
theorem shp_succ {l : Nat → Nat} {j n : Nat} (h : shp l j = some n) : shp l (j + 1) = if l (j + 1) = n then some n else if l (j + 1) = 0 ∨ n = 0 then none else if n = 1 then some (l (j + 1)) else if l (j + 1) = 1 then some n else none := by
  show (match shp l j with | none => none | some n => _) = _
  rw [h]
theorem shp_none {l : Nat → Nat} {j : Nat} (h : shp l j = none) : ∀ M, j ≤ M → shp l M = none := by
  intro M
  induction M with
  | zero => intro hj; have : j = 0 := by omega
            subst this; exact h
  | succ M ih =>
    intro hj
    rcases Nat.lt_or_ge M j with c | c
    · have : j = M + 1 := by omega
      subst this; exact h
    · show (match shp l M with | none => none | some n => _) = _
      rw [ih c]
theorem shp_le {l : Nat → Nat} {N : Nat} (hl : ∀ i, l i ≤ N) : ∀ {M n : Nat}, shp l M = some n → n ≤ N := by
  intro M
  induction M with
  | zero => intro n h; cases h; exact hl 0
  | succ M ih =>
    intro n h
    cases e : shp l M with
    | none => rw [shp_none e (M + 1) (by omega)] at h; cases h
    | some k =>
      rw [shp_succ e] at h
      have := ih e
      have := hl (M + 1)
      repeat' split at h
      all_goals cases h
      all_goals omega
/-- Each list has that length, or the length 1. -/
theorem shp_each {l : Nat → Nat} : ∀ {M n : Nat}, shp l M = some n → ∀ i, i ≤ M → l i = n ∨ (l i = 1 ∧ n ≠ 0) := by
  intro M
  induction M with
  | zero => intro n h i hi; cases h; have : i = 0 := by omega
            subst this; exact .inl rfl
  | succ M ih =>
    intro n h i hi
    cases e : shp l M with
    | none => rw [shp_none e (M + 1) (by omega)] at h; cases h
    | some k =>
      rw [shp_succ e] at h
      have hi' : i ≤ M ∨ i = M + 1 := by omega
      split at h
      · cases h
        rcases hi' with c | c
        · exact ih e i c
        · subst c; left; assumption
      · split at h
        · cases h
        · split at h
          · cases h
            rcases hi' with c | c
            · have := ih e i c; omega
            · subst c; exact .inl rfl
          · split at h
            · cases h
              rcases hi' with c | c
              · exact ih e i c
              · subst c; right; omega
            · cases h

set_option maxHeartbeats 2000000 in
theorem shape_any (b o M cq : Nat) (P : Nat → Option Addr) (l c : Nat → Nat) (hM : M ≤ 1048576) (hl : ∀ i, l i ≤ 1048576) (hc : M + 1 ≤ cq) (w : World) (hh : ∀ i, i < M + 1 → w.cell? ⟨b, o + i, none⟩ = some (.slice (P i) (l i) (c i))) :
    Calls Try.prog 39 #[.slice (some ⟨b, o, none⟩) (M + 1) cq] w fun e w' => e = .returned (.tuple #[.int .i64 ((shp l M).getD 0 : Nat), .bool (shp l M).isSome]) ∧ w' = w := by
  have h0 := hh 0 (by omega)
  rw [Nat.add_zero] at h0
  have i1 : (1 : Int) ≤ ((M + 1 : Nat) : Int) := by omega
  rcases Nat.eq_zero_or_pos M with hM0 | hM0
  · subst hM0
    have HS : Hid ((shp l 0).getD 0 = l 0 ∧ (shp l 0).isSome = true) := ⟨rfl, rfl⟩
    clear hh hl
    go_enter Try.func39, Try.ntmps39
    go_wp2
    all_goals (refine wp_loop_rounds 1 ?_; rw [rounds_succ]; go_wp2; go_returns; exact ⟨rfl, rfl⟩)
  · have hq : ¬ (cq = 1) := by omega
    have hq2 : 1 < cq := by omega
    have HH : Hid ((∀ i, i < M + 1 → w.cell? ⟨b, o + i, none⟩ = some (.slice (P i) (l i) (c i))) ∧ ∀ i, l i ≤ 1048576) := ⟨hh, hl⟩
    clear hh hl
    go_enter Try.func39, Try.ntmps39
    go_wp2
    go_loopw [4, 14] (fun nv iv wr => wr = w ∧ ∃ j n : Nat, j ≤ M ∧ iv = .int .i64 j ∧ nv = .int .i64 n ∧ n ≤ 1048576 ∧ Hid (shp l j = some n)) (fun _ iv _ => M - (intOf iv).toNat)
    case atStart => exact ⟨rfl, 0, l 0, Nat.zero_le _, rfl, rfl, HH.out.2 0, rfl⟩
    case round =>
      obtain ⟨rfl, j, n, hj, rfl, rfl, hn, hs⟩ := hrel
      by_cases hlt : j < M
      · have h1 : wr.cell? ⟨b, o + 1 + j, none⟩ = some (.slice (P (j + 1)) (l (j + 1)) (c (j + 1))) := by have := HH.out.1 (j + 1) (by omega); rw [show o + (j + 1) = o + 1 + j by omega] at this; exact this
        have i2 : (0 : Int) ≤ (j : Int) := by omega
        have i3 : (j : Int) < (M : Int) := by omega
        have hl1 := HH.out.2 (j + 1)
        obtain ⟨L, hL⟩ : ∃ L, L = l (j + 1) := ⟨_, rfl⟩
        have HSS : Hid (shp l (j + 1) = if L = n then some n else if L = 0 ∨ n = 0 then none else if n = 1 then some L else if L = 1 then some n else none) := by subst hL; exact shp_succ hs.out
        rw [← hL] at h1 hl1
        clear hL
        by_cases c1 : L = n
        · subst c1
          have HS1 : Hid (shp l (j + 1) = some L) := by have := HSS.out; rw [if_pos rfl] at this; exact this
          clear HSS hs
          go_wp2
          go_roundw
          case rel => exact ⟨by first | rfl | trivial, j + 1, L, by omega, by go_num, rfl, hn, HS1⟩
          case measure => simp [intOf]; omega
        · have c1' : ¬ ((L : Int) = (n : Int)) := by omega
          by_cases c2 : L = 0 ∨ n = 0
          · have HS1 : Hid (shp l M = none) := by have := HSS.out; rw [if_neg c1, if_pos c2] at this; exact shp_none this M (by omega)
            clear HSS hs
            rcases c2 with c2 | c2
            · subst c2
              go_wp2
              go_returns
              exact ⟨by rw [HS1.out]; rfl, rfl⟩
            · subst c2
              have c3 : ¬ ((L : Int) = 0) := by omega
              go_wp2
              go_returns
              exact ⟨by rw [HS1.out]; rfl, rfl⟩
          · have c3 : ¬ ((L : Int) = 0) := by omega
            have c4 : ¬ ((n : Int) = 0) := by omega
            by_cases c5 : n = 1
            · have HS1 : Hid (shp l (j + 1) = some L) := by have := HSS.out; rw [if_neg c1, if_neg c2, if_pos c5] at this; exact this
              clear HSS hs
              subst c5
              go_wp2
              go_roundw
              case rel => exact ⟨by first | rfl | trivial, j + 1, L, by omega, by go_num, rfl, hl1, HS1⟩
              case measure => simp [intOf]; omega
            · have c6 : ¬ ((n : Int) = 1) := by omega
              by_cases c7 : L = 1
              · have HS1 : Hid (shp l (j + 1) = some n) := by have := HSS.out; rw [if_neg c1, if_neg c2, if_neg c5, if_pos c7] at this; exact this
                clear HSS hs
                subst c7
                go_wp2
                go_roundw
                case rel => exact ⟨by first | rfl | trivial, j + 1, n, by omega, by go_num, rfl, hn, HS1⟩
                case measure => simp [intOf]; omega
              · have HS1 : Hid (shp l M = none) := by have := HSS.out; rw [if_neg c1, if_neg c2, if_neg c5, if_neg c7] at this; exact shp_none this M (by omega)
                have c8 : ¬ ((L : Int) = 1) := by omega
                have c9 : ((L : Int) != 1) = true := by simp [c8]
                clear HSS hs
                go_wp2
                all_goals first
                  | (have hq : ((L : Int) != 1) = false := by assumption
                     rw [c9] at hq; cases hq)
                  | (go_returns; exact ⟨by rw [HS1.out]; rfl, rfl⟩)
      · have : j = M := by omega
        subst this
        go_wp2
        go_returns
        exact ⟨by rw [hs.out]; rfl, rfl⟩

end Go.Proofs.Ytpidcmfmdgppbaa
