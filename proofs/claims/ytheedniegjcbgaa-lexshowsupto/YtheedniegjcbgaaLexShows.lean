import Derived.Test.YtheedniegjcbgaaLexRefShow
/- LexShows. -/
namespace Go.Proofs.Ytheedniegjcbgaa
open Go.RowKit
set_option linter.unusedVariables false
set_option linter.unusedSimpArgs false

set_option maxRecDepth 100000 in
set_option maxHeartbeats 1000000 in
theorem same_g (u v : Value) (l : List Tok) (α : Nat → Int) (hn : l.length ≤ 1048577) (w : World) (hu : RdG w u l α) (hv : RdG w v l α) :
    Calls Try.prog 11 #[u, v] w fun e w' => e = .returned (.bool true) ∧ Below w.heap.size w w' := by
  obtain ⟨p, c, rfl, hu⟩ := hu
  obtain ⟨q, d, rfl, hv⟩ := hv
  obtain ⟨n, hln⟩ : ∃ n, l.length = n := ⟨_, rfl⟩
  rw [hln] at hn ⊢
  have HN : Hid (l.length = n) := hln
  clear hln
  go_enter Try.func11, Try.ntmps11
  go_wp2
  go_loopw [5] (fun iv wr => Below w.heap.size w wr ∧ ∃ i : Nat, i ≤ n ∧ iv = .int .i64 i) (fun iv _ => n - (intOf iv).toNat)
  case atStart => exact ⟨bel0 w, 0, Nat.zero_le _, rfl⟩
  case round =>
    obtain ⟨hb, i, hi, rfl⟩ := hrel
    by_cases hlt : i < n
    · have hll : i < l.length := by rw [HN.out]; exact hlt
      rcases hu with hu | ⟨b, o, rfl, hu⟩
      · rw [hu] at hll; exact absurd hll (Nat.not_lt_zero _)
      rcases hv with hv | ⟨b', o', rfl, hv⟩
      · rw [hv] at hll; exact absurd hll (Nat.not_lt_zero _)
      obtain ⟨x0, x1, x2⟩ := (hu i hll).below hb
      obtain ⟨y0, y1, y2⟩ := (hv i hll).below hb
      obtain ⟨K, X, A0⟩ := l[i]
      obtain ⟨A, hA⟩ : ∃ A, α i = A := ⟨_, rfl⟩
      rw [hA] at x2 y2
      clear hA
      have i1 : (0 : Int) ≤ (i : Int) := by omega
      have i2 : (i : Int) < (n : Int) := by omega
      clear hu hv
      go_wp2
      go_quiet (fail)
      go_wp2
      go_roundw
      case rel => exact ⟨bel hb (bel_dn _ _), i + 1, by omega, by go_num⟩
      case measure => simp [intOf]; omega
    · have : i = n := by omega
      subst this
      clear hu hv
      go_wp2
      go_ret
      exact ⟨rfl, hb⟩

/-- A token's cells, its place whatever number. -/
def cellsG (T : List Tok) (α : Nat → Int) : List Value := (List.range T.length).flatMap fun i => [.int .i64 ((T.getD i ⟨0, [], 0⟩).kind), .string ⟨((T.getD i ⟨0, [], 0⟩).text).toArray⟩, .int .i64 (α i)]
theorem flat3 (f : Nat → List Value) (hf : ∀ i, (f i).length = 3) : ∀ n i j, i < n → j < 3 → ((List.range n).flatMap f)[i * 3 + j]? = (f i)[j]? := by
  intro n
  induction n with
  | zero => intro i j h; omega
  | succ n ih =>
    intro i j hi hj
    have hlen : ∀ m, ((List.range m).flatMap f).length = m * 3 := fun m => by
      induction m with
      | zero => rfl
      | succ m ih => rw [List.range_succ, List.flatMap_append, List.length_append, ih]; simp [hf]; omega
    rw [List.range_succ, List.flatMap_append]
    by_cases h : i < n
    · rw [List.getElem?_append_left (by rw [hlen]; omega)]
      exact ih i j h hj
    · have : i = n := by omega
      subst this
      rw [List.getElem?_append_right (by rw [hlen]; omega), hlen]
      simp [Nat.add_sub_cancel_left]
theorem flat3_len (f : Nat → List Value) (hf : ∀ i, (f i).length = 3) (m : Nat) : ((List.range m).flatMap f).length = m * 3 := by
  induction m with
  | zero => rfl
  | succ m ih => rw [List.range_succ, List.flatMap_append, List.length_append, ih]; simp [hf]; omega
theorem getD_at (T : List Tok) (i : Nat) (h : i < T.length) : T.getD i ⟨0, [], 0⟩ = T[i] := by simp [List.getD, h]
theorem cellsG_len (T : List Tok) (α : Nat → Int) : (cellsG T α).length = T.length * 3 := flat3_len _ (fun _ => rfl) _
theorem cellsG_at (T : List Tok) (α : Nat → Int) (i j : Nat) (hi : i < T.length) (hj : j < 3) : (cellsG T α)[i * 3 + j]? = [Value.int .i64 T[i].kind, .string ⟨T[i].text.toArray⟩, .int .i64 (α i)][j]? := by
  unfold cellsG
  rw [flat3 _ (fun _ => rfl) _ _ _ hi hj, getD_at T i hi]
theorem cellsG_one (T : List Tok) (α : Nat → Int) : ∀ u ∈ cellsG T α, u.oneCell' = true := by
  intro u hu
  unfold cellsG at hu
  obtain ⟨i, _, h⟩ := List.mem_flatMap.1 hu
  simp at h
  rcases h with rfl | rfl | rfl <;> rfl
theorem rowG_cells {w : World} {b o : Nat} {T : List Tok} {α : Nat → Int} (h : ∀ i (h : i < T.length), AtG w b (o + i * 3) T[i].kind T[i].text (α i)) : ∀ j u, (cellsG T α)[j]? = some u → w.cell? ((⟨b, o, none⟩ : Addr).add j) = some u := by
  intro j u hu
  have hj : j < T.length * 3 := by
    have := (List.getElem?_eq_some_iff.1 hu).1
    rw [cellsG_len] at this
    exact this
  have e : j = j / 3 * 3 + j % 3 := by omega
  have hi : j / 3 < T.length := by omega
  have hm : j % 3 < 3 := by omega
  rw [e, cellsG_at T α _ _ hi hm] at hu
  obtain ⟨h0, h1, h2⟩ := h (j / 3) hi
  rw [Addr.add_lit]
  have hc : j % 3 = 0 ∨ j % 3 = 1 ∨ j % 3 = 2 := by omega
  rcases hc with hc | hc | hc
  · rw [hc] at hu
    simp at hu
    subst hu
    rw [show o + j = o + j / 3 * 3 by omega]
    exact h0
  · rw [hc] at hu
    simp at hu
    subst hu
    rw [show o + j = o + j / 3 * 3 + 1 by omega]
    exact h1
  · rw [hc] at hu
    simp at hu
    subst hu
    rw [show o + j = o + j / 3 * 3 + 2 by omega]
    exact h2
theorem ownG_rd {w : World} {B : Nat} {v : Value} {T : List Tok} {α : Nat → Int} (h : w.ownsRow B 34 3 v T.length (cellsG T α)) : RdG w v T α := by
  obtain ⟨hl, h⟩ := h
  rcases h with ⟨hv, hn⟩ | ⟨g, cap, cur, hv, hB, hg, hc1, hc2, hsz, htk⟩
  · have : T = [] := List.eq_nil_of_length_eq_zero hn
    subst this
    exact ⟨none, 0, hv, .inl rfl⟩
  · refine ⟨some ⟨g, 0, none⟩, cap, hv, .inr ⟨g, 0, rfl, fun i hi => ?_⟩⟩
    have key : ∀ j, j < 3 → w.cell? ⟨g, 0 + i * 3 + j, none⟩ = [Value.int .i64 T[i].kind, .string ⟨T[i].text.toArray⟩, .int .i64 (α i)][j]? := fun j hj => by
      rw [← cellsG_at T α i j hi hj, ← htk, List.getElem?_take_of_lt (by omega)]
      simp [World.cell?, hg]
    exact ⟨key 0 (by decide), key 1 (by decide), key 2 (by decide)⟩

set_option maxRecDepth 100000 in
set_option maxHeartbeats 2000000 in
theorem walk_LexShows (p : Option Addr) (c : Nat) (T : List Tok) (α : Nat → Int) (hN : T.length ≤ 1048576) (hM : ∀ t ∈ T, t.text.length ≤ 1048576) (hz : p = none → T.length = 0 ∧ c = 0) (w : World) (hr : RowG w p T α) :
    Calls Try.prog 4 #[.slice p T.length c] w fun e w' => e = .returned (.bool true) ∧ Below w.heap.size w w' := by
  obtain ⟨i0, hi0, hz0, hz1, hz2⟩ := info_parts info_Token
  have HR : Hid (RdG w (.slice p T.length c) T α) := ⟨p, c, rfl, hr⟩
  have HL : Hid (T.length ≤ 1048577) := Nat.le_trans hN (by decide)
  have HM : Hid (∀ t ∈ T, t.text.length ≤ 1048576) := hM
  obtain ⟨n, hn⟩ : ∃ n, T.length = n := ⟨_, rfl⟩
  have HN : Hid (T.length = n) := hn
  have src : (p = none ∧ n = 0 ∧ c = 0) ∨ ∃ a, p = some a ∧ ∀ j u, (cellsG T α)[j]? = some u → w.cell? (a.add j) = some u := by
    cases hp : p with
    | none => exact .inl ⟨rfl, by rw [← hn]; exact (hz hp).1, (hz hp).2⟩
    | some a =>
      right
      refine ⟨a, rfl, ?_⟩
      rcases hr with h | ⟨b, o, hpb, h⟩
      · intro j u hu
        have hc : cellsG T α = [] := by rw [h]; rfl
        rw [hc] at hu
        cases hu
      · rw [hp] at hpb
        cases hpb
        exact rowG_cells h
  rw [hn] at hN HR ⊢
  clear hM hz hr hn
  rcases src with ⟨rfl, rfl, rfl⟩ | ⟨a, rfl, hcs⟩
  · have hT : T = [] := List.eq_nil_of_length_eq_zero HN.out
    have HR0 : Hid (∀ v : World, RdG v (.slice none 0 0) T α) := fun v => ⟨none, 0, by rw [hT]; rfl, .inl hT⟩
    go_enter Try.func4, Try.ntmps4
    go_wp2_with (first
      | (go_at_call 13; refine (show_any _ T α HL.out HM.out _ (HR0.out _)).mono ?_; rintro e w2 ⟨rfl, hb2⟩)
      | (go_at_call 14; refine (rshow_any _ T α HL.out HM.out _ (HR0.out _)).mono ?_; rintro e w3 ⟨rfl, hb3⟩)
      | (go_at_call 11; refine (same_g _ _ T α HL.out _ (HR0.out _) (HR0.out _)).mono ?_; rintro e w4 ⟨rfl, hb4⟩)
      | (go_at_call 12; refine (works_any _).mono ?_; rintro e w5 ⟨rfl, hb5⟩))
    go_ret
    exact ⟨rfl, bel (bel (bel hb2 hb3) hb4) hb5⟩
  · have HC : Hid (∀ j u, (cellsG T α)[j]? = some u → w.cell? (a.add j) = some u) := hcs
    clear hcs
    go_enter Try.func4, Try.ntmps4
    go_wp2_with (first
      | (at_builtin; refine wpList_append_own_at _ rfl _ _ 22 rfl w.heap.size 34 i0 _ 3 32 Try.underlying22 hi0 hz0 hz1 hz2 rfl (by decide) (.slice none 0 0) 0 [] rfl (World.ownsRow_nil _ _ _ _) a n c (cellsG T α) rfl (by rw [cellsG_len, HN.out]) HC.out (cellsG_one T α) (by unfold maxLen; omega) (by omega) (Nat.le_refl _) ?_; intro v1 w1 hown1 hgrow1 _ _; have R1 : Hid (RdG w1 v1 T α) := (by rw [Nat.zero_add, List.nil_append, ← HN.out] at hown1; exact ownG_rd hown1); have hb1 : Below w.heap.size w w1 := Below.grown (bel0 w) hgrow1 (Nat.le_refl _) (fun k e => by cases e); have R0 : Hid (RdG w1 (.slice (some a) n c) T α) := HR.out.below hb1; clear hown1 hgrow1)
      | (go_at_call 13; refine (show_any v1 T α HL.out HM.out _ R1.out).mono ?_; rintro e w2 ⟨rfl, hb2⟩; have R2 : Hid (RdG w2 v1 T α ∧ RdG w2 (.slice (some a) n c) T α) := ⟨R1.out.below hb2, R0.out.below hb2⟩)
      | (go_at_call 14; refine (rshow_any _ T α HL.out HM.out _ R2.out.2).mono ?_; rintro e w3 ⟨rfl, hb3⟩; have R3 : Hid (RdG w3 v1 T α ∧ RdG w3 (.slice (some a) n c) T α) := ⟨R2.out.1.below hb3, R2.out.2.below hb3⟩)
      | (go_at_call 11; refine (same_g v1 _ T α HL.out _ R3.out.1 R3.out.2).mono ?_; rintro e w4 ⟨rfl, hb4⟩)
      | (go_at_call 12; refine (works_any _).mono ?_; rintro e w5 ⟨rfl, hb5⟩))
    go_ret
    exact ⟨rfl, bel (bel (bel (bel hb1 hb2) hb3) hb4) hb5⟩

end Go.Proofs.Ytheedniegjcbgaa
