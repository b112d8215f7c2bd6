import Derived.Test.YtmpfoajpafglgaaDoorSignRefC
/- The reference: Line. -/
namespace Go.Proofs.YtmpfoajpafglgaaDoor
open Go.RowKit
set_option linter.unusedVariables false
set_option linter.unusedSimpArgs false

def zeroPar : Par := ⟨⟨#[]⟩, 0, 0⟩
/-- What a line tells. -/
def pvO (o : Option Par) : Value := pv (o.getD zeroPar)

theorem lineP_ne {s : Bs} (h : (wordsA [] s).length ≠ 3) : lineP s = none := by
  unfold lineP
  split
  · rename_i a k n e
    rw [e] at h
    exact absurd rfl h
  · rfl
theorem three {α : Type} {l : List α} (h : l.length = 3) : ∃ a b c, l = [a, b, c] := by
  match l, h with
  | [a, b, c], _ => exact ⟨a, b, c, rfl⟩
theorem lineP_eq {s : Bs} {a k n : Bs} (h : wordsA [] s = [a, k, n]) : lineP s = parL a k n := by
  unfold lineP
  rw [h]
theorem wordsA_len : ∀ (r cur : Bs), (wordsA cur r).length ≤ r.length + 1
  | [], cur => by simp [wordsA]
  | b :: t, cur => by
    unfold wordsA
    split
    · have := wordsA_len t []; simp; omega
    · have := wordsA_len t (cur ++ [b]); simp; omega
theorem wordsA_sub : ∀ (r cur : Bs) (x : Bs), x ∈ wordsA cur r → x.length ≤ cur.length + r.length
  | [], cur, x, h => by simp [wordsA] at h; subst h; simp
  | b :: t, cur, x, h => by
    unfold wordsA at h
    split at h
    · rcases List.mem_cons.1 h with rfl | h
      · simp
      · have := wordsA_sub t [] x h; simp at this ⊢; omega
    · have := wordsA_sub t (cur ++ [b]) x h; simp at this ⊢; omega

theorem keepc {w w' : World} {a : Addr} {v : Value} (k : Below w.heap.size w w') (h : w.cell? a = some v) : w'.cell? a = some v := (k.cell (mcell_lt h)).trans h
theorem keepf {w w' : World} {a : Addr} {v : Value} (k : Below w.heap.size w w') (h : w.cell? a = some v) (f : w.frozen? a = false) : w'.frozen? a = false := (k.frozen (mcell_lt h)).trans f
theorem box3 {w w1 : World} {x y z : Value} {t : TypeId} (h : Below (w.alloc (.cells #[x, y, z] t)).heap.size (w.alloc (.cells #[x, y, z] t)) w1) :
    (w1.cell? ⟨w.heap.size, 0, none⟩ = some x ∧ w1.cell? ⟨w.heap.size, 1, none⟩ = some y ∧ w1.cell? ⟨w.heap.size, 2, none⟩ = some z) ∧ w1.frozen? ⟨w.heap.size, 0, none⟩ = false ∧ w1.frozen? ⟨w.heap.size, 1, none⟩ = false ∧ w1.frozen? ⟨w.heap.size, 2, none⟩ = false :=
  ⟨⟨(h.cell (by simp)).trans (by simp [go_sem]), (h.cell (by simp)).trans (by simp [go_sem]), (h.cell (by simp)).trans (by simp [go_sem])⟩, (h.frozen (by simp)).trans (by simp [go_sem]), (h.frozen (by simp)).trans (by simp [go_sem]), (h.frozen (by simp)).trans (by simp [go_sem])⟩

set_option maxRecDepth 100000 in
set_option maxHeartbeats 2000000 in
theorem rLine_any (s : ByteArray) (hs : s.size ≤ 65536) (w : World) :
    Calls Tryd.prog 31 #[.string s] w fun e w' => e = .returned (.tuple #[pvO (lineP (bs s)), .bool (lineP (bs s)).isSome]) ∧ Below w.heap.size w w' := by
  have KW : Hid (∀ w, Calls Tryd.prog 47 #[.string s] w fun e w' => ∃ v, e = .returned v ∧ OwnS w' w.heap.size v ((wordsA [] (bs s)).map sof) ∧ Below w.heap.size w w') := fun w => rwords_any s hs w
  have hwl := wordsA_len (bs s) []
  have hws := wordsA_sub (bs s) []
  rw [bs_length] at hwl
  by_cases h3 : (wordsA [] (bs s)).length = 3
  · obtain ⟨a, k, n, hW⟩ := three h3
    have HLP : Hid (lineP (bs s) = parL a k n) := lineP_eq hW
    have ha := hws a (by rw [hW]; simp)
    have hn := hws n (by rw [hW]; simp)
    simp only [List.length_nil, Nat.zero_add, bs_length] at ha hn
    have KL : Hid (∀ w, Calls Tryd.prog 48 #[.string (sof n)] w fun e w' => (∃ x : Int, e = .returned (.tuple #[.int .i64 x, .bool (lenP n).isSome]) ∧ ∀ m, lenP n = some m → x = m) ∧ w' = w) := fun w => by
      have := rlength_any (sof n) (by rw [← bs_length]; unfold sof; rw [bs_of]; omega) w
      rw [show bs (sof n) = n from bs_of n] at this
      exact this
    have KM : Hid (∀ (K L : Int) w, Calls Tryd.prog 28 #[.agg #[.string (sof a), .int .i64 K, .int .i64 L]] w fun e w' => e = .returned (.bool (mayP ⟨sof a, K, L⟩)) ∧ Below w.heap.size w w') := fun K L w => rMay_any ⟨sof a, K, L⟩ (by show (sof a).size ≤ _; rw [← bs_length]; unfold sof; rw [bs_of]; omega) w
    rw [hW] at KW
    clear hws hwl h3 hW
    have hk3 : k = realB ∨ k = complexB ∨ (k == realB || k == complexB) = false := by
      by_cases h1 : k = realB
      · exact .inl h1
      · by_cases h2 : k = complexB
        · exact .inr (.inl h2)
        · exact .inr (.inr (by simp [h1, h2]))
    rcases hk3 with hkk | hkk | hk
    · skip
      have e1 : ((sof k).toList == [114, 101, 97, 108]) = true := by
        rw [ByteArray.toList_eq, hkk]
        rfl
      have e2 : ((sof k).toList == [99, 111, 109, 112, 108, 101, 120]) = false := by
        rw [ByteArray.toList_eq, hkk]
        rfl
      have hpl : parL a k n = (match lenP n with | some m => if mayP ⟨sof a, 1, m⟩ then some ⟨sof a, 1, m⟩ else none | none => none) := by
        rw [hkk]
        rfl
      rw [hpl] at HLP
      clear hpl hkk
      cases hl : lenP n with
      | none =>
        rw [hl] at HLP KL
        have HF : Hid (lineP (bs s) = none) := HLP.out
        rw [HF.out]
        simp only [Option.isSome_none] at KL
        clear HLP KM hl HF
        unfold pvO pv zeroPar
        go_enter Tryd.func31, Tryd.ntmps31
        go_wp2_with (first | (go_at_call 47; refine (KW.out _).mono ?_; rintro e w1 ⟨v1, rfl, ho1, hb1⟩; obtain ⟨p1, c1, rfl, hr1⟩ := ho1.rows; obtain ⟨g, rfl, hcs⟩ : ∃ g, p1 = some ⟨g, 0, none⟩ ∧ ∀ i (h : i < (List.map sof [a, k, n]).length), w1.cell? ⟨g, i, none⟩ = some (.string (List.map sof [a, k, n])[i]) := (by rcases hr1 with h | h; exact absurd h (by simp); exact h); have s0 := hcs 0 (by simp); have s1 := hcs 1 (by simp); have s2 := hcs 2 (by simp); simp only [List.map_cons, List.getElem_cons_zero, List.getElem_cons_succ] at s0 s1 s2; obtain ⟨⟨r0, r1, r2⟩, q0, q1, q2⟩ := box3 hb1; have hg : g < w1.heap.size := mcell_lt s0; have hg2 : ¬ (g = w1.heap.size) := (by omega); have hw1 : w.heap.size < w1.heap.size := mcell_lt r0; have hw2 : ¬ (w.heap.size = w1.heap.size) := (by omega); have hsz1 := hb1.size; clear hcs hr1 ho1) | (go_at_call 48; refine (KL.out _).mono ?_; rintro e w1 ⟨⟨x, rfl, hx⟩, rfl⟩; clear hx))
        refine bodyPost_ret (by simp [results, Tryd.results31, go_sem, *]; try rfl) rfl ?_
        refine ⟨rfl, ?_⟩
        exact Below.alloc ((((bel (bel_alloc _ _) hb1).setCell (Nat.le_refl _) _).setCell (Nat.le_refl _) _).setCell (Nat.le_refl _) _) (by simp; omega) _
      | some m =>
        rw [hl] at HLP KL
        simp only [Option.isSome_some] at KL
        have HX0 : Hid (∀ x, (∀ q, some m = some q → x = q) → x = m) := fun x h => h m rfl
        have KM1 := KM.out 1 m
        have HLP2 : Hid (lineP (bs s) = if mayP ⟨sof a, 1, m⟩ then some ⟨sof a, 1, m⟩ else none) := HLP.out
        obtain ⟨M, hM⟩ : ∃ M, mayP ⟨sof a, 1, m⟩ = M := ⟨_, rfl⟩
        rw [hM] at KM1 HLP2
        have KM2 : Hid (∀ w, Calls Tryd.prog 28 #[.agg #[.string (sof a), .int .i64 1, .int .i64 m]] w fun e w' => e = .returned (.bool M) ∧ Below w.heap.size w w') := KM1
        clear HLP KM KM1 hl hM
        cases M
        · have HF : Hid (lineP (bs s) = none) := HLP2.out
          rw [HF.out]
          clear HLP2 HF
          unfold pvO pv zeroPar
          go_enter Tryd.func31, Tryd.ntmps31
          go_wp2_with (first | (go_at_call 47; refine (KW.out _).mono ?_; rintro e w1 ⟨v1, rfl, ho1, hb1⟩; obtain ⟨p1, c1, rfl, hr1⟩ := ho1.rows; obtain ⟨g, rfl, hcs⟩ : ∃ g, p1 = some ⟨g, 0, none⟩ ∧ ∀ i (h : i < (List.map sof [a, k, n]).length), w1.cell? ⟨g, i, none⟩ = some (.string (List.map sof [a, k, n])[i]) := (by rcases hr1 with h | h; exact absurd h (by simp); exact h); have s0 := hcs 0 (by simp); have s1 := hcs 1 (by simp); have s2 := hcs 2 (by simp); simp only [List.map_cons, List.getElem_cons_zero, List.getElem_cons_succ] at s0 s1 s2; obtain ⟨⟨r0, r1, r2⟩, q0, q1, q2⟩ := box3 hb1; have hg : g < w1.heap.size := mcell_lt s0; have hg2 : ¬ (g = w1.heap.size) := (by omega); have hw1 : w.heap.size < w1.heap.size := mcell_lt r0; have hw2 : ¬ (w.heap.size = w1.heap.size) := (by omega); have hsz1 := hb1.size; clear hcs hr1 ho1) | (go_at_call 48; refine (KL.out _).mono ?_; rintro e w1 ⟨⟨m, rfl, hx⟩, rfl⟩; have hx' := HX0.out m hx; subst hx'; clear hx) | (go_at_call 28; refine (KM2.out _).mono ?_; rintro e w3 ⟨rfl, hb3⟩; have hbs : Below w1.heap.size w1 w3 := bel (bel_alloc w1 _) hb3; obtain ⟨⟨t0, t1, t2⟩, -⟩ := box3 hb3; have r0' := keepc hbs r0; have r1' := keepc hbs r1; have r2' := keepc hbs r2; have q0' := keepf hbs r0 q0; have q1' := keepf hbs r1 q1; have q2' := keepf hbs r2 q2; clear hb3))
          refine bodyPost_ret (by simp [results, Tryd.results31, go_sem, *]; try rfl) rfl ?_
          refine ⟨rfl, ?_⟩
          have HB := bel (bel (bel_alloc _ _) hb1) hbs
          exact ((HB.setCell (Nat.le_refl _) _).setCell (Nat.le_refl _) _).setCell (Nat.le_refl _) _
        · have HF : Hid (lineP (bs s) = some ⟨sof a, 1, m⟩) := HLP2.out
          rw [HF.out]
          clear HLP2 HF
          unfold pvO pv
          go_enter Tryd.func31, Tryd.ntmps31
          go_wp2_with (first | (go_at_call 47; refine (KW.out _).mono ?_; rintro e w1 ⟨v1, rfl, ho1, hb1⟩; obtain ⟨p1, c1, rfl, hr1⟩ := ho1.rows; obtain ⟨g, rfl, hcs⟩ : ∃ g, p1 = some ⟨g, 0, none⟩ ∧ ∀ i (h : i < (List.map sof [a, k, n]).length), w1.cell? ⟨g, i, none⟩ = some (.string (List.map sof [a, k, n])[i]) := (by rcases hr1 with h | h; exact absurd h (by simp); exact h); have s0 := hcs 0 (by simp); have s1 := hcs 1 (by simp); have s2 := hcs 2 (by simp); simp only [List.map_cons, List.getElem_cons_zero, List.getElem_cons_succ] at s0 s1 s2; obtain ⟨⟨r0, r1, r2⟩, q0, q1, q2⟩ := box3 hb1; have hg : g < w1.heap.size := mcell_lt s0; have hg2 : ¬ (g = w1.heap.size) := (by omega); have hw1 : w.heap.size < w1.heap.size := mcell_lt r0; have hw2 : ¬ (w.heap.size = w1.heap.size) := (by omega); have hsz1 := hb1.size; clear hcs hr1 ho1) | (go_at_call 48; refine (KL.out _).mono ?_; rintro e w1 ⟨⟨m, rfl, hx⟩, rfl⟩; have hx' := HX0.out m hx; subst hx'; clear hx) | (go_at_call 28; refine (KM2.out _).mono ?_; rintro e w3 ⟨rfl, hb3⟩; have hbs : Below w1.heap.size w1 w3 := bel (bel_alloc w1 _) hb3; obtain ⟨⟨t0, t1, t2⟩, -⟩ := box3 hb3; have r0' := keepc hbs r0; have r1' := keepc hbs r1; have r2' := keepc hbs r2; have q0' := keepf hbs r0 q0; have q1' := keepf hbs r1 q1; have q2' := keepf hbs r2 q2; clear hb3))
          refine bodyPost_ret (by simp [results, Tryd.results31, go_sem, *]; try rfl) rfl ?_
          refine ⟨rfl, ?_⟩
          have HB := bel (bel (bel_alloc _ _) hb1) hbs
          exact ((HB.setCell (Nat.le_refl _) _).setCell (Nat.le_refl _) _).setCell (Nat.le_refl _) _
    · skip
      have e1 : ((sof k).toList == [114, 101, 97, 108]) = false := by
        rw [ByteArray.toList_eq, hkk]
        rfl
      have e2 : ((sof k).toList == [99, 111, 109, 112, 108, 101, 120]) = true := by
        rw [ByteArray.toList_eq, hkk]
        rfl
      have hpl : parL a k n = (match lenP n with | some m => if mayP ⟨sof a, 2, m⟩ then some ⟨sof a, 2, m⟩ else none | none => none) := by
        rw [hkk]
        rfl
      rw [hpl] at HLP
      clear hpl hkk
      cases hl : lenP n with
      | none =>
        rw [hl] at HLP KL
        have HF : Hid (lineP (bs s) = none) := HLP.out
        rw [HF.out]
        simp only [Option.isSome_none] at KL
        clear HLP KM hl HF
        unfold pvO pv zeroPar
        go_enter Tryd.func31, Tryd.ntmps31
        go_wp2_with (first | (go_at_call 47; refine (KW.out _).mono ?_; rintro e w1 ⟨v1, rfl, ho1, hb1⟩; obtain ⟨p1, c1, rfl, hr1⟩ := ho1.rows; obtain ⟨g, rfl, hcs⟩ : ∃ g, p1 = some ⟨g, 0, none⟩ ∧ ∀ i (h : i < (List.map sof [a, k, n]).length), w1.cell? ⟨g, i, none⟩ = some (.string (List.map sof [a, k, n])[i]) := (by rcases hr1 with h | h; exact absurd h (by simp); exact h); have s0 := hcs 0 (by simp); have s1 := hcs 1 (by simp); have s2 := hcs 2 (by simp); simp only [List.map_cons, List.getElem_cons_zero, List.getElem_cons_succ] at s0 s1 s2; obtain ⟨⟨r0, r1, r2⟩, q0, q1, q2⟩ := box3 hb1; have hg : g < w1.heap.size := mcell_lt s0; have hg2 : ¬ (g = w1.heap.size) := (by omega); have hw1 : w.heap.size < w1.heap.size := mcell_lt r0; have hw2 : ¬ (w.heap.size = w1.heap.size) := (by omega); have hsz1 := hb1.size; clear hcs hr1 ho1) | (go_at_call 48; refine (KL.out _).mono ?_; rintro e w1 ⟨⟨x, rfl, hx⟩, rfl⟩; clear hx))
        refine bodyPost_ret (by simp [results, Tryd.results31, go_sem, *]; try rfl) rfl ?_
        refine ⟨rfl, ?_⟩
        exact Below.alloc ((((bel (bel_alloc _ _) hb1).setCell (Nat.le_refl _) _).setCell (Nat.le_refl _) _).setCell (Nat.le_refl _) _) (by simp; omega) _
      | some m =>
        rw [hl] at HLP KL
        simp only [Option.isSome_some] at KL
        have HX0 : Hid (∀ x, (∀ q, some m = some q → x = q) → x = m) := fun x h => h m rfl
        have KM1 := KM.out 2 m
        have HLP2 : Hid (lineP (bs s) = if mayP ⟨sof a, 2, m⟩ then some ⟨sof a, 2, m⟩ else none) := HLP.out
        obtain ⟨M, hM⟩ : ∃ M, mayP ⟨sof a, 2, m⟩ = M := ⟨_, rfl⟩
        rw [hM] at KM1 HLP2
        have KM2 : Hid (∀ w, Calls Tryd.prog 28 #[.agg #[.string (sof a), .int .i64 2, .int .i64 m]] w fun e w' => e = .returned (.bool M) ∧ Below w.heap.size w w') := KM1
        clear HLP KM KM1 hl hM
        cases M
        · have HF : Hid (lineP (bs s) = none) := HLP2.out
          rw [HF.out]
          clear HLP2 HF
          unfold pvO pv zeroPar
          go_enter Tryd.func31, Tryd.ntmps31
          go_wp2_with (first | (go_at_call 47; refine (KW.out _).mono ?_; rintro e w1 ⟨v1, rfl, ho1, hb1⟩; obtain ⟨p1, c1, rfl, hr1⟩ := ho1.rows; obtain ⟨g, rfl, hcs⟩ : ∃ g, p1 = some ⟨g, 0, none⟩ ∧ ∀ i (h : i < (List.map sof [a, k, n]).length), w1.cell? ⟨g, i, none⟩ = some (.string (List.map sof [a, k, n])[i]) := (by rcases hr1 with h | h; exact absurd h (by simp); exact h); have s0 := hcs 0 (by simp); have s1 := hcs 1 (by simp); have s2 := hcs 2 (by simp); simp only [List.map_cons, List.getElem_cons_zero, List.getElem_cons_succ] at s0 s1 s2; obtain ⟨⟨r0, r1, r2⟩, q0, q1, q2⟩ := box3 hb1; have hg : g < w1.heap.size := mcell_lt s0; have hg2 : ¬ (g = w1.heap.size) := (by omega); have hw1 : w.heap.size < w1.heap.size := mcell_lt r0; have hw2 : ¬ (w.heap.size = w1.heap.size) := (by omega); have hsz1 := hb1.size; clear hcs hr1 ho1) | (go_at_call 48; refine (KL.out _).mono ?_; rintro e w1 ⟨⟨m, rfl, hx⟩, rfl⟩; have hx' := HX0.out m hx; subst hx'; clear hx) | (go_at_call 28; refine (KM2.out _).mono ?_; rintro e w3 ⟨rfl, hb3⟩; have hbs : Below w1.heap.size w1 w3 := bel (bel_alloc w1 _) hb3; obtain ⟨⟨t0, t1, t2⟩, -⟩ := box3 hb3; have r0' := keepc hbs r0; have r1' := keepc hbs r1; have r2' := keepc hbs r2; have q0' := keepf hbs r0 q0; have q1' := keepf hbs r1 q1; have q2' := keepf hbs r2 q2; clear hb3))
          refine bodyPost_ret (by simp [results, Tryd.results31, go_sem, *]; try rfl) rfl ?_
          refine ⟨rfl, ?_⟩
          have HB := bel (bel (bel_alloc _ _) hb1) hbs
          exact ((HB.setCell (Nat.le_refl _) _).setCell (Nat.le_refl _) _).setCell (Nat.le_refl _) _
        · have HF : Hid (lineP (bs s) = some ⟨sof a, 2, m⟩) := HLP2.out
          rw [HF.out]
          clear HLP2 HF
          unfold pvO pv
          go_enter Tryd.func31, Tryd.ntmps31
          go_wp2_with (first | (go_at_call 47; refine (KW.out _).mono ?_; rintro e w1 ⟨v1, rfl, ho1, hb1⟩; obtain ⟨p1, c1, rfl, hr1⟩ := ho1.rows; obtain ⟨g, rfl, hcs⟩ : ∃ g, p1 = some ⟨g, 0, none⟩ ∧ ∀ i (h : i < (List.map sof [a, k, n]).length), w1.cell? ⟨g, i, none⟩ = some (.string (List.map sof [a, k, n])[i]) := (by rcases hr1 with h | h; exact absurd h (by simp); exact h); have s0 := hcs 0 (by simp); have s1 := hcs 1 (by simp); have s2 := hcs 2 (by simp); simp only [List.map_cons, List.getElem_cons_zero, List.getElem_cons_succ] at s0 s1 s2; obtain ⟨⟨r0, r1, r2⟩, q0, q1, q2⟩ := box3 hb1; have hg : g < w1.heap.size := mcell_lt s0; have hg2 : ¬ (g = w1.heap.size) := (by omega); have hw1 : w.heap.size < w1.heap.size := mcell_lt r0; have hw2 : ¬ (w.heap.size = w1.heap.size) := (by omega); have hsz1 := hb1.size; clear hcs hr1 ho1) | (go_at_call 48; refine (KL.out _).mono ?_; rintro e w1 ⟨⟨m, rfl, hx⟩, rfl⟩; have hx' := HX0.out m hx; subst hx'; clear hx) | (go_at_call 28; refine (KM2.out _).mono ?_; rintro e w3 ⟨rfl, hb3⟩; have hbs : Below w1.heap.size w1 w3 := bel (bel_alloc w1 _) hb3; obtain ⟨⟨t0, t1, t2⟩, -⟩ := box3 hb3; have r0' := keepc hbs r0; have r1' := keepc hbs r1; have r2' := keepc hbs r2; have q0' := keepf hbs r0 q0; have q1' := keepf hbs r1 q1; have q2' := keepf hbs r2 q2; clear hb3))
          refine bodyPost_ret (by simp [results, Tryd.results31, go_sem, *]; try rfl) rfl ?_
          refine ⟨rfl, ?_⟩
          have HB := bel (bel (bel_alloc _ _) hb1) hbs
          exact ((HB.setCell (Nat.le_refl _) _).setCell (Nat.le_refl _) _).setCell (Nat.le_refl _) _
    · have hf : lineP (bs s) = none := by rw [HLP.out]; unfold parL; rw [if_neg (by rw [hk]; decide)]
      have e1 : ((sof k).toList == [114, 101, 97, 108]) = false := by
        rw [ByteArray.toList_eq]
        simp [realB, complexB] at hk
        simpa [sof] using hk.1
      have e2 : ((sof k).toList == [99, 111, 109, 112, 108, 101, 120]) = false := by
        rw [ByteArray.toList_eq]
        simp [realB, complexB] at hk
        simpa [sof] using hk.2
      rw [hf]
      clear hk hf HLP KL KM
      unfold pvO pv zeroPar
      go_enter Tryd.func31, Tryd.ntmps31
      go_wp2_with (go_at_call 47; refine (KW.out _).mono ?_; rintro e w1 ⟨v1, rfl, ho1, hb1⟩; obtain ⟨p1, c1, rfl, hr1⟩ := ho1.rows; obtain ⟨g, rfl, hcs⟩ : ∃ g, p1 = some ⟨g, 0, none⟩ ∧ ∀ i (h : i < (List.map sof [a, k, n]).length), w1.cell? ⟨g, i, none⟩ = some (.string (List.map sof [a, k, n])[i]) := (by rcases hr1 with h | h; exact absurd h (by simp); exact h); have s0 := hcs 0 (by simp); have s1 := hcs 1 (by simp); have s2 := hcs 2 (by simp); simp only [List.map_cons, List.getElem_cons_zero, List.getElem_cons_succ] at s0 s1 s2; obtain ⟨⟨r0, r1, r2⟩, q0, q1, q2⟩ := box3 hb1; have hg : g < w1.heap.size := mcell_lt s0; have hg2 : ¬ (g = w1.heap.size) := (by omega); have hw1 : w.heap.size < w1.heap.size := mcell_lt r0; have hw2 : ¬ (w.heap.size = w1.heap.size) := (by omega); have hsz1 := hb1.size; clear hcs hr1 ho1)
      refine bodyPost_ret (by simp [results, Tryd.results31, go_sem, *]; try rfl) rfl ?_
      refine ⟨rfl, ?_⟩
      exact (((bel (bel_alloc _ _) hb1).setCell (Nat.le_refl _) _).setCell (Nat.le_refl _) _).setCell (Nat.le_refl _) _
  · have hf : lineP (bs s) = none := lineP_ne h3
    obtain ⟨L, hL⟩ : ∃ L, (wordsA [] (bs s)).map sof = L := ⟨_, rfl⟩
    have hL3 : ((L.length : Int) == 3) = false := by rw [beq_eq_false_iff_ne, ← hL, List.length_map]; omega
    have hL4 : ((L.length : Int) != 3) = true := by rw [bne, hL3]; rfl
    have hLl : L.length ≤ 65537 := by rw [← hL, List.length_map]; omega
    rw [hf]
    rw [hL] at KW
    clear hf hws hwl h3 hL
    unfold pvO pv zeroPar
    go_enter Tryd.func31, Tryd.ntmps31
    go_wp2_with (go_at_call 47; refine (KW.out _).mono ?_; rintro e w1 ⟨v1, rfl, ho1, hb1⟩; obtain ⟨p1, c1, rfl, hr1⟩ := ho1.rows; obtain ⟨⟨r0, r1, r2⟩, q0, q1, q2⟩ := box3 hb1; clear hr1 ho1)
    refine bodyPost_ret (by simp [results, Tryd.results31, go_sem, *]; try rfl) rfl ?_
    refine ⟨rfl, ?_⟩
    exact (((bel (bel_alloc _ _) hb1).setCell (Nat.le_refl _) _).setCell (Nat.le_refl _) _).setCell (Nat.le_refl _) _

end Go.Proofs.YtmpfoajpafglgaaDoor
