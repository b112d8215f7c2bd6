import Derived.Test.YtmpfoajpafglgaaDoorSignBackP
/- SignBack. -/
namespace Go.Proofs.YtmpfoajpafglgaaDoor
open Go.RowKit
set_option linter.unusedVariables false
set_option linter.unusedSimpArgs false

/-- What the walk leans on: Parse of one text. -/
def ParsesTo (s : ByteArray) (L : List Par) (E : Int) (N : Nat) : Prop :=
  ∀ w : World, Laid w → Calls Tryd.prog 19 #[.string s] w fun e w' => ∃ v, e = .returned (.tuple #[v, .int .i64 E, .int .i64 (N : Int)]) ∧ Own w' w.heap.size v L ∧ Below w.heap.size w w'
theorem parsesTo {s : ByteArray} (hs : s.size ≤ 140737488351232) {L : List Par} {E : Int} {N : Nat} (h : parseP (bs s) = ⟨L, E, N⟩) : ParsesTo s L E N := fun w hL => by
  have := sParse_any s hs w hL
  rw [h] at this
  exact this
/-- Print of one signature. -/
def PrintsTo (l : List Par) (X : Bs) (E : Int) : Prop :=
  ∀ (v : Value) (w : World), Laid w → Rd w v l → Calls Tryd.prog 21 #[v] w fun e w' => e = .returned (.tuple #[.string (sof X), .int .i64 E]) ∧ Below w.heap.size w w'
theorem printsTo {l : List Par} (hl : l.length ≤ 140737488351232) (hM : ∀ q ∈ l, q.name.size ≤ 140737488351232) {X : Bs} {E : Int} (h : printP l = (X, E)) : PrintsTo l X E := fun v w hL hr => by
  have := sPrint_any v l hl hM w hL hr
  rw [h] at this
  exact this
theorem text_back {l : List Par} (h : checkP l = 0) : ParsesTo (sof (textB l)) l 0 0 := by
  refine parsesTo ?_ ?_
  · rw [sof_size]
    have := text_len l (check_may h)
    have := check_len h
    omega
  · rw [show bs (sof (textB l)) = textB l from bs_of _]
    exact parse_print h

set_option maxRecDepth 100000 in
set_option maxHeartbeats 2000000 in
theorem walk_SignBack (p : Option Addr) (c : Nat) (l : List Par) (hl : l.length ≤ 4398046510976) (hM : ∀ q ∈ l, q.name.size ≤ 140737488351232) (hz : p = none → l.length = 0 ∧ c = 0) (s : ByteArray) (hs : s.size ≤ 140737488351232) (w : World) (hLd : Laid w) (hr : Row w p l) :
    Calls Tryd.prog 7 #[.slice p l.length c, .string s] w fun e w' => e = .returned (.bool true) ∧ Below w.heap.size w w' := by
  have HL : Hid (l.length ≤ 140737488351232) := Nat.le_trans hl (by decide)
  have HR : Hid (Rd w (.slice p l.length c) l) := ⟨p, c, rfl, hr⟩
  have hS := parsesTo hs (s := s) (show parseP (bs s) = ⟨(parseP (bs s)).list, (parseP (bs s)).err, (parseP (bs s)).line⟩ from rfl)
  have told := parse_told (bs s)
  obtain ⟨R, hR⟩ : ∃ R, parseP (bs s) = R := ⟨_, rfl⟩
  rw [hR] at hS told
  obtain ⟨L, E, N⟩ := R
  simp only at hS told
  have HS : Hid (ParsesTo s L E N) := hS
  obtain ⟨n, hn⟩ : ∃ n, l.length = n := ⟨_, rfl⟩
  have key1 : (checkP l = 0 ∧ PrintsTo l (textB l) 0 ∧ ParsesTo (sof (textB l)) l 0 0) ∨ (checkP l ≠ 0 ∧ PrintsTo l [] (checkP l)) := by
    by_cases h : checkP l = 0
    · exact .inl ⟨h, printsTo HL.out hM (print_ok h), text_back h⟩
    · exact .inr ⟨h, printsTo HL.out hM (print_err h)⟩
  rw [hn] at HR ⊢
  have HLD : Hid (Laid w) := hLd
  clear hS hR hl hM hz hr hs hn hLd
  rcases told with ⟨hE, hc, hN⟩ | ⟨hE, hLn⟩
  · have HP2 : Hid (PrintsTo L (textB L) 0) := printsTo (Nat.le_trans (check_len hc) (by decide)) (fun q hq => Nat.le_trans (may_size (check_may hc q hq)) (by decide)) (print_ok hc)
    have HT2 : Hid (ParsesTo (sof (textB L)) L 0 0) := text_back hc
    have HLL : Hid (L.length ≤ 140737488351232) := Nat.le_trans (check_len hc) (by decide)
    have HC : Hid (∀ (v : Value) (w : World), Rd w v L → Calls Tryd.prog 11 #[v] w fun e w' => e = .returned (.int .i64 0) ∧ Below w.heap.size w w') := fun v w h => by
      have := sCheck_any v L HLL.out (fun q hq => Nat.le_trans (may_size (check_may hc q hq)) (by decide)) w h
      rw [hc] at this
      exact this
    subst hE
    subst hN
    clear hc
    obtain ⟨Z, hZ⟩ : ∃ Z, sof (textB L) = Z := ⟨_, rfl⟩
    unfold ParsesTo at HS HT2
    unfold PrintsTo at HP2
    rw [hZ] at HP2 HT2
    clear hZ
    rcases key1 with ⟨h0, h1, h2⟩ | ⟨h0, h1⟩
    · have HP1 : Hid (PrintsTo l (textB l) 0) := h1
      have HT1 : Hid (ParsesTo (sof (textB l)) l 0 0) := h2
      unfold ParsesTo at HT1
      unfold PrintsTo at HP1
      obtain ⟨Y, hY⟩ : ∃ Y, sof (textB l) = Y := ⟨_, rfl⟩
      rw [hY] at HP1 HT1
      clear h0 h1 h2 hY
      go_enter Tryd.func7, Tryd.ntmps7
      go_wp2_with (first
      | (go_at_call 21; (with_reducible refine (HP1.out _ _ HLD.out HR.out).mono ?_); rintro e w1 ⟨rfl, hb1⟩; have R1 : Hid (Rd w1 (.slice p n c) l) := HR.out.below hb1)
      | ((with_reducible refine (HT1.out _ (HLD.out.below hb1)).mono ?_); rintro e w2 ⟨v2, rfl, ho2, hb2⟩; have R2 : Hid (Rd w2 (.slice p n c) l ∧ Rd w2 v2 l) := ⟨R1.out.below hb2, ho2.rd⟩; clear ho2)
      | ((with_reducible refine (same_any _ _ l HL.out _ R2.out.1 R2.out.2).mono ?_); rintro e w3 ⟨rfl, hb3⟩)
      | ((with_reducible refine (HS.out _ (HLD.out.below (bel (bel hb1 hb2) hb3))).mono ?_); rintro e w4 ⟨v4, rfl, ho4, hb4⟩; have R4 : Hid (Rd w4 v4 L) := ho4.rd; clear ho4)
      | ((with_reducible refine (HP2.out _ _ (HLD.out.below (bel (bel (bel hb1 hb2) hb3) hb4)) R4.out).mono ?_); rintro e w5 ⟨rfl, hb5⟩; have R5 : Hid (Rd w5 v4 L) := R4.out.below hb5)
      | ((with_reducible refine (HT2.out _ (HLD.out.below (bel (bel (bel (bel hb1 hb2) hb3) hb4) hb5))).mono ?_); rintro e w6 ⟨v6, rfl, ho6, hb6⟩; have R6 : Hid (Rd w6 v4 L ∧ Rd w6 v6 L) := ⟨R5.out.below hb6, ho6.rd⟩; clear ho6)
      | (go_at_call 11; (with_reducible refine (HC.out _ _ R6.out.1).mono ?_); rintro e w7 ⟨rfl, hb7⟩; have R7 : Hid (Rd w7 v4 L ∧ Rd w7 v6 L) := ⟨R6.out.1.below hb7, R6.out.2.below hb7⟩)
      | ((with_reducible refine (same_any _ _ L HLL.out _ R7.out.1 R7.out.2).mono ?_); rintro e w8 ⟨rfl, hb8⟩)
      | (go_at_call 18; refine (works_any _ (HLD.out.below (bel (bel (bel (bel (bel (bel (bel hb1 hb2) hb3) hb4) hb5) hb6) hb7) hb8))).mono ?_; rintro e w9 ⟨rfl, hb9⟩))
      go_ret
      exact ⟨rfl, (bel (bel (bel (bel (bel (bel (bel (bel hb1 hb2) hb3) hb4) hb5) hb6) hb7) hb8) hb9)⟩
    · have HP1 : Hid (PrintsTo l [] (checkP l)) := h1
      have e1 : (checkP l == 0) = false := by simpa using h0
      obtain ⟨K, hK⟩ : ∃ K, checkP l = K := ⟨_, rfl⟩
      unfold PrintsTo at HP1
      rw [hK] at HP1 e1
      clear h0 h1 hK
      go_enter Tryd.func7, Tryd.ntmps7
      go_wp2_with (first
      | (go_at_call 21; (with_reducible refine (HP1.out _ _ HLD.out HR.out).mono ?_); rintro e w1 ⟨rfl, hb1⟩)
      | ((with_reducible refine (HS.out _ (HLD.out.below hb1)).mono ?_); rintro e w4 ⟨v4, rfl, ho4, hb4⟩; have R4 : Hid (Rd w4 v4 L) := ho4.rd; clear ho4)
      | ((with_reducible refine (HP2.out _ _ (HLD.out.below (bel hb1 hb4)) R4.out).mono ?_); rintro e w5 ⟨rfl, hb5⟩; have R5 : Hid (Rd w5 v4 L) := R4.out.below hb5)
      | ((with_reducible refine (HT2.out _ (HLD.out.below (bel (bel hb1 hb4) hb5))).mono ?_); rintro e w6 ⟨v6, rfl, ho6, hb6⟩; have R6 : Hid (Rd w6 v4 L ∧ Rd w6 v6 L) := ⟨R5.out.below hb6, ho6.rd⟩; clear ho6)
      | (go_at_call 11; (with_reducible refine (HC.out _ _ R6.out.1).mono ?_); rintro e w7 ⟨rfl, hb7⟩; have R7 : Hid (Rd w7 v4 L ∧ Rd w7 v6 L) := ⟨R6.out.1.below hb7, R6.out.2.below hb7⟩)
      | ((with_reducible refine (same_any _ _ L HLL.out _ R7.out.1 R7.out.2).mono ?_); rintro e w8 ⟨rfl, hb8⟩)
      | (go_at_call 18; refine (works_any _ (HLD.out.below (bel (bel (bel (bel (bel hb1 hb4) hb5) hb6) hb7) hb8))).mono ?_; rintro e w9 ⟨rfl, hb9⟩))
      go_ret
      exact ⟨rfl, (bel (bel (bel (bel (bel (bel hb1 hb4) hb5) hb6) hb7) hb8) hb9)⟩
  · have e2 : (E == 0) = false := by simpa using hE
    have e3 : (E != 0) = true := by simpa using hE
    subst hLn
    unfold ParsesTo at HS
    clear hE
    rcases key1 with ⟨h0, h1, h2⟩ | ⟨h0, h1⟩
    · have HP1 : Hid (PrintsTo l (textB l) 0) := h1
      have HT1 : Hid (ParsesTo (sof (textB l)) l 0 0) := h2
      unfold ParsesTo at HT1
      unfold PrintsTo at HP1
      obtain ⟨Y, hY⟩ : ∃ Y, sof (textB l) = Y := ⟨_, rfl⟩
      rw [hY] at HP1 HT1
      clear h0 h1 h2 hY
      go_enter Tryd.func7, Tryd.ntmps7
      go_wp2_with (first
      | (go_at_call 21; (with_reducible refine (HP1.out _ _ HLD.out HR.out).mono ?_); rintro e w1 ⟨rfl, hb1⟩; have R1 : Hid (Rd w1 (.slice p n c) l) := HR.out.below hb1)
      | ((with_reducible refine (HT1.out _ (HLD.out.below hb1)).mono ?_); rintro e w2 ⟨v2, rfl, ho2, hb2⟩; have R2 : Hid (Rd w2 (.slice p n c) l ∧ Rd w2 v2 l) := ⟨R1.out.below hb2, ho2.rd⟩; clear ho2)
      | ((with_reducible refine (same_any _ _ l HL.out _ R2.out.1 R2.out.2).mono ?_); rintro e w3 ⟨rfl, hb3⟩)
      | ((with_reducible refine (HS.out _ (HLD.out.below (bel (bel hb1 hb2) hb3))).mono ?_); rintro e w4 ⟨v4, rfl, ho4, hb4⟩; obtain ⟨p4, c4, rfl, -⟩ := ho4.rd; clear ho4)
      | (go_at_call 18; refine (works_any _ (HLD.out.below (bel (bel (bel hb1 hb2) hb3) hb4))).mono ?_; rintro e w9 ⟨rfl, hb9⟩))
      go_ret
      exact ⟨rfl, (bel (bel (bel (bel hb1 hb2) hb3) hb4) hb9)⟩
    · have HP1 : Hid (PrintsTo l [] (checkP l)) := h1
      have e1 : (checkP l == 0) = false := by simpa using h0
      obtain ⟨K, hK⟩ : ∃ K, checkP l = K := ⟨_, rfl⟩
      unfold PrintsTo at HP1
      rw [hK] at HP1 e1
      clear h0 h1 hK
      go_enter Tryd.func7, Tryd.ntmps7
      go_wp2_with (first
      | (go_at_call 21; (with_reducible refine (HP1.out _ _ HLD.out HR.out).mono ?_); rintro e w1 ⟨rfl, hb1⟩)
      | ((with_reducible refine (HS.out _ (HLD.out.below hb1)).mono ?_); rintro e w4 ⟨v4, rfl, ho4, hb4⟩; obtain ⟨p4, c4, rfl, -⟩ := ho4.rd; clear ho4)
      | (go_at_call 18; refine (works_any _ (HLD.out.below (bel hb1 hb4))).mono ?_; rintro e w9 ⟨rfl, hb9⟩))
      go_ret
      exact ⟨rfl, (bel (bel hb1 hb4) hb9)⟩

end Go.Proofs.YtmpfoajpafglgaaDoor
