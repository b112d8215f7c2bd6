import Derived.Test.YtmpfoajpafglgaaDoorSignLaws
/- SignReads, SignPrints. -/
namespace Go.Proofs.YtmpfoajpafglgaaDoor
open Go.RowKit
set_option linter.unusedVariables false
set_option linter.unusedSimpArgs false

set_option maxRecDepth 100000 in
set_option maxHeartbeats 1000000 in
theorem walk_SignReads (s : ByteArray) (hs : s.size ≤ 140737488351232) (w : World) (hLd : Laid w) :
    Calls Tryd.prog 4 #[.string s] w fun e w' => e = .returned (.bool true) ∧ Below w.heap.size w w' := by
  have S1 := sParse_any s hs
  have S2 := rParse_any s hs
  have hl := parse_len (bs s)
  obtain ⟨R, hR⟩ : ∃ R, parseP (bs s) = R := ⟨_, rfl⟩
  rw [hR] at hl
  simp only [hR] at S1 S2
  obtain ⟨L, E, N⟩ := R
  simp only at S1 S2 hl
  have H1 : Hid (∀ w, Laid w → Calls Tryd.prog 19 #[.string s] w fun e w' => ∃ v, e = .returned (.tuple #[v, .int .i64 E, .int .i64 (N : Int)]) ∧ Own w' w.heap.size v L ∧ Below w.heap.size w w') := S1
  have H2 : Hid (∀ w, Calls Tryd.prog 20 #[.string s] w fun e w' => ∃ v, e = .returned (.tuple #[v, .int .i64 E, .int .i64 (N : Int)]) ∧ Own w' w.heap.size v L ∧ Below w.heap.size w w') := S2
  have HL : Hid (L.length ≤ 140737488351232) := Nat.le_trans hl (by decide)
  have HLD : Hid (Laid w) := hLd
  clear S1 S2 hl hR hLd
  go_enter Tryd.func4, Tryd.ntmps4
  go_wp2_with (first
    | (go_at_call 19; (with_reducible refine (H1.out _ HLD.out).mono ?_); rintro e w1 ⟨v1, rfl, ho1, hb1⟩; have R1 : Hid (Rd w1 v1 L) := ho1.rd; clear ho1)
    | (go_at_call 20; (with_reducible refine (H2.out _).mono ?_); rintro e w2 ⟨v2, rfl, ho2, hb2⟩; have R2 : Hid (Rd w2 v2 L) := ho2.rd; have R1' : Hid (Rd w2 v1 L) := R1.out.below hb2; clear ho2)
    | (go_at_call 17; (with_reducible refine (same_any _ _ L HL.out _ R1'.out R2.out).mono ?_); rintro e w3 ⟨rfl, hb3⟩)
    | (go_at_call 18; refine (works_any _ (HLD.out.below (bel (bel hb1 hb2) hb3))).mono ?_; rintro e w5 ⟨rfl, hb5⟩))
  go_ret
  exact ⟨rfl, bel (bel (bel hb1 hb2) hb3) hb5⟩

set_option maxRecDepth 100000 in
set_option maxHeartbeats 1000000 in
theorem walk_SignPrints (p : Option Addr) (c : Nat) (l : List Par) (hl : l.length ≤ 4398046510976) (hM : ∀ q ∈ l, q.name.size ≤ 140737488351232) (hz : p = none → l.length = 0 ∧ c = 0) (w : World) (hLd : Laid w) (hr : Row w p l) :
    Calls Tryd.prog 5 #[.slice p l.length c] w fun e w' => e = .returned (.bool true) ∧ Below w.heap.size w w' := by
  have hl' : l.length ≤ 140737488351232 := by omega
  have S1 := fun w hL h => sPrint_any (.slice p l.length c) l hl' hM w hL h
  have S2 := fun w h => rPrint_any (.slice p l.length c) l hl' hM w h
  have HR : Hid (Rd w (.slice p l.length c) l) := ⟨p, c, rfl, hr⟩
  obtain ⟨R, hR⟩ : ∃ R, printP l = R := ⟨_, rfl⟩
  simp only [hR] at S1 S2
  obtain ⟨X, E⟩ := R
  simp only at S1 S2
  obtain ⟨n, hn⟩ : ∃ n, l.length = n := ⟨_, rfl⟩
  rw [hn] at S1 S2 HR ⊢
  have H1 : Hid (∀ w, Laid w → Rd w (.slice p n c) l → Calls Tryd.prog 21 #[.slice p n c] w fun e w' => e = .returned (.tuple #[.string (sof X), .int .i64 E]) ∧ Below w.heap.size w w') := S1
  have H2 : Hid (∀ w, Rd w (.slice p n c) l → Calls Tryd.prog 22 #[.slice p n c] w fun e w' => e = .returned (.tuple #[.string (sof X), .int .i64 E]) ∧ Below w.heap.size w w') := S2
  have HLD : Hid (Laid w) := hLd
  clear S1 S2 hR hl hl' hM hz hr hn hLd
  go_enter Tryd.func5, Tryd.ntmps5
  go_wp2_with (first
    | (go_at_call 21; (with_reducible refine (H1.out _ HLD.out HR.out).mono ?_); rintro e w1 ⟨rfl, hb1⟩; have R1 : Hid (Rd w1 (.slice p n c) l) := HR.out.below hb1)
    | (go_at_call 22; (with_reducible refine (H2.out _ R1.out).mono ?_); rintro e w2 ⟨rfl, hb2⟩)
    | (go_at_call 18; refine (works_any _ (HLD.out.below (bel hb1 hb2))).mono ?_; rintro e w5 ⟨rfl, hb5⟩))
  go_ret
  exact ⟨rfl, bel (bel hb1 hb2) hb5⟩

end Go.Proofs.YtmpfoajpafglgaaDoor
