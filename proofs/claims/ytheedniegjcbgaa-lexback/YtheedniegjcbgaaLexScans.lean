import Derived.Test.YtheedniegjcbgaaLexRefScan
/- LexScans. -/
namespace Go.Proofs.Ytheedniegjcbgaa
open Go.RowKit
set_option linter.unusedVariables false
set_option linter.unusedSimpArgs false

theorem scanF_len (n : Nat) : ∀ (f : Nat) (r : Bs), (scanF n f r).toks.length ≤ f
  | 0, [] => Nat.le_refl _
  | f + 1, [] => Nat.zero_le _
  | 0, _ :: _ => Nat.le_refl _
  | f + 1, b :: t => by
    unfold scanF
    split
    · exact Nat.zero_le _
    · exact Nat.succ_le_succ (scanF_len n f _)
theorem scan_len (l : Bs) : (scanP l).toks.length ≤ 65537 := by
  unfold scanP
  split
  · exact Nat.zero_le _
  · split
    · exact Nat.zero_le _
    · have := scanF_len l.length l.length (skp false l)
      simp only [List.length_append, List.length_cons, List.length_nil]
      unfold scan0
      omega

set_option maxRecDepth 100000 in
set_option maxHeartbeats 1000000 in
theorem walk_LexScans (s : ByteArray) (hs : s.size ≤ maxLen) (w : World) :
    Calls Try.prog 3 #[.string s] w fun e w' => e = .returned (.bool true) ∧ Below w.heap.size w w' := by
  have S1 := scan_any s hs w
  have S2 := rscan_any s hs
  have hl := scan_len (bs s)
  obtain ⟨r, hr⟩ : ∃ r, scanP (bs s) = r := ⟨_, rfl⟩
  rw [hr] at S1 hl
  simp only [hr] at S2
  clear hr
  obtain ⟨T, E, P⟩ := r
  have H1 : Hid (Calls Try.prog 9 #[.string s] w fun e w' => ∃ v, e = .returned (.tuple #[v, .int .i64 E, .int .i64 (P : Int)]) ∧ Own w' w.heap.size v T ∧ Below w.heap.size w w') := S1
  have H2 : Hid (∀ w : World, Calls Try.prog 10 #[.string s] w fun e w' => ∃ v, e = .returned (.tuple #[v, .int .i64 E, .int .i64 (P : Int)]) ∧ Own w' w.heap.size v T ∧ Below w.heap.size w w') := S2
  clear S1 S2
  have hl' : T.length ≤ 1048577 := Nat.le_trans hl (by decide)
  go_enter Try.func3, Try.ntmps3
  go_wp2_with (first
    | ((with_reducible refine H1.out.mono ?_); rintro e w1 ⟨v1, rfl, ho1, hb1⟩; have R1 : Hid (Rd w1 v1 T) := ho1.rd; clear ho1)
    | ((with_reducible refine (H2.out _).mono ?_); rintro e w2 ⟨v2, rfl, ho2, hb2⟩; have R2 : Hid (Rd w2 v2 T) := ho2.rd; have R3 : Hid (Rd w2 v1 T) := R1.out.below hb2; clear ho2)
    | (go_at_call 11; refine (same_any _ _ T hl' _ R3.out R2.out).mono ?_; rintro e w3 ⟨rfl, hb3⟩)
    | (go_at_call 12; refine (works_any _).mono ?_; rintro e w4 ⟨rfl, hb4⟩))
  go_ret
  exact ⟨rfl, bel (bel (bel hb1 hb2) hb3) hb4⟩

end Go.Proofs.Ytheedniegjcbgaa
