import Derived.Test.YtheedniegjcbgaaLexBackP
import Derived.Deep.RegionHeld3
/- LexBack. -/
namespace Go.Proofs.Ytheedniegjcbgaa
open Go.RowKit
set_option linter.unusedVariables false
set_option linter.unusedSimpArgs false

theorem kt_at {a b : List Tok} (h : a.map kt = b.map kt) (i : Nat) (ha : i < a.length) (hb : i < b.length) : a[i].kind = b[i].kind ∧ a[i].text = b[i].text := by
  have h1 : (a.map kt)[i]'(by simpa using ha) = (b.map kt)[i]'(by simpa using hb) := by simp only [h]
  rw [List.getElem_map, List.getElem_map] at h1
  simp only [kt, Prod.mk.injEq] at h1
  exact h1

set_option maxRecDepth 100000 in
set_option maxHeartbeats 2000000 in
theorem walk_LexBack (s : ByteArray) (hs : s.size ≤ maxLen) (w : World) :
    Calls Try.prog 6 #[.string s] w fun e w' => e = .returned (.bool true) ∧ Below w.heap.size w w' := by
  have S1 := scan_any s hs w
  have hl := scan_len (bs s)
  have htx := scan_text (bs s)
  have hsh := scan_show (bs s)
  obtain ⟨r, hr⟩ : ∃ r, scanP (bs s) = r := ⟨_, rfl⟩
  rw [hr] at S1 hl htx hsh
  clear hr
  obtain ⟨T, E, P⟩ := r
  simp only at S1 hl htx hsh
  by_cases hE : E = 0
  · subst hE
    have hsh := hsh rfl
    obtain ⟨J, hJ⟩ : ∃ J, showP T = J := ⟨_, rfl⟩
    rw [hJ] at hsh
    have hJs : (⟨J.toArray⟩ : ByteArray).size = J.length := by rw [← bs_length]; simp [bs]
    have hJb : bs (⟨J.toArray⟩ : ByteArray) = J := by simp [bs]
    have H1 : Hid (Calls Try.prog 9 #[.string s] w fun e w' => ∃ v, e = .returned (.tuple #[v, .int .i64 0, .int .i64 (P : Int)]) ∧ Own w' w.heap.size v T ∧ Below w.heap.size w w') := S1
    have HL : Hid (T.length ≤ 1048577) := Nat.le_trans hl (by decide)
    have HTX : Hid (∀ t ∈ T, t.text.length ≤ 1048576) := htx
    have HJ : Hid (showP T = J) := hJ
    obtain ⟨N, hN⟩ : ∃ N, T.length = N := ⟨_, rfl⟩
    have HN : Hid (T.length = N) := hN
    have hN2 : N ≤ 65537 := by rw [← hN]; exact hl
    clear S1 hl htx hJ hN
    by_cases hlong : 65536 < J.length
    · have j1 : (65536 : Int) < (J.length : Int) := by omega
      clear hsh hJb
      go_enter Try.func6, Try.ntmps6
      go_wp2_with (first
        | ((with_reducible refine H1.out.mono ?_); rintro e w1 ⟨v1, rfl, ho1, hb1⟩; have R1 : Hid (Rd w1 v1 T) := ho1.rd; clear ho1)
        | (go_at_call 13; refine (show_any _ T (atOf T) HL.out HTX.out _ R1.out.g).mono ?_; rw [HJ.out]; rintro e w2 ⟨rfl, hb2⟩)
        | (go_at_call 12; refine (works_any _).mono ?_; rintro e w4 ⟨rfl, hb4⟩))
      go_ret
      exact ⟨rfl, bel (bel hb1 hb2) hb4⟩
    · obtain ⟨e0, ek⟩ := hsh (by omega)
      have S2 := scan_any (⟨J.toArray⟩ : ByteArray) (by rw [hJs]; unfold maxLen; omega)
      rw [hJb] at S2
      have htx2 := scan_text J
      obtain ⟨r, hr⟩ : ∃ r, scanP J = r := ⟨_, rfl⟩
      rw [hr] at e0 ek htx2
      simp only [hr] at S2
      clear hr
      obtain ⟨M, F, P2⟩ := r
      simp only at e0 ek htx2 S2
      subst e0
      have hMl : M.length = N := by have := congrArg List.length ek; rw [List.length_map, List.length_map, HN.out] at this; exact this
      have HM : Hid (M.length = N) := hMl
      have HK : Hid (M.map kt = T.map kt) := ek
      have HLM : Hid (M.length ≤ 1048577) := by show M.length ≤ 1048577; omega
      have HTM : Hid (∀ t ∈ M, t.text.length ≤ 1048576) := htx2
      have HJM : Hid (showP M = J) := (show_kt M T ek).trans HJ.out
      have H2 : Hid (∀ w : World, Calls Try.prog 9 #[.string ⟨J.toArray⟩] w fun e w' => ∃ v, e = .returned (.tuple #[v, .int .i64 0, .int .i64 (P2 : Int)]) ∧ Own w' w.heap.size v M ∧ Below w.heap.size w w') := S2
      have j1 : ¬ ((65536 : Int) < (J.length : Int)) := by omega
      clear S2 ek htx2 hMl hsh hJb
      go_enter Try.func6, Try.ntmps6
      go_wp2_with (first
        | ((with_reducible refine H1.out.mono ?_); rintro e w1 ⟨v1, rfl, ho1, hb1⟩; obtain ⟨p1, c1, rfl, hr1⟩ := ho1.rd; rw [HN.out]; have HR1 : Hid (T = [] ∨ ∃ b o, p1 = some ⟨b, o, none⟩ ∧ ∀ i (h : i < T.length), At3 w1 b (o + i * 3) T[i]) := hr1; have R1 : Hid (Rd w1 (.slice p1 N c1) T) := ⟨p1, c1, by rw [HN.out], hr1⟩; clear ho1 hr1)
        | ((with_reducible refine (show_any (.slice p1 N c1) T (atOf T) HL.out HTX.out _ R1.out.g).mono ?_); rw [HJ.out]; rintro e w2 ⟨rfl, hb2⟩)
        | ((with_reducible refine (H2.out _).mono ?_); rintro e w3 ⟨v3, rfl, ho3, hb3⟩; obtain ⟨p3, c3, rfl, hr3⟩ := ho3.rd; rw [HM.out]; have HR3 : Hid (M = [] ∨ ∃ b o, p3 = some ⟨b, o, none⟩ ∧ ∀ i (h : i < M.length), At3 w3 b (o + i * 3) M[i]) := hr3; have R3 : Hid (Rd w3 (.slice p3 N c3) M) := ⟨p3, c3, by rw [HM.out], hr3⟩; clear ho3 hr3)
        | ((with_reducible refine (show_any (.slice p3 N c3) M (atOf M) HLM.out HTM.out _ R3.out.g).mono ?_); rw [HJM.out]; rintro e w4 ⟨rfl, hb4⟩))
      go_loopw [10] (fun iv wr => Below w4.heap.size w4 wr ∧ ∃ i : Nat, i ≤ N ∧ iv = .int .i64 i) (fun iv _ => N - (intOf iv).toNat)
      case atStart => exact ⟨bel0 _, 0, Nat.zero_le _, rfl⟩
      case round =>
        obtain ⟨hb, i, hi, rfl⟩ := hrel
        by_cases hlt : i < N
        · have hll : i < T.length := by rw [HN.out]; exact hlt
          have hlm : i < M.length := by rw [HM.out]; exact hlt
          rcases HR1.out with h | ⟨ba, oa, rfl, ha⟩
          · rw [h] at hll; exact absurd hll (Nat.not_lt_zero _)
          rcases HR3.out with h | ⟨bm, om, rfl, hmm⟩
          · rw [h] at hlm; exact absurd hlm (Nat.not_lt_zero _)
          obtain ⟨x0, x1, x2⟩ := ((((ha i hll).below hb2).below hb3).below hb4).below hb
          obtain ⟨y0, y1, y2⟩ := ((hmm i hlm).below hb4).below hb
          obtain ⟨k1, k2⟩ := kt_at HK.out i hlm hll
          rw [k1] at y0
          rw [k2] at y1
          obtain ⟨K, hK⟩ : ∃ K, T[i].kind = K := ⟨_, rfl⟩
          obtain ⟨X, hX⟩ : ∃ X, T[i].text = X := ⟨_, rfl⟩
          rw [hK] at x0 y0
          rw [hX] at x1 y1
          have i1 : (0 : Int) ≤ (i : Int) := by omega
          have i2 : (i : Int) < (N : Int) := by omega
          clear ha hmm k1 k2 hK hX x2 y2
          go_wp2
          go_quiet (fail)
          go_wp2
          go_roundw
          case rel => exact ⟨bel hb (bel_dn _ _), i + 1, by omega, by go_num⟩
          case measure => simp [intOf]; omega
        · have : i = N := by omega
          subst this
          go_wp2_with (go_at_call 12; refine (works_any _).mono ?_; rintro e w5 ⟨rfl, hb5⟩)
          go_ret
          exact ⟨rfl, bel (bel (bel (bel (bel hb1 hb2) hb3) hb4) hb) hb5⟩
  · have hE1 : (E != 0) = true := by simpa using hE
    have hE2 : (E == 0) = false := by simpa using hE
    have H1 : Hid (Calls Try.prog 9 #[.string s] w fun e w' => ∃ v, e = .returned (.tuple #[v, .int .i64 E, .int .i64 (P : Int)]) ∧ Own w' w.heap.size v T ∧ Below w.heap.size w w') := S1
    clear S1 hl htx hsh hE
    go_enter Try.func6, Try.ntmps6
    go_wp2_with (first
      | ((with_reducible refine H1.out.mono ?_); rintro e w1 ⟨v1, rfl, ho1, hb1⟩; clear ho1)
      | (go_at_call 12; refine (works_any _).mono ?_; rintro e w4 ⟨rfl, hb4⟩))
    go_ret
    exact ⟨rfl, bel hb1 hb4⟩

end Go.Proofs.Ytheedniegjcbgaa
