import Derived.Test.YtheedniegjcbgaaLexPure
import Derived.Deep.RegionHeld3
/- LexLies: its laws, and the walks of width and gap. -/
namespace Go.Proofs.Ytheedniegjcbgaa
open Go.RowKit
set_option linter.unusedVariables false
set_option linter.unusedSimpArgs false

theorem scan_cases (l : Bs) : ((scanP l).err ≠ 0 ∧ (scanP l).toks = []) ∨ ((scanP l).err = 0 ∧ l.length ≤ 65536 ∧ (scanP l).toks = (scan0 l).toks ++ [⟨0, [], l.length⟩] ∧ (scan0 l).err = 0) := by
  unfold scanP
  split
  · exact .inl ⟨by decide, rfl⟩
  · split
    · rename_i h; exact .inl ⟨h, rfl⟩
    · rename_i h h'
      exact .inr ⟨rfl, by omega, rfl, by simpa using h'⟩

theorem skp_suffix : ∀ (c : Bool) (r : Bs), skp c r = r.drop (r.length - (skp c r).length)
  | c, [] => by cases c <;> rfl
  | false, b :: t => by
    have hle := skp_le false t
    have hle2 := skp_le true t
    rw [skp]
    split
    · have ih := skp_suffix false t
      rw [show (b :: t).length - (skp false t).length = (t.length - (skp false t).length) + 1 by simp; omega, List.drop_succ_cons]
      exact ih
    · split
      · have ih := skp_suffix true t
        rw [show (b :: t).length - (skp true t).length = (t.length - (skp true t).length) + 1 by simp; omega, List.drop_succ_cons]
        exact ih
      · rw [Nat.sub_self]; rfl
  | true, b :: t => by
    have hle := skp_le false t
    have hle2 := skp_le true t
    rw [skp]
    split
    · have ih := skp_suffix false t
      rw [show (b :: t).length - (skp false t).length = (t.length - (skp false t).length) + 1 by simp; omega, List.drop_succ_cons]
      exact ih
    · have ih := skp_suffix true t
      rw [show (b :: t).length - (skp true t).length = (t.length - (skp true t).length) + 1 by simp; omega, List.drop_succ_cons]
      exact ih

/-- From the place p on: the tokens from number i on. -/
def LiesAt (l : Bs) (T : List Tok) (i p : Nat) : Prop :=
  (i < T.length ∧ p ≤ l.length ∧ ∃ f, (l.drop p).length ≤ f ∧ T.drop i = (scanF l.length f (skp false (l.drop p))).toks ++ [⟨0, [], l.length⟩] ∧ (scanF l.length f (skp false (l.drop p))).err = 0) ∨ (i = T.length ∧ p = l.length)

theorem lies_start (l : Bs) (h : (scan0 l).err = 0) : LiesAt l ((scan0 l).toks ++ [⟨0, [], l.length⟩]) 0 0 :=
  .inl ⟨by simp, Nat.zero_le _, l.length, by simp, rfl, h⟩

theorem lies_step (l : Bs) (T : List Tok) (i p : Nat) (h : LiesAt l T i p) (hi : i < T.length) :
    p ≤ T[i].at_ ∧ T[i].at_ + (quo T[i].kind T[i].text).length ≤ l.length ∧ gapB ((l.drop p).take (T[i].at_ - p)) (decide (i + 1 = T.length)) = true ∧
    (l.drop T[i].at_).take (quo T[i].kind T[i].text).length = quo T[i].kind T[i].text ∧ (T[i].kind = 0 ↔ i + 1 = T.length) ∧ LiesAt l T (i + 1) (T[i].at_ + (quo T[i].kind T[i].text).length) := by
  rcases h with ⟨_, hp, f, hf, hT, he⟩ | ⟨h, _⟩
  · have hcons : T.drop i = T[i] :: T.drop (i + 1) := List.drop_eq_getElem_cons hi
    have hsk := skp_le false (l.drop p)
    have hsx := skp_suffix false (l.drop p)
    rw [List.length_drop] at hsk hsx
    obtain ⟨r, hr⟩ : ∃ r, skp false (l.drop p) = r := ⟨_, rfl⟩
    have gm := gap_mid (l.drop p)
    have gl := gap_last (l.drop p)
    rw [hr] at hT he hsk hsx gm gl
    cases r with
    | nil =>
      rw [scanF_nil] at hT
      have hT' : T[i] :: T.drop (i + 1) = [⟨0, [], l.length⟩] := by rw [← hcons, hT]; rfl
      obtain ⟨h1, h2⟩ := List.cons.inj hT'
      have hlast : i + 1 = T.length := by
        have := congrArg List.length h2
        rw [List.length_drop] at this
        simp at this
        omega
      rw [h1]
      refine ⟨hp, by simp [quo], ?_, by simp [quo], ⟨fun _ => hlast, fun _ => rfl⟩, .inr ⟨hlast, by simp [quo]⟩⟩
      simp only
      rw [List.take_of_length_le (by rw [List.length_drop]; omega), decide_eq_true hlast]
      exact gl rfl
    | cons b t =>
      have hfl : 1 ≤ f := by rw [List.length_drop] at hf; simp at hsk; omega
      obtain ⟨f', rfl⟩ : ∃ f', f = f' + 1 := ⟨f - 1, by omega⟩
      by_cases hte : (tokL (b :: t)).err = 0
      · have ok := okay_tok (b :: t) (by simp) hte
        have hq := quo_tok (b :: t) (by simp) hte
        rw [scanF_tok _ f' _ (by simp) hte] at hT he
        rw [hcons, List.cons_append] at hT
        obtain ⟨h1, h2⟩ := List.cons.inj hT
        rw [h1]
        simp only at he h2 ⊢
        obtain ⟨A, hA⟩ : ∃ A, l.length - (b :: t).length = A := ⟨_, rfl⟩
        have hdA : l.drop A = b :: t := by
          rw [hsx, List.drop_drop]
          congr 1
          omega
        have hqt : (quo (tokL (b :: t)).kind (textOf (tokL (b :: t)).kind ((b :: t).take (tokL (b :: t)).len))).length = (tokL (b :: t)).len := by
          rw [hq, List.length_take, Nat.min_eq_left ok.2.1]
        rw [hqt, hA, hdA, hq]
        have hlen2 : A + (b :: t).length = l.length := by omega
        have hnx : T.drop (i + 1) ≠ [] := by rw [h2]; simp
        have hlt : i + 1 < T.length := by
          rcases Nat.lt_or_ge (i + 1) T.length with c | c
          · exact c
          · exact absurd (List.drop_of_length_le c) hnx
        refine ⟨by omega, by have := ok.2.1; omega, ?_, rfl, ⟨fun h => by have := ok.2.2.1; omega, fun h => by omega⟩, .inl ⟨hlt, by have := ok.2.1; omega, f', ?_, ?_, ?_⟩⟩
        · rw [decide_eq_false (by omega)]
          have := gm (by simp)
          rw [List.length_drop, show l.length - p - (b :: t).length = A - p by omega] at this
          exact this
        · rw [List.length_drop]
          have := ok.1
          rw [List.length_drop] at hf
          omega
        · rw [h2, ← List.drop_drop, hdA]
        · rw [← List.drop_drop, hdA]
          exact he
      · rw [scanF_err _ f' _ (by simp) hte] at he
        exact absurd he hte
  · omega

set_option maxHeartbeats 1000000 in
theorem width_any (K : Int) (X : Bs) (A : Int) (hX : X.length ≤ 65536) (w : World) :
    Calls Try.prog 15 #[.agg #[.int .i64 K, .string ⟨X.toArray⟩, .int .i64 A]] w fun e w' => e = .returned (.int .i64 ((quo K X).length : Int)) ∧ Below w.heap.size w w' := by
  have hq := quo_len K X
  by_cases h4 : (K == 4) = true
  · rw [if_pos h4] at hq
    rw [hq]
    clear hq
    go_enter Try.func15, Try.ntmps15
    go_wp2
    go_ret
    exact ⟨by simp, bel_alloc _ _⟩
  · rw [if_neg h4] at hq
    rw [hq]
    clear hq
    go_enter Try.func15, Try.ntmps15
    go_wp2
    go_ret
    exact ⟨by simp, bel_alloc _ _⟩

theorem gapS_10 {t : ByteArray} {i : Nat} {c : Bool} (h : i < t.size) (e : (t[i].toNat : Int) = 10) : gapS c ((bs t).drop i) = gapS false ((bs t).drop (i + 1)) := by
  rw [drop_at t i h, gapS, if_pos (by rw [show nb t[i] = 10 from e]; rfl)]
theorem gapS_bl {t : ByteArray} {i : Nat} {c : Bool} (h : i < t.size) (n : (t[i].toNat : Int) ≠ 10) (e : c = true ∨ (t[i].toNat : Int) = 9 ∨ (t[i].toNat : Int) = 13 ∨ (t[i].toNat : Int) = 32) : gapS c ((bs t).drop i) = gapS c ((bs t).drop (i + 1)) := by
  rw [drop_at t i h, gapS, if_neg (by simpa [nb] using n)]
  rcases e with e | e | e | e
  · rw [e]; rfl
  · rw [show nb t[i] = 9 from e]; simp
  · rw [show nb t[i] = 13 from e]; simp
  · rw [show nb t[i] = 32 from e]; simp
theorem gapS_35 {t : ByteArray} {i : Nat} (h : i < t.size) (e : (t[i].toNat : Int) = 35) : gapS false ((bs t).drop i) = gapS true ((bs t).drop (i + 1)) := by
  rw [drop_at t i h, gapS, show nb t[i] = 35 from e]
  rfl
theorem gapS_no {t : ByteArray} {i : Nat} (h : i < t.size) (h1 : (t[i].toNat : Int) ≠ 10) (h2 : (t[i].toNat : Int) ≠ 9) (h3 : (t[i].toNat : Int) ≠ 13) (h4 : (t[i].toNat : Int) ≠ 32) (h5 : (t[i].toNat : Int) ≠ 35) : gapS false ((bs t).drop i) = none := by
  rw [drop_at t i h, gapS, if_neg (by simpa [nb] using h1), if_neg (by simpa [nb] using ⟨⟨h2, h3⟩, h4⟩), if_neg (by simpa [nb] using h5)]

set_option maxRecDepth 100000 in
set_option maxHeartbeats 4000000 in
theorem gap_any (t : ByteArray) (ht : t.size ≤ 65536) (last : Bool) (w : World) :
    Calls Try.prog 16 #[.string t, .bool last] w fun e w' => e = .returned (.bool (gapB (bs t) last)) ∧ w' = w := by
  go_enter Try.func16, Try.ntmps16
  go_wp2
  go_loopw [5, 6] (fun cv iv wr => wr = w ∧ ∃ (i : Nat) (c : Bool), i ≤ t.size ∧ iv = .int .i64 i ∧ cv = .bool c ∧ gapS false (bs t) = gapS c ((bs t).drop i)) (fun _ iv _ => t.size - (intOf iv).toNat)
  case atStart => exact ⟨rfl, 0, false, Nat.zero_le _, rfl, rfl, rfl⟩
  case round =>
    obtain ⟨rfl, i, c, hi, rfl, rfl, hg⟩ := hrel
    have HG : Hid (gapS false (bs t) = gapS c ((bs t).drop i)) := hg
    clear hg
    by_cases hlt : i < t.size
    · have i1 : (0 : Int) ≤ (i : Int) := by omega
      have i2 : (i : Int) < (t.size : Int) := by omega
      by_cases h10 : (t[i].toNat : Int) = 10
      · have H : Hid (gapS false (bs t) = gapS false ((bs t).drop (i + 1))) := HG.out.trans (gapS_10 hlt h10)
        have b10 : ((t[i].toNat : Int) == 10) = true := by simpa using h10
        clear h10
        go_wp2
        go_roundw
        case rel => exact ⟨by trivial, i + 1, false, by omega, by go_num, rfl, H.out⟩
        case measure => simp [intOf]; omega
      · have b10 : ((t[i].toNat : Int) == 10) = false := by simpa using h10
        cases c
        · by_cases h9 : (t[i].toNat : Int) = 9 ∨ (t[i].toNat : Int) = 13 ∨ (t[i].toNat : Int) = 32
          · have H : Hid (gapS false (bs t) = gapS false ((bs t).drop (i + 1))) := HG.out.trans (gapS_bl hlt h10 (.inr h9))
            clear h10
            rcases h9 with h9 | h9 | h9
            · have b9 : ((t[i].toNat : Int) == 9) = true := by simpa using h9
              clear h9
              go_wp2
              go_roundw
              case rel => exact ⟨by trivial, i + 1, false, by omega, by go_num, rfl, H.out⟩
              case measure => simp [intOf]; omega
            · have b9 : ((t[i].toNat : Int) == 9) = false := by rw [h9]; rfl
              have b13 : ((t[i].toNat : Int) == 13) = true := by simpa using h9
              clear h9
              go_wp2
              go_roundw
              case rel => exact ⟨by trivial, i + 1, false, by omega, by go_num, rfl, H.out⟩
              case measure => simp [intOf]; omega
            · have b9 : ((t[i].toNat : Int) == 9) = false := by rw [h9]; rfl
              have b13 : ((t[i].toNat : Int) == 13) = false := by rw [h9]; rfl
              have b32 : ((t[i].toNat : Int) == 32) = true := by simpa using h9
              clear h9
              go_wp2
              go_roundw
              case rel => exact ⟨by trivial, i + 1, false, by omega, by go_num, rfl, H.out⟩
              case measure => simp [intOf]; omega
          · obtain ⟨n9, h'⟩ := not_or.1 h9
            obtain ⟨n13, n32⟩ := not_or.1 h'
            have b9 : ((t[i].toNat : Int) == 9) = false := by simpa using n9
            have b13 : ((t[i].toNat : Int) == 13) = false := by simpa using n13
            have b32 : ((t[i].toNat : Int) == 32) = false := by simpa using n32
            by_cases h35 : (t[i].toNat : Int) = 35
            · have H : Hid (gapS false (bs t) = gapS true ((bs t).drop (i + 1))) := HG.out.trans (gapS_35 hlt h35)
              have b35 : ((t[i].toNat : Int) == 35) = true := by simpa using h35
              clear h10 h9 h' n9 n13 n32 h35
              go_wp2
              go_roundw
              case rel => exact ⟨by trivial, i + 1, true, by omega, by go_num, rfl, H.out⟩
              case measure => simp [intOf]; omega
            · have H : gapB (bs t) last = false := by
                unfold gapB
                rw [HG.out, gapS_no hlt h10 n9 n13 n32 h35]
              have b35 : ((t[i].toNat : Int) == 35) = false := by simpa using h35
              have HH : Hid (gapB (bs t) last = false) := H
              clear h10 h9 h' n9 n13 n32 h35 H
              go_wp2
              go_ret
              exact ⟨ret_bool HH.out.symm, rfl⟩
        · have H : Hid (gapS false (bs t) = gapS true ((bs t).drop (i + 1))) := HG.out.trans (gapS_bl hlt h10 (.inl rfl))
          clear h10
          go_wp2
          go_roundw
          case rel => exact ⟨by trivial, i + 1, true, by omega, by go_num, rfl, H.out⟩
          case measure => simp [intOf]; omega
    · have : i = t.size := by omega
      subst this
      have H : gapB (bs t) last = (!c || last) := by
        unfold gapB
        rw [HG.out, drop_end t _ (Nat.le_refl _)]
        rfl
      have HH : Hid (gapB (bs t) last = (!c || last)) := H
      clear H HG
      cases c
      · go_wp2
        go_ret
        exact ⟨ret_bool (by rw [HH.out]; rfl), rfl⟩
      · go_wp2
        go_ret
        exact ⟨ret_bool (by rw [HH.out]; rfl), rfl⟩

end Go.Proofs.Ytheedniegjcbgaa
