import Derived.Test.YtheedniegjcbgaaLexRefNum
import Derived.Test.YtheedniegjcbgaaLexShelf
/- Package lex: token; the reference's quoted. -/
namespace Go.Proofs.Ytheedniegjcbgaa
open Go.RowKit
set_option linter.unusedVariables false
set_option linter.unusedSimpArgs false

theorem mark_fin : ∀ n : Fin 256, Lib.indexByte [40, 41, 44, 61, 45, 59] n.val.toUInt8 = markOf (n.val : Int) := of_decide_eq_true (by kernel_rfl)
theorem mark_byte (b : UInt8) : Lib.indexByte [40, 41, 44, 61, 45, 59] (b.toNat : Int).toNat.toUInt8 = markOf (b.toNat : Int) :=
  mark_fin ⟨b.toNat, b.toNat_lt⟩
theorem mark_any (b : UInt8) (w : World) :
    Calls Try.prog 33 #[.string ⟨#[40, 41, 44, 61, 45, 59]⟩, .int .u8 (b.toNat : Int)] w fun e w' => e = .returned (.int .i64 (markOf (b.toNat : Int))) ∧ w' = w := by
  have h := sh_strings_IndexByte ⟨#[40, 41, 44, 61, 45, 59]⟩ (b.toNat : Int) w
  rw [show (ByteArray.mk #[40, 41, 44, 61, 45, 59]).data.toList = [40, 41, 44, 61, 45, 59] from rfl, mark_byte] at h
  exact h

def tokN (s : ByteArray) (i : Nat) : T3 :=
  if pLetter (peekN s i) then fitN 1 (pastN pInName s i) ((pastN pInName s i : Int) - i)
  else if pDigit (peekN s i) then numN s i
  else if peekN s i == 34 then (if peekN s (pastN pInText s (i + 1)) == 34 then fitN 4 ((pastN pInText s (i + 1) : Int) + 1) ((pastN pInText s (i + 1) : Int) - i - 1) else ⟨0, 0, 61⟩)
  else if 0 ≤ markOf (peekN s i) then ⟨5 + markOf (peekN s i), (i : Int) + 1, 0⟩
  else ⟨0, 0, 60⟩

theorem past_text (s : ByteArray) (hs : s.size ≤ 65536) (x : Int) (i : Nat) (h : x = (i : Int)) (hi : i ≤ s.size) (w : World) :
    Calls Try.prog 27 #[.string s, .int .i64 x, .func (.func 37) #[] #[]] w fun e w' => e = .returned (.int .i64 (pastN pInText s i)) ∧ w' = w := by
  subst h
  exact past_any pInText _ ent_isInText isInText_any s hs i hi w

theorem mark_hi (c : Int) : markOf c ≤ 5 ∧ -1 ≤ markOf c := by
  unfold markOf
  repeat' split
  all_goals omega

set_option maxRecDepth 100000 in
set_option maxHeartbeats 4000000 in
theorem token_any (s : ByteArray) (hs : s.size ≤ 65536) (i : Nat) (hi : i < s.size) (w : World) :
    Calls Try.prog 18 #[.string s, .int .i64 i] w fun e w' => e = .returned (ret3 (tokN s i)) ∧ w' = w := by
  have i1 : (0 : Int) ≤ (i : Int) := by omega
  have i2 : (i : Int) < (s.size : Int) := by omega
  have hv := peekN_at hi
  have HV : Hid (peekN s i = (s[i].toNat : Int)) := hv
  clear hv
  cases hL : pLetter (s[i].toNat : Int)
  · cases hD : pDigit (s[i].toNat : Int)
    · by_cases h34 : ((s[i].toNat : Int) == 34) = true
      · obtain ⟨q, hq⟩ : ∃ q, pastN pInText s (i + 1) = q := ⟨_, rfl⟩
        have hle : q ≤ s.size := by rw [← hq]; exact pastN_le (by omega)
        have hge : i + 1 ≤ q := by rw [← hq]; exact Nat.le_add_right _ _
        have HQ : Hid (pastN pInText s (i + 1) = q) := hq
        clear hq
        by_cases hf : (peekN s q == 34) = true
        · go_enter Try.func18, Try.ntmps18
          go_wp2
          refine wp_scope_onward 2 ?_
          intro c' hc
          go_wp2_with (first
            | (go_at_call 31; refine (isLetter_any _ _).mono ?_; rintro e w1 ⟨rfl, rfl⟩; rw [hL])
            | (go_at_call 32; refine (isDigit_any _ _).mono ?_; rintro e w1 ⟨rfl, rfl⟩; rw [hD]))
          go_step3
          refine onward_goto hc rfl ?_
          go_wp2_with (first
            | (go_at_call 27; refine (past_text s hs _ (i + 1) (by omega) (by omega) _).mono ?_; rw [HQ.out]; rintro e w1 ⟨rfl, rfl⟩)
            | (go_at_call 29; refine (peek_at s hs _ q (by omega) _).mono ?_; rintro e w1 ⟨rfl, rfl⟩)
            | (go_at_call 35; refine (fit_any _ _ _ _).mono ?_; rintro e w1 ⟨rfl, rfl⟩))
          all_goals ((try rw [onward_ret]); go_ret3; refine ⟨congrArg Ending.returned ?_, rfl⟩; simp [ret3, tokN, fitN, HV.out, HQ.out, *] <;> omega)
        · have hf1 : (peekN s q == 34) = false := by simpa using hf
          have hf2 : (peekN s q != 34) = true := by simpa using hf
          have HT : Hid (tokN s i = ⟨0, 0, 61⟩) := by
            show _ = _
            unfold tokN
            rw [HV.out, HQ.out, hL, hD, h34, hf1]
            simp
          go_enter Try.func18, Try.ntmps18
          go_wp2
          refine wp_scope_onward 2 ?_
          intro c' hc
          go_wp2_with (first
            | (go_at_call 31; refine (isLetter_any _ _).mono ?_; rintro e w1 ⟨rfl, rfl⟩; rw [hL])
            | (go_at_call 32; refine (isDigit_any _ _).mono ?_; rintro e w1 ⟨rfl, rfl⟩; rw [hD]))
          go_step3
          refine onward_goto hc rfl ?_
          go_wp2_with (first
            | (go_at_call 27; refine (past_text s hs _ (i + 1) (by omega) (by omega) _).mono ?_; rw [HQ.out]; rintro e w1 ⟨rfl, rfl⟩)
            | (go_at_call 29; refine (peek_at s hs _ q (by omega) _).mono ?_; rintro e w1 ⟨rfl, rfl⟩))
          all_goals ((try rw [onward_ret]); go_ret3; refine ⟨congrArg Ending.returned ?_, rfl⟩; rw [HT.out]; rfl)
      · have hm := mark_hi (s[i].toNat : Int)
        have hm2 : Hid (markOf (s[i].toNat : Int) ≤ 5 ∧ -1 ≤ markOf (s[i].toNat : Int)) := hm
        clear hm
        have M := mark_any s[i] w
        obtain ⟨m, hmm⟩ : ∃ m, markOf (s[i].toNat : Int) = m := ⟨_, rfl⟩
        rw [hmm] at hm2 M
        have HM : Hid (markOf (s[i].toNat : Int) = m) := hmm
        have m1 := hm2.out.1
        have m2 := hm2.out.2
        have H1 : Hid (Calls Try.prog 33 #[.string ⟨#[40, 41, 44, 61, 45, 59]⟩, .int .u8 (s[i].toNat : Int)] w fun e w' => e = .returned (.int .i64 m) ∧ w' = w) := M
        clear hmm hm2 M
        by_cases h0 : 0 ≤ m
        · go_enter Try.func18, Try.ntmps18
          go_wp2
          refine wp_scope_onward 2 ?_
          intro c' hc
          go_wp2_with (first
            | ((with_reducible refine H1.out.mono ?_); rintro e w1 ⟨rfl, rfl⟩)
            | (go_at_call 31; refine (isLetter_any _ _).mono ?_; rintro e w1 ⟨rfl, rfl⟩; rw [hL])
            | (go_at_call 32; refine (isDigit_any _ _).mono ?_; rintro e w1 ⟨rfl, rfl⟩; rw [hD]))
          go_step3
          refine onward_goto hc rfl ?_
          go_wp2_with (first
            | ((with_reducible refine H1.out.mono ?_); rintro e w1 ⟨rfl, rfl⟩))
          all_goals ((try rw [onward_ret]); go_ret3; refine ⟨congrArg Ending.returned ?_, rfl⟩; simp [ret3, tokN, fitN, HV.out, HM.out, *] <;> omega)
        · have HT : Hid (tokN s i = ⟨0, 0, 60⟩) := by
            show _ = _
            unfold tokN
            rw [HV.out, HM.out, hL, hD, if_neg (by simp), if_neg (by simp), if_neg h34, if_neg h0]
          have h1 : m < 0 := by omega
          go_enter Try.func18, Try.ntmps18
          go_wp2
          refine wp_scope_onward 2 ?_
          intro c' hc
          go_wp2_with (first
            | ((with_reducible refine H1.out.mono ?_); rintro e w1 ⟨rfl, rfl⟩)
            | (go_at_call 31; refine (isLetter_any _ _).mono ?_; rintro e w1 ⟨rfl, rfl⟩; rw [hL])
            | (go_at_call 32; refine (isDigit_any _ _).mono ?_; rintro e w1 ⟨rfl, rfl⟩; rw [hD]))
          all_goals ((try rw [onward_ret]); go_ret3; refine ⟨congrArg Ending.returned ?_, rfl⟩; rw [HT.out]; rfl)
    · have N1 := numeral_any s hs i (by omega) w
      have HT : Hid (tokN s i = numN s i) := by
        show _ = _
        unfold tokN
        rw [HV.out, hL, hD]
        simp
      obtain ⟨t, ht⟩ : ∃ t, numN s i = t := ⟨_, rfl⟩
      rw [ht] at N1 HT
      obtain ⟨a, b, c⟩ := t
      unfold ret3 at N1
      have H1 : Hid (Calls Try.prog 36 #[.string s, .int .i64 (i : Int)] w fun e w' => e = .returned (.tuple #[.int .i64 a, .int .i64 b, .int .i64 c]) ∧ w' = w) := N1
      clear N1 ht
      go_enter Try.func18, Try.ntmps18
      go_wp2
      refine wp_scope_onward 2 ?_
      intro c' hc
      go_wp2_with (first
        | (go_at_call 31; refine (isLetter_any _ _).mono ?_; rintro e w1 ⟨rfl, rfl⟩; rw [hL])
        | (go_at_call 32; refine (isDigit_any _ _).mono ?_; rintro e w1 ⟨rfl, rfl⟩; rw [hD]))
      go_step3
      refine onward_goto hc rfl ?_
      go_wp2_with ((with_reducible refine H1.out.mono ?_); rintro e w1 ⟨rfl, rfl⟩)
      all_goals ((try rw [onward_ret]); go_ret3; refine ⟨congrArg Ending.returned ?_, rfl⟩; rw [HT.out]; rfl)
  · obtain ⟨q, hq⟩ : ∃ q, pastN pInName s i = q := ⟨_, rfl⟩
    have hle : q ≤ s.size := by rw [← hq]; exact pastN_le (by omega)
    have hge : i ≤ q := by rw [← hq]; exact Nat.le_add_right _ _
    have P1 := past_any pInName _ ent_isInName isInName_any s hs i (by omega) w
    have HQ : Hid (pastN pInName s i = q) := hq
    rw [hq] at P1
    have H1 : Hid (Calls Try.prog 27 #[.string s, .int .i64 (i : Int), .func (.func 34) #[] #[]] w fun e w' => e = .returned (.int .i64 q) ∧ w' = w) := P1
    clear hq P1
    go_enter Try.func18, Try.ntmps18
    go_wp2
    refine wp_scope_onward 2 ?_
    intro c' hc
    go_wp2_with (go_at_call 31; refine (isLetter_any _ _).mono ?_; rintro e w1 ⟨rfl, rfl⟩; rw [hL])
    go_step3
    refine onward_goto hc rfl ?_
    go_wp2_with (first
      | ((with_reducible refine H1.out.mono ?_); rintro e w1 ⟨rfl, rfl⟩)
      | (go_at_call 35; refine (fit_any _ _ _ _).mono ?_; rintro e w1 ⟨rfl, rfl⟩))
    all_goals ((try rw [onward_ret]); go_ret3; refine ⟨congrArg Ending.returned ?_, rfl⟩; simp [ret3, tokN, fitN, HV.out, HQ.out, *] <;> omega)

end Go.Proofs.Ytheedniegjcbgaa
