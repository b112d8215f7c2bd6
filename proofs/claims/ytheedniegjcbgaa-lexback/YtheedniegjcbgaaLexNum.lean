import Derived.Test.YtheedniegjcbgaaLexRuns
/- Package lex: numeral. -/
namespace Go.Proofs.Ytheedniegjcbgaa
open Go.RowKit
set_option linter.unusedVariables false
set_option linter.unusedSimpArgs false

theorem peek_at (s : ByteArray) (hs : s.size ≤ 65536) (x : Int) (i : Nat) (h : x = (i : Int)) (w : World) :
    Calls Try.prog 29 #[.string s, .int .i64 x] w fun e w' => e = .returned (.int .u8 (peekN s i)) ∧ w' = w := by
  subst h
  exact peek_any s hs i w
theorem past_digit (s : ByteArray) (hs : s.size ≤ 65536) (x : Int) (i : Nat) (h : x = (i : Int)) (hi : i ≤ s.size) (w : World) :
    Calls Try.prog 27 #[.string s, .int .i64 x, .func (.func 32) #[] #[]] w fun e w' => e = .returned (.int .i64 (pastN pDigit s i)) ∧ w' = w := by
  subst h
  exact past_any pDigit _ ent_isDigit isDigit_any s hs i hi w

theorem peek_lt {s : ByteArray} {i : Nat} (p : Int → Bool) (h0 : p 0 = false) (h : p (peekN s i) = true) : i < s.size := by
  rcases Nat.lt_or_ge i s.size with c | c
  · exact c
  · rw [peekN_end c, h0] at h; cases h

structure T3 where
  kind : Int
  fin : Int
  err : Int

def ret3 (t : T3) : Value := .tuple #[.int .i64 t.kind, .int .i64 t.fin, .int .i64 t.err]

def fitN (kind fin counted : Int) : T3 := ⟨if counted > 64 then 0 else kind, if counted > 64 then 0 else fin, if counted > 64 then 2 else 0⟩
def behindN (s : ByteArray) (i : Nat) (kind : Int) (k : Nat) : T3 := if pLetter (peekN s k) || peekN s k == 46 then ⟨0, 0, 62⟩ else fitN kind k ((k : Int) - i)
def expN (s : ByteArray) (i k : Nat) : T3 := if pDigit (peekN s k) then behindN s i 2 (pastN pDigit s k) else ⟨0, 0, 62⟩
def expoN (s : ByteArray) (i k : Nat) : T3 := if pSign (peekN s (k + 1)) then expN s i (k + 2) else expN s i (k + 1)
def tailN (s : ByteArray) (i : Nat) (kind : Int) (k : Nat) : T3 := if pExponent (peekN s k) then expoN s i k else behindN s i kind k
def numN (s : ByteArray) (i : Nat) : T3 :=
  if peekN s (pastN pDigit s i) == 46 then
    (if pDigit (peekN s (pastN pDigit s i + 1)) then tailN s i 2 (pastN pDigit s (pastN pDigit s i + 1)) else ⟨0, 0, 62⟩)
  else tailN s i 3 (pastN pDigit s i)

set_option maxHeartbeats 4000000 in
theorem numeral_any (s : ByteArray) (hs : s.size ≤ 65536) (i : Nat) (hi : i ≤ s.size) (w : World) :
    Calls Try.prog 36 #[.string s, .int .i64 i] w fun e w' => e = .returned (ret3 (numN s i)) ∧ w' = w := by
  obtain ⟨k, hk⟩ : ∃ k, pastN pDigit s i = k := ⟨_, rfl⟩
  have hle : k ≤ s.size := by rw [← hk]; exact pastN_le hi
  have HK : Hid (pastN pDigit s i = k) := hk
  have P1 := past_digit s hs (i : Int) i rfl hi w
  rw [hk] at P1
  have H1 : Hid (Calls Try.prog 27 #[.string s, .int .i64 (i : Int), .func (.func 32) #[] #[]] w fun e w' => e = .returned (.int .i64 k) ∧ w' = w) := P1
  clear P1 hk
  go_enter Try.func36, Try.ntmps36
  go_wp2
  refine wp_scope_onward 6 ?_
  intro c' hc
  by_cases h46 : (peekN s k == 46) = true
  · go_wp2_with (first
      | ((with_reducible refine H1.out.mono ?_); rintro e w1 ⟨rfl, rfl⟩)
      | (go_at_call 29; refine (peek_at s hs _ (k) (by omega) _).mono ?_; rintro e w1 ⟨rfl, rfl⟩))
    cases hD : pDigit (peekN s (k + 1))
    · go_step3
      refine onward_goto hc rfl ?_
      go_wp2_with (first
        | (go_at_call 29; refine (peek_at s hs _ (k + 1) (by omega) _).mono ?_; rintro e w1 ⟨rfl, rfl⟩)
        | (go_at_call 32; refine (isDigit_any _ _).mono ?_; rintro e w1 ⟨rfl, rfl⟩; rw [hD]))
      go_step3
      refine onward_goto hc rfl ?_
      go_wp2
      all_goals ((try rw [onward_ret]); go_ret3; refine ⟨congrArg Ending.returned ?_, rfl⟩; simp [ret3, numN, tailN, expoN, expN, behindN, fitN, HK.out, *] <;> omega)
    · have hlt : k + 1 < s.size := peek_lt pDigit rfl hD
      obtain ⟨q, hq⟩ : ∃ q, pastN pDigit s (k + 1) = q := ⟨_, rfl⟩
      have hql : q ≤ s.size := by rw [← hq]; exact pastN_le (by omega)
      have hqg : k + 1 ≤ q := by rw [← hq]; exact Nat.le_add_right _ _
      have HQ : Hid (pastN pDigit s (k + 1) = q) := hq
      clear hq
      cases hE : pExponent (peekN s q)
      · go_step3
        refine onward_goto hc rfl ?_
        go_wp2_with (first
          | (go_at_call 27; refine (past_digit s hs _ (k + 1) (by omega) (by omega) _).mono ?_; rw [HQ.out]; rintro e w1 ⟨rfl, rfl⟩)
          | (go_at_call 29; refine (peek_at s hs _ (k + 1) (by omega) _).mono ?_; rintro e w1 ⟨rfl, rfl⟩)
          | (go_at_call 29; refine (peek_at s hs _ (q) (by omega) _).mono ?_; rintro e w1 ⟨rfl, rfl⟩)
          | (go_at_call 32; refine (isDigit_any _ _).mono ?_; rintro e w1 ⟨rfl, rfl⟩; rw [hD])
          | (go_at_call 47; refine (isExponent_any _ _).mono ?_; rintro e w1 ⟨rfl, rfl⟩; rw [hE]))
        have H46 := h46
        clear h46
        cases hL : pLetter (peekN s q)
        · by_cases h46 : (peekN s q == 46) = true
          · go_step3
            refine onward_goto hc rfl ?_
            go_wp2_with (first
              | (go_at_call 29; refine (peek_at s hs _ (q) (by omega) _).mono ?_; rintro e w1 ⟨rfl, rfl⟩)
              | (go_at_call 31; refine (isLetter_any _ _).mono ?_; rintro e w1 ⟨rfl, rfl⟩; rw [hL])
              | (go_at_call 35; refine (fit_any _ _ _ _).mono ?_; rintro e w1 ⟨rfl, rfl⟩))
            go_step3
            refine onward_goto hc rfl ?_
            go_wp2
            all_goals ((try rw [onward_ret]); go_ret3; refine ⟨congrArg Ending.returned ?_, rfl⟩; simp [ret3, numN, tailN, expoN, expN, behindN, fitN, HK.out, HQ.out, *] <;> omega)
          · go_step3
            refine onward_goto hc rfl ?_
            go_wp2_with (first
              | (go_at_call 29; refine (peek_at s hs _ (q) (by omega) _).mono ?_; rintro e w1 ⟨rfl, rfl⟩)
              | (go_at_call 31; refine (isLetter_any _ _).mono ?_; rintro e w1 ⟨rfl, rfl⟩; rw [hL])
              | (go_at_call 35; refine (fit_any _ _ _ _).mono ?_; rintro e w1 ⟨rfl, rfl⟩))
            all_goals ((try rw [onward_ret]); go_ret3; refine ⟨congrArg Ending.returned ?_, rfl⟩; simp [ret3, numN, tailN, expoN, expN, behindN, fitN, HK.out, HQ.out, *] <;> omega)
        · go_step3
          refine onward_goto hc rfl ?_
          go_wp2_with (first
            | (go_at_call 29; refine (peek_at s hs _ (q) (by omega) _).mono ?_; rintro e w1 ⟨rfl, rfl⟩)
            | (go_at_call 31; refine (isLetter_any _ _).mono ?_; rintro e w1 ⟨rfl, rfl⟩; rw [hL])
            | (go_at_call 35; refine (fit_any _ _ _ _).mono ?_; rintro e w1 ⟨rfl, rfl⟩))
          go_step3
          refine onward_goto hc rfl ?_
          go_wp2
          all_goals ((try rw [onward_ret]); go_ret3; refine ⟨congrArg Ending.returned ?_, rfl⟩; simp [ret3, numN, tailN, expoN, expN, behindN, fitN, HK.out, HQ.out, *] <;> omega)
      · go_step3
        refine onward_goto hc rfl ?_
        go_wp2_with (first
          | (go_at_call 27; refine (past_digit s hs _ (k + 1) (by omega) (by omega) _).mono ?_; rw [HQ.out]; rintro e w1 ⟨rfl, rfl⟩)
          | (go_at_call 29; refine (peek_at s hs _ (k + 1) (by omega) _).mono ?_; rintro e w1 ⟨rfl, rfl⟩)
          | (go_at_call 29; refine (peek_at s hs _ (q) (by omega) _).mono ?_; rintro e w1 ⟨rfl, rfl⟩)
          | (go_at_call 32; refine (isDigit_any _ _).mono ?_; rintro e w1 ⟨rfl, rfl⟩; rw [hD])
          | (go_at_call 47; refine (isExponent_any _ _).mono ?_; rintro e w1 ⟨rfl, rfl⟩; rw [hE]))
        have H46 := h46
        clear h46
        go_step3
        refine onward_goto hc rfl ?_
        cases hS : pSign (peekN s (q + 1))
        · cases hG : pDigit (peekN s (q + 1))
          · go_wp2_with (first
              | (go_at_call 29; refine (peek_at s hs _ (q + 1) (by omega) _).mono ?_; rintro e w1 ⟨rfl, rfl⟩)
              | (go_at_call 29; refine (peek_at s hs _ (q + 1) (by omega) _).mono ?_; rintro e w1 ⟨rfl, rfl⟩)
              | (go_at_call 48; refine (isSign_any _ _).mono ?_; rintro e w1 ⟨rfl, rfl⟩; rw [hS])
              | (go_at_call 32; refine (isDigit_any _ _).mono ?_; rintro e w1 ⟨rfl, rfl⟩; rw [hG]))
            go_step3
            refine onward_goto hc rfl ?_
            go_wp2
            all_goals ((try rw [onward_ret]); go_ret3; refine ⟨congrArg Ending.returned ?_, rfl⟩; simp [ret3, numN, tailN, expoN, expN, behindN, fitN, HK.out, HQ.out, *] <;> omega)
          · have hlt : q + 1 < s.size := peek_lt pDigit rfl hG
            obtain ⟨z, hz⟩ : ∃ z, pastN pDigit s (q + 1) = z := ⟨_, rfl⟩
            have hzl : z ≤ s.size := by rw [← hz]; exact pastN_le (by omega)
            have hzg : q + 1 ≤ z := by rw [← hz]; exact Nat.le_add_right _ _
            have HZ : Hid (pastN pDigit s (q + 1) = z) := hz
            clear hz
            go_wp2_with (first
              | (go_at_call 29; refine (peek_at s hs _ (q + 1) (by omega) _).mono ?_; rintro e w1 ⟨rfl, rfl⟩)
              | (go_at_call 29; refine (peek_at s hs _ (q + 1) (by omega) _).mono ?_; rintro e w1 ⟨rfl, rfl⟩)
              | (go_at_call 48; refine (isSign_any _ _).mono ?_; rintro e w1 ⟨rfl, rfl⟩; rw [hS])
              | (go_at_call 32; refine (isDigit_any _ _).mono ?_; rintro e w1 ⟨rfl, rfl⟩; rw [hG])
              | (go_at_call 27; refine (past_digit s hs _ (q + 1) (by omega) (by omega) _).mono ?_; rw [HZ.out]; rintro e w1 ⟨rfl, rfl⟩))
            cases hL : pLetter (peekN s z)
            · by_cases h46 : (peekN s z == 46) = true
              · go_step3
                refine onward_goto hc rfl ?_
                go_wp2_with (first
                  | (go_at_call 29; refine (peek_at s hs _ (z) (by omega) _).mono ?_; rintro e w1 ⟨rfl, rfl⟩)
                  | (go_at_call 31; refine (isLetter_any _ _).mono ?_; rintro e w1 ⟨rfl, rfl⟩; rw [hL])
                  | (go_at_call 35; refine (fit_any _ _ _ _).mono ?_; rintro e w1 ⟨rfl, rfl⟩))
                go_step3
                refine onward_goto hc rfl ?_
                go_wp2
                all_goals ((try rw [onward_ret]); go_ret3; refine ⟨congrArg Ending.returned ?_, rfl⟩; simp [ret3, numN, tailN, expoN, expN, behindN, fitN, HK.out, HQ.out, HZ.out, *] <;> omega)
              · go_step3
                refine onward_goto hc rfl ?_
                go_wp2_with (first
                  | (go_at_call 29; refine (peek_at s hs _ (z) (by omega) _).mono ?_; rintro e w1 ⟨rfl, rfl⟩)
                  | (go_at_call 31; refine (isLetter_any _ _).mono ?_; rintro e w1 ⟨rfl, rfl⟩; rw [hL])
                  | (go_at_call 35; refine (fit_any _ _ _ _).mono ?_; rintro e w1 ⟨rfl, rfl⟩))
                all_goals ((try rw [onward_ret]); go_ret3; refine ⟨congrArg Ending.returned ?_, rfl⟩; simp [ret3, numN, tailN, expoN, expN, behindN, fitN, HK.out, HQ.out, HZ.out, *] <;> omega)
            · go_step3
              refine onward_goto hc rfl ?_
              go_wp2_with (first
                | (go_at_call 29; refine (peek_at s hs _ (z) (by omega) _).mono ?_; rintro e w1 ⟨rfl, rfl⟩)
                | (go_at_call 31; refine (isLetter_any _ _).mono ?_; rintro e w1 ⟨rfl, rfl⟩; rw [hL])
                | (go_at_call 35; refine (fit_any _ _ _ _).mono ?_; rintro e w1 ⟨rfl, rfl⟩))
              go_step3
              refine onward_goto hc rfl ?_
              go_wp2
              all_goals ((try rw [onward_ret]); go_ret3; refine ⟨congrArg Ending.returned ?_, rfl⟩; simp [ret3, numN, tailN, expoN, expN, behindN, fitN, HK.out, HQ.out, HZ.out, *] <;> omega)
        · cases hG : pDigit (peekN s (q + 2))
          · go_wp2_with (first
              | (go_at_call 29; refine (peek_at s hs _ (q + 2) (by omega) _).mono ?_; rintro e w1 ⟨rfl, rfl⟩)
              | (go_at_call 29; refine (peek_at s hs _ (q + 1) (by omega) _).mono ?_; rintro e w1 ⟨rfl, rfl⟩)
              | (go_at_call 48; refine (isSign_any _ _).mono ?_; rintro e w1 ⟨rfl, rfl⟩; rw [hS])
              | (go_at_call 32; refine (isDigit_any _ _).mono ?_; rintro e w1 ⟨rfl, rfl⟩; rw [hG]))
            go_step3
            refine onward_goto hc rfl ?_
            go_wp2
            all_goals ((try rw [onward_ret]); go_ret3; refine ⟨congrArg Ending.returned ?_, rfl⟩; simp [ret3, numN, tailN, expoN, expN, behindN, fitN, HK.out, HQ.out, *] <;> omega)
          · have hlt : q + 2 < s.size := peek_lt pDigit rfl hG
            obtain ⟨z, hz⟩ : ∃ z, pastN pDigit s (q + 2) = z := ⟨_, rfl⟩
            have hzl : z ≤ s.size := by rw [← hz]; exact pastN_le (by omega)
            have hzg : q + 2 ≤ z := by rw [← hz]; exact Nat.le_add_right _ _
            have HZ : Hid (pastN pDigit s (q + 2) = z) := hz
            clear hz
            go_wp2_with (first
              | (go_at_call 29; refine (peek_at s hs _ (q + 2) (by omega) _).mono ?_; rintro e w1 ⟨rfl, rfl⟩)
              | (go_at_call 29; refine (peek_at s hs _ (q + 1) (by omega) _).mono ?_; rintro e w1 ⟨rfl, rfl⟩)
              | (go_at_call 48; refine (isSign_any _ _).mono ?_; rintro e w1 ⟨rfl, rfl⟩; rw [hS])
              | (go_at_call 32; refine (isDigit_any _ _).mono ?_; rintro e w1 ⟨rfl, rfl⟩; rw [hG])
              | (go_at_call 27; refine (past_digit s hs _ (q + 2) (by omega) (by omega) _).mono ?_; rw [HZ.out]; rintro e w1 ⟨rfl, rfl⟩))
            cases hL : pLetter (peekN s z)
            · by_cases h46 : (peekN s z == 46) = true
              · go_step3
                refine onward_goto hc rfl ?_
                go_wp2_with (first
                  | (go_at_call 29; refine (peek_at s hs _ (z) (by omega) _).mono ?_; rintro e w1 ⟨rfl, rfl⟩)
                  | (go_at_call 31; refine (isLetter_any _ _).mono ?_; rintro e w1 ⟨rfl, rfl⟩; rw [hL])
                  | (go_at_call 35; refine (fit_any _ _ _ _).mono ?_; rintro e w1 ⟨rfl, rfl⟩))
                go_step3
                refine onward_goto hc rfl ?_
                go_wp2
                all_goals ((try rw [onward_ret]); go_ret3; refine ⟨congrArg Ending.returned ?_, rfl⟩; simp [ret3, numN, tailN, expoN, expN, behindN, fitN, HK.out, HQ.out, HZ.out, *] <;> omega)
              · go_step3
                refine onward_goto hc rfl ?_
                go_wp2_with (first
                  | (go_at_call 29; refine (peek_at s hs _ (z) (by omega) _).mono ?_; rintro e w1 ⟨rfl, rfl⟩)
                  | (go_at_call 31; refine (isLetter_any _ _).mono ?_; rintro e w1 ⟨rfl, rfl⟩; rw [hL])
                  | (go_at_call 35; refine (fit_any _ _ _ _).mono ?_; rintro e w1 ⟨rfl, rfl⟩))
                all_goals ((try rw [onward_ret]); go_ret3; refine ⟨congrArg Ending.returned ?_, rfl⟩; simp [ret3, numN, tailN, expoN, expN, behindN, fitN, HK.out, HQ.out, HZ.out, *] <;> omega)
            · go_step3
              refine onward_goto hc rfl ?_
              go_wp2_with (first
                | (go_at_call 29; refine (peek_at s hs _ (z) (by omega) _).mono ?_; rintro e w1 ⟨rfl, rfl⟩)
                | (go_at_call 31; refine (isLetter_any _ _).mono ?_; rintro e w1 ⟨rfl, rfl⟩; rw [hL])
                | (go_at_call 35; refine (fit_any _ _ _ _).mono ?_; rintro e w1 ⟨rfl, rfl⟩))
              go_step3
              refine onward_goto hc rfl ?_
              go_wp2
              all_goals ((try rw [onward_ret]); go_ret3; refine ⟨congrArg Ending.returned ?_, rfl⟩; simp [ret3, numN, tailN, expoN, expN, behindN, fitN, HK.out, HQ.out, HZ.out, *] <;> omega)
  · cases hE : pExponent (peekN s k)
    · go_wp2_with (first
        | ((with_reducible refine H1.out.mono ?_); rintro e w1 ⟨rfl, rfl⟩)
        | (go_at_call 29; refine (peek_at s hs _ (k) (by omega) _).mono ?_; rintro e w1 ⟨rfl, rfl⟩)
        | (go_at_call 47; refine (isExponent_any _ _).mono ?_; rintro e w1 ⟨rfl, rfl⟩; rw [hE]))
      have H46 := h46
      clear h46
      cases hL : pLetter (peekN s k)
      · go_step3
        refine onward_goto hc rfl ?_
        go_wp2_with (first
          | (go_at_call 29; refine (peek_at s hs _ (k) (by omega) _).mono ?_; rintro e w1 ⟨rfl, rfl⟩)
          | (go_at_call 31; refine (isLetter_any _ _).mono ?_; rintro e w1 ⟨rfl, rfl⟩; rw [hL])
          | (go_at_call 35; refine (fit_any _ _ _ _).mono ?_; rintro e w1 ⟨rfl, rfl⟩))
        all_goals ((try rw [onward_ret]); go_ret3; refine ⟨congrArg Ending.returned ?_, rfl⟩; simp [ret3, numN, tailN, expoN, expN, behindN, fitN, HK.out, *] <;> omega)
      · go_step3
        refine onward_goto hc rfl ?_
        go_wp2_with (first
          | (go_at_call 29; refine (peek_at s hs _ (k) (by omega) _).mono ?_; rintro e w1 ⟨rfl, rfl⟩)
          | (go_at_call 31; refine (isLetter_any _ _).mono ?_; rintro e w1 ⟨rfl, rfl⟩; rw [hL])
          | (go_at_call 35; refine (fit_any _ _ _ _).mono ?_; rintro e w1 ⟨rfl, rfl⟩))
        go_step3
        refine onward_goto hc rfl ?_
        go_wp2
        all_goals ((try rw [onward_ret]); go_ret3; refine ⟨congrArg Ending.returned ?_, rfl⟩; simp [ret3, numN, tailN, expoN, expN, behindN, fitN, HK.out, *] <;> omega)
    · go_wp2_with (first
        | ((with_reducible refine H1.out.mono ?_); rintro e w1 ⟨rfl, rfl⟩)
        | (go_at_call 29; refine (peek_at s hs _ (k) (by omega) _).mono ?_; rintro e w1 ⟨rfl, rfl⟩)
        | (go_at_call 47; refine (isExponent_any _ _).mono ?_; rintro e w1 ⟨rfl, rfl⟩; rw [hE]))
      have H46 := h46
      clear h46
      go_step3
      refine onward_goto hc rfl ?_
      cases hS : pSign (peekN s (k + 1))
      · cases hG : pDigit (peekN s (k + 1))
        · go_wp2_with (first
            | (go_at_call 29; refine (peek_at s hs _ (k + 1) (by omega) _).mono ?_; rintro e w1 ⟨rfl, rfl⟩)
            | (go_at_call 29; refine (peek_at s hs _ (k + 1) (by omega) _).mono ?_; rintro e w1 ⟨rfl, rfl⟩)
            | (go_at_call 48; refine (isSign_any _ _).mono ?_; rintro e w1 ⟨rfl, rfl⟩; rw [hS])
            | (go_at_call 32; refine (isDigit_any _ _).mono ?_; rintro e w1 ⟨rfl, rfl⟩; rw [hG]))
          go_step3
          refine onward_goto hc rfl ?_
          go_wp2
          all_goals ((try rw [onward_ret]); go_ret3; refine ⟨congrArg Ending.returned ?_, rfl⟩; simp [ret3, numN, tailN, expoN, expN, behindN, fitN, HK.out, *] <;> omega)
        · have hlt : k + 1 < s.size := peek_lt pDigit rfl hG
          obtain ⟨z, hz⟩ : ∃ z, pastN pDigit s (k + 1) = z := ⟨_, rfl⟩
          have hzl : z ≤ s.size := by rw [← hz]; exact pastN_le (by omega)
          have hzg : k + 1 ≤ z := by rw [← hz]; exact Nat.le_add_right _ _
          have HZ : Hid (pastN pDigit s (k + 1) = z) := hz
          clear hz
          go_wp2_with (first
            | (go_at_call 29; refine (peek_at s hs _ (k + 1) (by omega) _).mono ?_; rintro e w1 ⟨rfl, rfl⟩)
            | (go_at_call 29; refine (peek_at s hs _ (k + 1) (by omega) _).mono ?_; rintro e w1 ⟨rfl, rfl⟩)
            | (go_at_call 48; refine (isSign_any _ _).mono ?_; rintro e w1 ⟨rfl, rfl⟩; rw [hS])
            | (go_at_call 32; refine (isDigit_any _ _).mono ?_; rintro e w1 ⟨rfl, rfl⟩; rw [hG])
            | (go_at_call 27; refine (past_digit s hs _ (k + 1) (by omega) (by omega) _).mono ?_; rw [HZ.out]; rintro e w1 ⟨rfl, rfl⟩))
          cases hL : pLetter (peekN s z)
          · by_cases h46 : (peekN s z == 46) = true
            · go_step3
              refine onward_goto hc rfl ?_
              go_wp2_with (first
                | (go_at_call 29; refine (peek_at s hs _ (z) (by omega) _).mono ?_; rintro e w1 ⟨rfl, rfl⟩)
                | (go_at_call 31; refine (isLetter_any _ _).mono ?_; rintro e w1 ⟨rfl, rfl⟩; rw [hL])
                | (go_at_call 35; refine (fit_any _ _ _ _).mono ?_; rintro e w1 ⟨rfl, rfl⟩))
              go_step3
              refine onward_goto hc rfl ?_
              go_wp2
              all_goals ((try rw [onward_ret]); go_ret3; refine ⟨congrArg Ending.returned ?_, rfl⟩; simp [ret3, numN, tailN, expoN, expN, behindN, fitN, HK.out, HZ.out, *] <;> omega)
            · go_step3
              refine onward_goto hc rfl ?_
              go_wp2_with (first
                | (go_at_call 29; refine (peek_at s hs _ (z) (by omega) _).mono ?_; rintro e w1 ⟨rfl, rfl⟩)
                | (go_at_call 31; refine (isLetter_any _ _).mono ?_; rintro e w1 ⟨rfl, rfl⟩; rw [hL])
                | (go_at_call 35; refine (fit_any _ _ _ _).mono ?_; rintro e w1 ⟨rfl, rfl⟩))
              all_goals ((try rw [onward_ret]); go_ret3; refine ⟨congrArg Ending.returned ?_, rfl⟩; simp [ret3, numN, tailN, expoN, expN, behindN, fitN, HK.out, HZ.out, *] <;> omega)
          · go_step3
            refine onward_goto hc rfl ?_
            go_wp2_with (first
              | (go_at_call 29; refine (peek_at s hs _ (z) (by omega) _).mono ?_; rintro e w1 ⟨rfl, rfl⟩)
              | (go_at_call 31; refine (isLetter_any _ _).mono ?_; rintro e w1 ⟨rfl, rfl⟩; rw [hL])
              | (go_at_call 35; refine (fit_any _ _ _ _).mono ?_; rintro e w1 ⟨rfl, rfl⟩))
            go_step3
            refine onward_goto hc rfl ?_
            go_wp2
            all_goals ((try rw [onward_ret]); go_ret3; refine ⟨congrArg Ending.returned ?_, rfl⟩; simp [ret3, numN, tailN, expoN, expN, behindN, fitN, HK.out, HZ.out, *] <;> omega)
      · cases hG : pDigit (peekN s (k + 2))
        · go_wp2_with (first
            | (go_at_call 29; refine (peek_at s hs _ (k + 2) (by omega) _).mono ?_; rintro e w1 ⟨rfl, rfl⟩)
            | (go_at_call 29; refine (peek_at s hs _ (k + 1) (by omega) _).mono ?_; rintro e w1 ⟨rfl, rfl⟩)
            | (go_at_call 48; refine (isSign_any _ _).mono ?_; rintro e w1 ⟨rfl, rfl⟩; rw [hS])
            | (go_at_call 32; refine (isDigit_any _ _).mono ?_; rintro e w1 ⟨rfl, rfl⟩; rw [hG]))
          go_step3
          refine onward_goto hc rfl ?_
          go_wp2
          all_goals ((try rw [onward_ret]); go_ret3; refine ⟨congrArg Ending.returned ?_, rfl⟩; simp [ret3, numN, tailN, expoN, expN, behindN, fitN, HK.out, *] <;> omega)
        · have hlt : k + 2 < s.size := peek_lt pDigit rfl hG
          obtain ⟨z, hz⟩ : ∃ z, pastN pDigit s (k + 2) = z := ⟨_, rfl⟩
          have hzl : z ≤ s.size := by rw [← hz]; exact pastN_le (by omega)
          have hzg : k + 2 ≤ z := by rw [← hz]; exact Nat.le_add_right _ _
          have HZ : Hid (pastN pDigit s (k + 2) = z) := hz
          clear hz
          go_wp2_with (first
            | (go_at_call 29; refine (peek_at s hs _ (k + 2) (by omega) _).mono ?_; rintro e w1 ⟨rfl, rfl⟩)
            | (go_at_call 29; refine (peek_at s hs _ (k + 1) (by omega) _).mono ?_; rintro e w1 ⟨rfl, rfl⟩)
            | (go_at_call 48; refine (isSign_any _ _).mono ?_; rintro e w1 ⟨rfl, rfl⟩; rw [hS])
            | (go_at_call 32; refine (isDigit_any _ _).mono ?_; rintro e w1 ⟨rfl, rfl⟩; rw [hG])
            | (go_at_call 27; refine (past_digit s hs _ (k + 2) (by omega) (by omega) _).mono ?_; rw [HZ.out]; rintro e w1 ⟨rfl, rfl⟩))
          cases hL : pLetter (peekN s z)
          · by_cases h46 : (peekN s z == 46) = true
            · go_step3
              refine onward_goto hc rfl ?_
              go_wp2_with (first
                | (go_at_call 29; refine (peek_at s hs _ (z) (by omega) _).mono ?_; rintro e w1 ⟨rfl, rfl⟩)
                | (go_at_call 31; refine (isLetter_any _ _).mono ?_; rintro e w1 ⟨rfl, rfl⟩; rw [hL])
                | (go_at_call 35; refine (fit_any _ _ _ _).mono ?_; rintro e w1 ⟨rfl, rfl⟩))
              go_step3
              refine onward_goto hc rfl ?_
              go_wp2
              all_goals ((try rw [onward_ret]); go_ret3; refine ⟨congrArg Ending.returned ?_, rfl⟩; simp [ret3, numN, tailN, expoN, expN, behindN, fitN, HK.out, HZ.out, *] <;> omega)
            · go_step3
              refine onward_goto hc rfl ?_
              go_wp2_with (first
                | (go_at_call 29; refine (peek_at s hs _ (z) (by omega) _).mono ?_; rintro e w1 ⟨rfl, rfl⟩)
                | (go_at_call 31; refine (isLetter_any _ _).mono ?_; rintro e w1 ⟨rfl, rfl⟩; rw [hL])
                | (go_at_call 35; refine (fit_any _ _ _ _).mono ?_; rintro e w1 ⟨rfl, rfl⟩))
              all_goals ((try rw [onward_ret]); go_ret3; refine ⟨congrArg Ending.returned ?_, rfl⟩; simp [ret3, numN, tailN, expoN, expN, behindN, fitN, HK.out, HZ.out, *] <;> omega)
          · go_step3
            refine onward_goto hc rfl ?_
            go_wp2_with (first
              | (go_at_call 29; refine (peek_at s hs _ (z) (by omega) _).mono ?_; rintro e w1 ⟨rfl, rfl⟩)
              | (go_at_call 31; refine (isLetter_any _ _).mono ?_; rintro e w1 ⟨rfl, rfl⟩; rw [hL])
              | (go_at_call 35; refine (fit_any _ _ _ _).mono ?_; rintro e w1 ⟨rfl, rfl⟩))
            go_step3
            refine onward_goto hc rfl ?_
            go_wp2
            all_goals ((try rw [onward_ret]); go_ret3; refine ⟨congrArg Ending.returned ?_, rfl⟩; simp [ret3, numN, tailN, expoN, expN, behindN, fitN, HK.out, HZ.out, *] <;> omega)

end Go.Proofs.Ytheedniegjcbgaa
