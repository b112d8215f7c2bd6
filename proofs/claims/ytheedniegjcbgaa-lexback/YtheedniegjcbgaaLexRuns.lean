import Derived.Test.YtheedniegjcbgaaLexGoto
/- Package lex: past, peek, skip. -/
namespace Go.Proofs.Ytheedniegjcbgaa
open Go.RowKit
set_option linter.unusedVariables false

def bs (s : ByteArray) : Bs := s.data.toList
theorem bs_length (s : ByteArray) : (bs s).length = s.size := by simp [bs]
theorem drop_at (s : ByteArray) (k : Nat) (h : k < s.size) : (bs s).drop k = s[k] :: (bs s).drop (k + 1) := by
  have hk : k < (bs s).length := by rw [bs_length]; exact h
  rw [List.drop_eq_getElem_cons hk]
  congr 1
theorem drop_end (s : ByteArray) (k : Nat) (h : s.size ≤ k) : (bs s).drop k = [] := List.drop_of_length_le (by rw [bs_length]; exact h)
theorem drop_len (s : ByteArray) (k : Nat) : ((bs s).drop k).length = s.size - k := by rw [List.length_drop, bs_length]

/-- How far it runs from a place on. -/
def pastN (p : Int → Bool) (s : ByteArray) (i : Nat) : Nat := i + run p ((bs s).drop i)
theorem pastN_yes {p : Int → Bool} {s : ByteArray} {i : Nat} (h : i < s.size) (hp : p (s[i].toNat : Int) = true) : pastN p s i = pastN p s (i + 1) := by
  unfold pastN
  rw [drop_at s i h]
  rw [run, if_pos (show p (nb s[i]) = true from hp)]
  omega
theorem pastN_no {p : Int → Bool} {s : ByteArray} {i : Nat} (h : i < s.size) (hp : p (s[i].toNat : Int) = false) : pastN p s i = i := by
  unfold pastN
  rw [drop_at s i h, run, if_neg (by rw [show p (nb s[i]) = false from hp]; simp)]
  omega
theorem pastN_end {p : Int → Bool} {s : ByteArray} {i : Nat} (h : s.size ≤ i) : pastN p s i = i := by
  unfold pastN
  rw [drop_end s i h]
  rfl
theorem pastN_le {p : Int → Bool} {s : ByteArray} {i : Nat} (h : i ≤ s.size) : pastN p s i ≤ s.size := by
  unfold pastN
  have := run_le p ((bs s).drop i)
  rw [drop_len] at this
  omega
theorem pastN_drop (p : Int → Bool) (s : ByteArray) (i : Nat) : (bs s).drop (pastN p s i) = ((bs s).drop i).drop (run p ((bs s).drop i)) := by
  unfold pastN
  rw [List.drop_drop]

def peekN (s : ByteArray) (i : Nat) : Int := hd ((bs s).drop i)
theorem peekN_at {s : ByteArray} {i : Nat} (h : i < s.size) : peekN s i = (s[i].toNat : Int) := by
  unfold peekN
  rw [drop_at s i h]
  rfl
theorem peekN_end {s : ByteArray} {i : Nat} (h : s.size ≤ i) : peekN s i = 0 := by
  unfold peekN
  rw [drop_end s i h]
  rfl

set_option maxHeartbeats 1000000 in
theorem past_any (p : Int → Bool) (k : Nat) (hen : Ent k) (hk : ∀ (c : Int) (v : World), Calls Try.prog k #[.int .u8 c] v fun e v' => e = .returned (.bool (p c)) ∧ v' = v)
    (s : ByteArray) (hs : s.size ≤ 65536) (i : Nat) (hi : i ≤ s.size) (w : World) :
    Calls Try.prog 27 #[.string s, .int .i64 i, .func (.func k) #[] #[]] w fun e w' => e = .returned (.int .i64 (pastN p s i)) ∧ w' = w := by
  unfold Ent at hen
  go_enter Try.func27, Try.ntmps27
  go_wp2
  go_loopw [1] (fun iv wr => wr = w ∧ ∃ j : Nat, j ≤ s.size ∧ iv = .int .i64 j ∧ pastN p s i = pastN p s j) (fun iv _ => s.size - (intOf iv).toNat)
  case atStart => exact ⟨rfl, i, hi, rfl, rfl⟩
  case round =>
    obtain ⟨rfl, j, hj, rfl, hp⟩ := hrel
    have HP : Hid (pastN p s i = pastN p s j) := hp
    clear hp
    by_cases hlt : j < s.size
    · have i1 : (0 : Int) ≤ (j : Int) := by omega
      have i2 : (j : Int) < (s.size : Int) := by omega
      cases hc : p (s[j].toNat : Int)
      · have hk1 := hk (s[j].toNat : Int) wr
        rw [hc] at hk1
        have HK : Hid (Calls Try.prog k #[.int .u8 (s[j].toNat : Int)] wr fun e v' => e = .returned (.bool false) ∧ v' = wr) := hk1
        clear hk hk1
        have HC : Hid (p (s[j].toNat : Int) = false) := hc
        clear hc
        go_wp2_with ((with_reducible refine HK.out.mono ?_); rintro e w1 ⟨rfl, rfl⟩)
        go_ret
        exact ⟨ret_int (by rw [HP.out, pastN_no hlt HC.out]), rfl⟩
      · have hk1 := hk (s[j].toNat : Int) wr
        rw [hc] at hk1
        have HK : Hid (Calls Try.prog k #[.int .u8 (s[j].toNat : Int)] wr fun e v' => e = .returned (.bool true) ∧ v' = wr) := hk1
        clear hk hk1
        have HC : Hid (p (s[j].toNat : Int) = true) := hc
        clear hc
        go_wp2_with ((with_reducible refine HK.out.mono ?_); rintro e w1 ⟨rfl, rfl⟩)
        go_roundw
        case rel => exact ⟨by trivial, j + 1, by omega, by go_num, by rw [HP.out, pastN_yes hlt HC.out]⟩
        case measure => simp [intOf]; omega
    · have : j = s.size := by omega
      subst this
      clear hk
      go_wp2
      go_ret
      exact ⟨ret_int (by rw [HP.out, pastN_end (Nat.le_refl _)]), rfl⟩

theorem ent_isBlank : Ent 28 := enters_of Try.func28 (by kernel_rfl) rfl
theorem ent_isRemark : Ent 30 := enters_of Try.func30 (by kernel_rfl) rfl
theorem ent_isDigit : Ent 32 := enters_of Try.func32 (by kernel_rfl) rfl
theorem ent_isInName : Ent 34 := enters_of Try.func34 (by kernel_rfl) rfl
theorem ent_isInText : Ent 37 := enters_of Try.func37 (by kernel_rfl) rfl

set_option maxHeartbeats 400000 in
theorem peek_any (s : ByteArray) (hs : s.size ≤ 65536) (i : Nat) (w : World) :
    Calls Try.prog 29 #[.string s, .int .i64 i] w fun e w' => e = .returned (.int .u8 (peekN s i)) ∧ w' = w := by
  by_cases hlt : i < s.size
  · have i1 : (0 : Int) ≤ (i : Int) := by omega
    have i2 : (i : Int) < (s.size : Int) := by omega
    rw [peekN_at hlt]
    go_enter Try.func29, Try.ntmps29
    go_wp2
    go_ret
    exact ⟨rfl, rfl⟩
  · rw [peekN_end (by omega)]
    have i2 : (s.size : Int) ≤ (i : Int) := by omega
    go_enter Try.func29, Try.ntmps29
    go_wp2
    go_ret
    exact ⟨rfl, rfl⟩

/-- What fit tells. -/
def fitI (kind end_ counted : Int) : Value := if counted > 64 then .tuple #[.int .i64 0, .int .i64 0, .int .i64 2] else .tuple #[.int .i64 kind, .int .i64 end_, .int .i64 0]
set_option maxHeartbeats 400000 in
theorem fit_any (kind end_ counted : Int) (w : World) :
    Calls Try.prog 35 #[.int .i64 kind, .int .i64 end_, .int .i64 counted] w fun e w' => e = .returned (.tuple #[.int .i64 (if counted > 64 then 0 else kind), .int .i64 (if counted > 64 then 0 else end_), .int .i64 (if counted > 64 then 2 else 0)]) ∧ w' = w := by
  by_cases h : counted > 64
  · rw [if_pos h, if_pos h, if_pos h]
    go_enter Try.func35, Try.ntmps35
    go_wp2
    go_ret3
    exact ⟨rfl, rfl⟩
  · rw [if_neg h, if_neg h, if_neg h]
    go_enter Try.func35, Try.ntmps35
    go_wp2
    go_ret3
    exact ⟨rfl, rfl⟩

/- Skipping. -/
theorem skp_blanks : ∀ r : Bs, skp false (r.drop (run pBlank r)) = skp false r
  | [] => rfl
  | b :: t => by
    cases h : pBlank (nb b)
    · rw [run, if_neg (by simp [h])]; rfl
    · rw [run, if_pos h, List.drop_succ_cons, skp_blanks t, skp, if_pos h]
theorem skp_remark : ∀ r : Bs, skp false (r.drop (run pRemark r)) = skp true r
  | [] => rfl
  | b :: t => by
    cases h : pRemark (nb b)
    · rw [run, if_neg (by simp [h])]
      have h10 : nb b = 10 := by simpa [pRemark] using h
      rw [List.drop_zero, skp, if_pos (by simp [pBlank, h10]), skp, if_pos (by simp [h10])]
    · rw [run, if_pos h, List.drop_succ_cons, skp_remark t, skp, if_neg (by simpa [pRemark] using h)]
theorem skp_stop (r : Bs) (h : pBlank (hd r) = false) (h' : hd r ≠ 35) : skp false r = r := by
  cases r with
  | nil => rfl
  | cons b t =>
    have e1 : ¬ (pBlank (nb b) = true) := by rw [show pBlank (nb b) = false from h]; simp
    have e2 : ¬ ((nb b == 35) = true) := by simpa using show nb b ≠ 35 from h'
    rw [skp, if_neg e1, if_neg e2]
theorem skp_hash (r : Bs) (h : hd r = 35) : skp false r = skp false (r.drop (run pRemark r)) := by
  cases r with
  | nil => exact absurd h (by decide)
  | cons b t =>
    have h35 : nb b = 35 := h
    rw [skp_remark, skp, if_neg (by simp [pBlank, h35]), if_pos (by simp [h35]), skp, if_neg (by simp [h35])]
theorem run_stop (p : Int → Bool) (h0 : p 0 = false) : ∀ r : Bs, p (hd (r.drop (run p r))) = false
  | [] => h0
  | b :: t => by
    cases h : p (nb b)
    · rw [run, if_neg (by simp [h])]; exact h
    · rw [run, if_pos h, List.drop_succ_cons]; exact run_stop p h0 t

/-- The place behind blanks and comments. -/
def skN (s : ByteArray) (i : Nat) : Nat := s.size - (skp false ((bs s).drop i)).length
theorem skN_of {s : ByteArray} {i j : Nat} (hj : j ≤ s.size) (h : skp false ((bs s).drop i) = (bs s).drop j) : skN s i = j := by
  unfold skN
  rw [h, drop_len]
  omega

set_option maxHeartbeats 1000000 in
theorem skip_any (s : ByteArray) (hs : s.size ≤ 65536) (i : Nat) (hi : i ≤ s.size) (w : World) :
    Calls Try.prog 17 #[.string s, .int .i64 i] w fun e w' => e = .returned (.int .i64 (skN s i)) ∧ w' = w ∧ (bs s).drop (skN s i) = skp false ((bs s).drop i) ∧ skN s i ≤ s.size := by
  go_enter Try.func17, Try.ntmps17
  go_wp2
  go_loopw [1] (fun iv wr => wr = w ∧ ∃ j : Nat, j ≤ s.size ∧ iv = .int .i64 j ∧ skp false ((bs s).drop i) = skp false ((bs s).drop j)) (fun iv _ => s.size - (intOf iv).toNat)
  case atStart => exact ⟨rfl, i, hi, rfl, rfl⟩
  case round =>
    obtain ⟨rfl, j, hj, rfl, hp⟩ := hrel
    have HP : Hid (skp false ((bs s).drop i) = skp false ((bs s).drop j)) := hp
    clear hp
    have hle := pastN_le (p := pBlank) hj
    have hb : pBlank (peekN s (pastN pBlank s j)) = false := by
      unfold peekN; rw [pastN_drop]; exact run_stop pBlank rfl _
    have hsk : skp false ((bs s).drop (pastN pBlank s j)) = skp false ((bs s).drop j) := by rw [pastN_drop]; exact skp_blanks _
    have hjm : j ≤ pastN pBlank s j := Nat.le_add_right _ _
    obtain ⟨m, hm⟩ : ∃ m, pastN pBlank s j = m := ⟨_, rfl⟩
    have P1 := past_any pBlank 28 ent_isBlank isBlank_any s hs j hj wr
    rw [hm] at hle hb hsk hjm P1
    have HS : Hid (skp false ((bs s).drop m) = skp false ((bs s).drop j)) := hsk
    have HB : Hid (pBlank (peekN s m) = false) := hb
    clear hsk hb hm
    have P2 := peek_any s hs m wr
    by_cases hq : peekN s m = 35
    · rw [hq] at P2
      have hle2 := pastN_le (p := pRemark) hle
      have hlt : m < s.size := by
        rcases Nat.lt_or_ge m s.size with c | c
        · exact c
        · rw [peekN_end c] at hq; exact absurd hq (by decide)
      have hgt : m < pastN pRemark s m := by
        rw [pastN_yes hlt (by rw [← peekN_at hlt, hq]; rfl)]
        exact Nat.lt_of_lt_of_le (Nat.lt_succ_self m) (Nat.le_add_right _ _)
      have P3 := past_any pRemark 30 ent_isRemark isRemark_any s hs m hle wr
      have hsk2 : skp false ((bs s).drop (pastN pRemark s m)) = skp false ((bs s).drop m) := by rw [pastN_drop]; exact (skp_hash _ hq).symm
      obtain ⟨q, hqm⟩ : ∃ q, pastN pRemark s m = q := ⟨_, rfl⟩
      rw [hqm] at hle2 hgt P3 hsk2
      have HS2 : Hid (skp false ((bs s).drop q) = skp false ((bs s).drop m)) := hsk2
      have H1 : Hid (Calls Try.prog 27 #[.string s, .int .i64 j, .func (.func 28) #[] #[]] wr fun e w' => e = .returned (.int .i64 m) ∧ w' = wr) := P1
      have H2 : Hid (Calls Try.prog 29 #[.string s, .int .i64 m] wr fun e w' => e = .returned (.int .u8 35) ∧ w' = wr) := P2
      have H3 : Hid (Calls Try.prog 27 #[.string s, .int .i64 m, .func (.func 30) #[] #[]] wr fun e w' => e = .returned (.int .i64 q) ∧ w' = wr) := P3
      clear P1 P2 P3 hsk2 hqm hq
      go_wp2_with (first
        | ((with_reducible refine H1.out.mono ?_); rintro e w1 ⟨rfl, rfl⟩)
        | ((with_reducible refine H2.out.mono ?_); rintro e w1 ⟨rfl, rfl⟩)
        | ((with_reducible refine H3.out.mono ?_); rintro e w1 ⟨rfl, rfl⟩))
      go_roundw
      case rel => exact ⟨by trivial, q, hle2, rfl, by rw [HP.out, ← HS.out, ← HS2.out]⟩
      case measure => simp [intOf]; omega
    · have H1 : Hid (Calls Try.prog 27 #[.string s, .int .i64 j, .func (.func 28) #[] #[]] wr fun e w' => e = .returned (.int .i64 m) ∧ w' = wr) := P1
      have H2 : Hid (Calls Try.prog 29 #[.string s, .int .i64 m] wr fun e w' => e = .returned (.int .u8 (peekN s m)) ∧ w' = wr) := P2
      have hfin : skp false ((bs s).drop i) = (bs s).drop m := by
        rw [HP.out, ← HS.out]; exact skp_stop _ HB.out hq
      have HF : Hid (skp false ((bs s).drop i) = (bs s).drop m) := hfin
      clear hfin
      have hq' : (peekN s m == 35) = false := by simpa using hq
      have hq2 : (peekN s m != 35) = true := by simpa using hq
      clear P1 P2
      obtain ⟨c, hc⟩ : ∃ c, peekN s m = c := ⟨_, rfl⟩
      rw [hc] at H2 hq hq' hq2
      clear hc
      go_wp2_with (first
        | ((with_reducible refine H1.out.mono ?_); rintro e w1 ⟨rfl, rfl⟩)
        | ((with_reducible refine H2.out.mono ?_); rintro e w1 ⟨rfl, rfl⟩))
      go_ret
      have := skN_of hle HF.out
      exact ⟨ret_int (by rw [this]), rfl, by rw [this, HF.out], by rw [this]; exact hle⟩

end Go.Proofs.Ytheedniegjcbgaa
