import Derived.Test.YtheedniegjcbgaaLexNum
/- The reference: its runs of bytes, its numbers, its texts. -/
namespace Go.Proofs.Ytheedniegjcbgaa
open Go.RowKit
set_option linter.unusedVariables false
set_option linter.unusedSimpArgs false

set_option maxHeartbeats 1000000 in
theorem rdigits_any (s : ByteArray) (hs : s.size ≤ 65536) (i : Nat) (hi : i ≤ s.size) (w : World) :
    Calls Try.prog 50 #[.string s, .int .i64 i] w fun e w' => e = .returned (.int .i64 (pastN pDigit s i)) ∧ w' = w := by
  go_enter Try.func50, Try.ntmps50
  go_wp2
  go_loopw [1] (fun iv wr => wr = w ∧ ∃ j : Nat, j ≤ s.size ∧ iv = .int .i64 j ∧ pastN pDigit s i = pastN pDigit s j) (fun iv _ => s.size - (intOf iv).toNat)
  case atStart => exact ⟨rfl, i, hi, rfl, rfl⟩
  case round =>
    obtain ⟨rfl, j, hj, rfl, hp⟩ := hrel
    have HP : Hid (pastN pDigit s i = pastN pDigit s j) := hp
    clear hp
    by_cases hlt : j < s.size
    · have i1 : (0 : Int) ≤ (j : Int) := by omega
      have i2 : (j : Int) < (s.size : Int) := by omega
      cases hc : pDigit (s[j].toNat : Int)
      · go_wp2_with (go_at_call 41; refine (rDigit_any _ _).mono ?_; rintro e w1 ⟨rfl, rfl⟩; rw [hc])
        go_ret
        exact ⟨ret_int (by rw [HP.out, pastN_no hlt hc]), rfl⟩
      · go_wp2_with (go_at_call 41; refine (rDigit_any _ _).mono ?_; rintro e w1 ⟨rfl, rfl⟩; rw [hc])
        go_roundw
        case rel => exact ⟨by trivial, j + 1, by omega, by go_num, by rw [HP.out, pastN_yes hlt hc]⟩
        case measure => simp [intOf]; omega
    · have : j = s.size := by omega
      subst this
      go_wp2
      go_ret
      exact ⟨ret_int (by rw [HP.out, pastN_end (Nat.le_refl _)]), rfl⟩

/-- As skip_any, of the reference. -/
def skIn (s : ByteArray) (i : Nat) : Bs := skp true ((bs s).drop i)
theorem skp_in_no {s : ByteArray} {j : Nat} (h : j < s.size) (hb : (s[j].toNat : Int) ≠ 10) : skp true ((bs s).drop j) = skp true ((bs s).drop (j + 1)) := by
  rw [drop_at s j h, skp, if_neg (by simpa [nb] using hb)]
theorem skp_in_yes {s : ByteArray} {j : Nat} (h : j < s.size) (hb : (s[j].toNat : Int) = 10) : skp true ((bs s).drop j) = skp false ((bs s).drop j) := by
  have e1 : ∀ t, skp true (s[j] :: t) = skp false t := fun t => by rw [skp, if_pos (by simp [nb, hb])]
  have e2 : ∀ t, skp false (s[j] :: t) = skp false t := fun t => by rw [skp, if_pos (show pBlank (nb s[j]) = true by unfold nb; rw [hb]; rfl)]
  rw [drop_at s j h, e1, e2]
theorem skp_bl {s : ByteArray} {j : Nat} (h : j < s.size) (hb : pBlank (s[j].toNat : Int) = true) : skp false ((bs s).drop j) = skp false ((bs s).drop (j + 1)) := by
  rw [drop_at s j h, skp, if_pos (show pBlank (nb s[j]) = true from hb)]
theorem skp_hs {s : ByteArray} {j : Nat} (h : j < s.size) (hb : (s[j].toNat : Int) = 35) : skp false ((bs s).drop j) = skp true ((bs s).drop j) := by
  rw [skp_hash ((bs s).drop j) (by rw [drop_at s j h]; exact hb), skp_remark]
theorem skp_no {s : ByteArray} {j : Nat} (h : j < s.size) (hb : pBlank (s[j].toNat : Int) = false) (hh : (s[j].toNat : Int) ≠ 35) : skp false ((bs s).drop j) = (bs s).drop j :=
  skp_stop _ (by rw [drop_at s j h]; exact hb) (by rw [drop_at s j h]; exact hh)

set_option maxHeartbeats 1000000 in
theorem rskip_any (s : ByteArray) (hs : s.size ≤ 65536) (i : Nat) (hi : i ≤ s.size) (w : World) :
    Calls Try.prog 20 #[.string s, .int .i64 i] w fun e w' => e = .returned (.int .i64 (skN s i)) ∧ w' = w ∧ (bs s).drop (skN s i) = skp false ((bs s).drop i) ∧ skN s i ≤ s.size := by
  go_enter Try.func20, Try.ntmps20
  go_wp2
  go_loopw [1] (fun iv wr => wr = w ∧ ∃ j : Nat, j ≤ s.size ∧ iv = .int .i64 j ∧ skp false ((bs s).drop i) = skp false ((bs s).drop j)) (fun iv _ => s.size - (intOf iv).toNat)
  case atStart => exact ⟨rfl, i, hi, rfl, rfl⟩
  case round =>
    obtain ⟨rfl, j, hj, rfl, hp⟩ := hrel
    have HP : Hid (skp false ((bs s).drop i) = skp false ((bs s).drop j)) := hp
    clear hp
    by_cases hlt : j < s.size
    · have i1 : (0 : Int) ≤ (j : Int) := by omega
      have i2 : (j : Int) < (s.size : Int) := by omega
      cases hb : pBlank (s[j].toNat : Int)
      · by_cases hh : (s[j].toNat : Int) = 35
        · have hh' : ((s[j].toNat : Int) == 35) = true := by simpa using hh
          have HP2 : Hid (skp false ((bs s).drop i) = skp true ((bs s).drop j)) := by
            show _ = _
            rw [HP.out, skp_hs hlt hh]
          have HH : Hid ((s[j].toNat : Int) = 35) := hh
          clear HP hh
          go_wp2_with (go_at_call 39; refine (rBlank_any _ _).mono ?_; rintro e w1 ⟨rfl, rfl⟩; rw [hb])
          rename World => W0
          go_loopw [1] (fun iv wr => wr = W0 ∧ ∃ m : Nat, j ≤ m ∧ m ≤ s.size ∧ iv = .int .i64 m ∧ skp false ((bs s).drop i) = skp true ((bs s).drop m)) (fun iv _ => s.size - (intOf iv).toNat)
          case atStart => exact ⟨rfl, j, Nat.le_refl _, hj, rfl, HP2.out⟩
          case round =>
            obtain ⟨rfl, m, hjm, hm, rfl, hq⟩ := hrel
            have HQ : Hid (skp false ((bs s).drop i) = skp true ((bs s).drop m)) := hq
            clear hq
            by_cases hmlt : m < s.size
            · have k1 : (0 : Int) ≤ (m : Int) := by omega
              have k2 : (m : Int) < (s.size : Int) := by omega
              by_cases h10 : (s[m].toNat : Int) = 10
              · have HT : Hid ((s[m].toNat : Int) = 10) := h10
                have h10' : ((s[m].toNat : Int) != 10) = false := by simpa using h10
                have h10'' : ((s[m].toNat : Int) == 10) = true := by simpa using h10
                have hne : j < m := by
                  rcases Nat.lt_or_ge j m with c | c
                  · exact c
                  · have : m = j := by omega
                    subst this
                    have := HH.out
                    omega
                clear h10
                go_wp2
                go_roundw
                case rel => exact ⟨by trivial, m, hm, rfl, by rw [HQ.out, skp_in_yes hmlt HT.out]⟩
                case measure => simp [intOf]; omega
              · have HT : Hid ((s[m].toNat : Int) ≠ 10) := h10
                have h10' : ((s[m].toNat : Int) != 10) = true := by simpa using h10
                have h10'' : ((s[m].toNat : Int) == 10) = false := by simpa using h10
                clear h10
                go_wp2
                go_roundw
                case rel => exact ⟨by trivial, m + 1, by omega, by omega, by go_num, by rw [HQ.out, skp_in_no hmlt HT.out]⟩
                case measure => simp [intOf]; omega
            · have : m = s.size := by omega
              subst this
              go_wp2
              go_roundw
              case rel => exact ⟨by trivial, s.size, Nat.le_refl _, rfl, by rw [HQ.out, drop_end s _ (Nat.le_refl _)]; rfl⟩
              case measure => simp [intOf]; omega
        · have hh' : ((s[j].toNat : Int) == 35) = false := by simpa using hh
          have hfin : skp false ((bs s).drop i) = (bs s).drop j := by rw [HP.out, skp_no hlt hb hh]
          have HF : Hid (skp false ((bs s).drop i) = (bs s).drop j) := hfin
          clear hfin
          go_wp2_with (go_at_call 39; refine (rBlank_any _ _).mono ?_; rintro e w1 ⟨rfl, rfl⟩; rw [hb])
          go_ret
          have := skN_of hj HF.out
          exact ⟨ret_int (by rw [this]), rfl, by rw [this, HF.out], by rw [this]; exact hj⟩
      · go_wp2_with (go_at_call 39; refine (rBlank_any _ _).mono ?_; rintro e w1 ⟨rfl, rfl⟩; rw [hb])
        go_roundw
        case rel => exact ⟨by trivial, j + 1, by omega, by go_num, by rw [HP.out, skp_bl hlt hb]⟩
        case measure => simp [intOf]; omega
    · have : j = s.size := by omega
      subst this
      have hfin : skp false ((bs s).drop i) = (bs s).drop s.size := by rw [HP.out, drop_end s _ (Nat.le_refl _)]; rfl
      have HF : Hid (skp false ((bs s).drop i) = (bs s).drop s.size) := hfin
      clear hfin
      go_wp2
      go_ret
      have := skN_of hj HF.out
      exact ⟨ret_int (by rw [this]), rfl, by rw [this, HF.out], by rw [this]; exact hj⟩

end Go.Proofs.Ytheedniegjcbgaa
