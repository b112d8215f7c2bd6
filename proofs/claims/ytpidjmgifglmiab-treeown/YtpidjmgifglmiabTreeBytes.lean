import Derived.Test.YtpidjmgifglmiabTreeMem
/- Names and texts, the program's and the reference's. -/
namespace Go.Proofs.Ytpidjmgifglmiab
open Go.RowKit
set_option linter.unusedVariables false
set_option linter.unusedSimpArgs false

def byteAt (s : ByteArray) (j : Nat) : Int := match s.data[j]? with | some c => (c.toNat : Int) | none => 0
def allAt (q : Nat → Int → Bool) (s : ByteArray) : Bool := (List.range s.size).all fun j => q j (byteAt s j)
theorem byteAt_eq {s : ByteArray} {j : Nat} (h : j < s.size) : byteAt s j = (s[j].toNat : Int) := by
  unfold byteAt
  rw [Array.getElem?_eq_getElem (show j < s.data.size from h)]
  rfl
theorem allAt_bad {q : Nat → Int → Bool} {s : ByteArray} {j : Nat} (h : j < s.size) (hq : q j (s[j].toNat : Int) = false) : allAt q s = false := by
  unfold allAt
  rw [List.all_eq_false]
  exact ⟨j, List.mem_range.2 h, by rw [byteAt_eq h, hq]; decide⟩
theorem allAt_good {q : Nat → Int → Bool} {s : ByteArray} (h : ∀ j (h : j < s.size), q j (s[j].toNat : Int) = true) : allAt q s = true := by
  unfold allAt
  rw [List.all_eq_true]
  intro j hj
  have := List.mem_range.1 hj
  rw [byteAt_eq this]
  exact h j this
def qName (j : Nat) (c : Int) : Bool := pLetter c || (j != 0 && pDigit c)
def qText (j : Nat) (c : Int) : Bool := pInText c
def nameP (s : ByteArray) : Bool := allAt qName s && s.size != 0
def textP (s : ByteArray) : Bool := allAt qText s
theorem nonempty (s : ByteArray) : (s.toList == []) = (s.size == 0) := by
  rw [Bool.eq_iff_iff]
  simp only [beq_iff_eq]
  constructor
  · intro h
    rw [ByteArray.toList_eq] at h
    show s.data.size = 0
    rw [← Array.length_toList, h]; rfl
  · intro h
    rw [ByteArray.toList_eq]
    exact List.eq_nil_of_length_eq_zero (by rw [Array.length_toList]; exact h)

theorem isEmpty_size (s : ByteArray) : s.toList.isEmpty = (s.size == 0) := by
  rw [← nonempty, Bool.eq_iff_iff]
  simp

set_option maxHeartbeats 400000 in
theorem isLetter_any (c : Int) (w : World) : Calls Try.prog 43 #[.int .u8 c] w fun e w' => e = .returned (.bool (pLetter c)) ∧ w' = w := by
  unfold pLetter
  go_enter Try.func43, Try.ntmps43
  go_wp2
  all_goals (go_ret; refine ⟨ret_bool ?_, rfl⟩; first | (simp_all; done) | (simp_all; omega) | (rw [Bool.eq_iff_iff]; simp_all; omega))

set_option maxHeartbeats 400000 in
theorem isDigit_any (c : Int) (w : World) : Calls Try.prog 44 #[.int .u8 c] w fun e w' => e = .returned (.bool (pDigit c)) ∧ w' = w := by
  unfold pDigit
  go_enter Try.func44, Try.ntmps44
  go_wp2
  all_goals (go_ret; refine ⟨ret_bool ?_, rfl⟩; first | (simp_all; done) | (simp_all; omega) | (rw [Bool.eq_iff_iff]; simp_all; omega))

set_option maxHeartbeats 1000000 in
theorem isName_any (s : ByteArray) (hs : s.size ≤ 140737488351232) (w : World) :
    Calls Try.prog 38 #[.string s] w fun e w' => e = .returned (.bool (nameP s)) ∧ w' = w := by
  go_enter Try.func38, Try.ntmps38
  go_wp2
  go_loopw [6] (fun iv wr => wr = w ∧ ∃ j : Nat, j ≤ s.size ∧ iv = .int .i64 j ∧ Hid (∀ i (h : i < s.size), i < j → qName i (s[i].toNat : Int) = true)) (fun iv _ => s.size - (intOf iv).toNat)
  case atStart => exact ⟨rfl, 0, Nat.zero_le _, rfl, fun i h hi => absurd hi (Nat.not_lt_zero _)⟩
  case round =>
    obtain ⟨rfl, j, hj, rfl, hp⟩ := hrel
    by_cases hlt : j < s.size
    · have i1 : (0 : Int) ≤ (j : Int) := by omega
      have i2 : (j : Int) < (s.size : Int) := by omega
      obtain ⟨c, hc⟩ : ∃ c : Int, c = (s[j].toNat : Int) := ⟨_, rfl⟩
      have KL := isLetter_any c
      have KD := isDigit_any c
      rw [hc] at KL KD
      have HQ : Hid (qName j (s[j].toNat : Int) = (pLetter (s[j].toNat : Int) || (j != 0 && pDigit (s[j].toNat : Int)))) := rfl
      have NX : Hid (qName j (s[j].toNat : Int) = true → ∀ i (h : i < s.size), i < j + 1 → qName i (s[i].toNat : Int) = true) := fun hq i h hi => by
        by_cases e : i = j
        · subst e; exact hq
        · exact hp.out i h (by omega)
      cases hL : pLetter (s[j].toNat : Int)
      · by_cases j0 : j = 0
        · rw [hL] at KL
          have HK : Hid (∀ w, Calls Try.prog 43 #[.int .u8 (s[j].toNat : Int)] w fun e w' => e = .returned (.bool false) ∧ w' = w) := KL
          have HL : Hid (pLetter (s[j].toNat : Int) = false) := hL
          have z1 : ((j : Int) == 0) = true := by simp [j0]
          have J0 : Hid (j = 0) := j0
          clear KL KD hL hc j0
          go_wp2_with (go_at_call 43; refine (HK.out _).mono ?_; rintro e w1 ⟨rfl, rfl⟩)
          go_ret
          exact ⟨ret_bool (by unfold nameP; rw [allAt_bad hlt (by rw [HQ.out, HL.out]; simp [J0.out])]; rfl), rfl⟩
        · cases hD : pDigit (s[j].toNat : Int)
          · rw [hL] at KL
            rw [hD] at KD
            have HK : Hid (∀ w, Calls Try.prog 43 #[.int .u8 (s[j].toNat : Int)] w fun e w' => e = .returned (.bool false) ∧ w' = w) := KL
            have HK2 : Hid (∀ w, Calls Try.prog 44 #[.int .u8 (s[j].toNat : Int)] w fun e w' => e = .returned (.bool false) ∧ w' = w) := KD
            have HL : Hid (pLetter (s[j].toNat : Int) = false) := hL
            have HD : Hid (pDigit (s[j].toNat : Int) = false) := hD
            have z1 : ((j : Int) == 0) = false := by simp [j0]
            clear KL KD hL hc hD
            go_wp2_with (first | (go_at_call 43; refine (HK.out _).mono ?_; rintro e w1 ⟨rfl, rfl⟩) | (go_at_call 44; refine (HK2.out _).mono ?_; rintro e w1 ⟨rfl, rfl⟩))
            go_ret
            exact ⟨ret_bool (by unfold nameP; rw [allAt_bad hlt (by rw [HQ.out, HL.out, HD.out]; simp)]; rfl), rfl⟩
          · rw [hL] at KL
            rw [hD] at KD
            have HK : Hid (∀ w, Calls Try.prog 43 #[.int .u8 (s[j].toNat : Int)] w fun e w' => e = .returned (.bool false) ∧ w' = w) := KL
            have HK2 : Hid (∀ w, Calls Try.prog 44 #[.int .u8 (s[j].toNat : Int)] w fun e w' => e = .returned (.bool true) ∧ w' = w) := KD
            have HG : Hid (qName j (s[j].toNat : Int) = true) := show qName j (s[j].toNat : Int) = true by rw [HQ.out, hL, hD]; simp [j0]
            have z1 : ((j : Int) == 0) = false := by simp [j0]
            clear KL KD hL hc hD
            go_wp2_with (first | (go_at_call 43; refine (HK.out _).mono ?_; rintro e w1 ⟨rfl, rfl⟩) | (go_at_call 44; refine (HK2.out _).mono ?_; rintro e w1 ⟨rfl, rfl⟩))
            go_roundw
            case rel => exact ⟨by trivial, j + 1, by omega, by go_num, NX.out HG.out⟩
            case measure => simp [intOf]; omega
      · rw [hL] at KL
        have HK : Hid (∀ w, Calls Try.prog 43 #[.int .u8 (s[j].toNat : Int)] w fun e w' => e = .returned (.bool true) ∧ w' = w) := KL
        have HG : Hid (qName j (s[j].toNat : Int) = true) := by rw [HQ.out, hL]; rfl
        clear KL KD hL hc
        go_wp2_with (go_at_call 43; refine (HK.out _).mono ?_; rintro e w1 ⟨rfl, rfl⟩)
        go_roundw
        case rel => exact ⟨by trivial, j + 1, by omega, by go_num, NX.out HG.out⟩
        case measure => simp [intOf]; omega
    · have : j = s.size := by omega
      subst this
      go_wp2
      go_ret
      refine ⟨ret_bool ?_, rfl⟩
      unfold nameP
      rw [allAt_good fun i h => hp.out i h h]
      have e := isEmpty_size s
      rw [Bool.true_and]
      first | (rw [e]; rfl) | (simp [e]; done)

set_option maxHeartbeats 1000000 in
theorem isText_any (s : ByteArray) (hs : s.size ≤ 140737488351232) (w : World) :
    Calls Try.prog 41 #[.string s] w fun e w' => e = .returned (.bool (textP s)) ∧ w' = w := by
  go_enter Try.func41, Try.ntmps41
  go_wp2
  go_loopw [7] (fun iv wr => wr = w ∧ ∃ j : Nat, j ≤ s.size ∧ iv = .int .i64 j ∧ Hid (∀ i (h : i < s.size), i < j → qText i (s[i].toNat : Int) = true)) (fun iv _ => s.size - (intOf iv).toNat)
  case atStart => exact ⟨rfl, 0, Nat.zero_le _, rfl, fun i h hi => absurd hi (Nat.not_lt_zero _)⟩
  case round =>
    obtain ⟨rfl, j, hj, rfl, hp⟩ := hrel
    by_cases hlt : j < s.size
    · have i1 : (0 : Int) ≤ (j : Int) := by omega
      have i2 : (j : Int) < (s.size : Int) := by omega
      have HQ : Hid (qText j (s[j].toNat : Int) = ((decide (32 ≤ (s[j].toNat : Int)) && decide ((s[j].toNat : Int) ≤ 126)) && (s[j].toNat : Int) != 34)) := rfl
      have NX : Hid (qText j (s[j].toNat : Int) = true → ∀ i (h : i < s.size), i < j + 1 → qText i (s[i].toNat : Int) = true) := fun hq i h hi => by
        by_cases e : i = j
        · subst e; exact hq
        · exact hp.out i h (by omega)
      by_cases g : 32 ≤ (s[j].toNat : Int) ∧ (s[j].toNat : Int) ≤ 126 ∧ ¬ ((s[j].toNat : Int) = 34)
      · have HG : Hid (qText j (s[j].toNat : Int) = true) := show qText j (s[j].toNat : Int) = true by rw [HQ.out]; simp [g.1, g.2.1, g.2.2]
        obtain ⟨g1, g2, g3⟩ := g
        have z1 : ¬ ((s[j].toNat : Int) < 32) := by omega
        have z2 : ¬ (126 < (s[j].toNat : Int)) := by omega
        clear g1 g2
        go_wp2
        go_roundw
        case rel => exact ⟨by trivial, j + 1, by omega, by go_num, NX.out HG.out⟩
        case measure => simp [intOf]; omega
      · have HG : Hid (qText j (s[j].toNat : Int) = false) := show qText j (s[j].toNat : Int) = false by
          rw [HQ.out, Bool.eq_false_iff]
          intro h
          simp only [Bool.and_eq_true, decide_eq_true_eq, bne_iff_ne] at h
          exact g ⟨h.1.1, h.1.2, h.2⟩
        by_cases z1 : (s[j].toNat : Int) < 32
        · clear g
          go_wp2
          go_ret
          exact ⟨ret_bool (allAt_bad hlt HG.out).symm, rfl⟩
        · by_cases z2 : 126 < (s[j].toNat : Int)
          · clear g
            go_wp2
            go_ret
            exact ⟨ret_bool (allAt_bad hlt HG.out).symm, rfl⟩
          · have z3 : ((s[j].toNat : Int) == 34) = true := by rw [beq_iff_eq]; omega
            clear g
            go_wp2
            go_ret
            exact ⟨ret_bool (allAt_bad hlt HG.out).symm, rfl⟩
    · have : j = s.size := by omega
      subst this
      go_wp2
      go_ret
      exact ⟨ret_bool (allAt_good fun i h => hp.out i h h).symm, rfl⟩

end Go.Proofs.Ytpidjmgifglmiab
