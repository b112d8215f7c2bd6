import Derived.Test.YtmpfoajpafglgaaDoorSignPlain
import Derived.Lib.Split
import Derived.Lib.SplitLaws
import Derived.Lib.IndexMore
import Derived.Lib.ItoaMem
import Derived.Lib.AtoiAll
/- Package sign, plainly: the lines by Split, a line by Cut, Atoi and Itoa. -/
namespace Go.Proofs.YtmpfoajpafglgaaDoor
open Go.Lib (atoiAll itoa decDigits parseUint10 parseMag NumEnd)
set_option linter.unusedVariables false
set_option linter.unusedSimpArgs false

theorem words_cat : ∀ (x cur r : Bs), (∀ b ∈ x, nb b ≠ 32) → wordsA cur (x ++ 32 :: r) = (cur ++ x) :: wordsA [] r
  | [], cur, r, _ => by
    rw [List.nil_append, wordsA, if_pos (by decide), List.append_nil]
  | b :: x, cur, r, h => by
    rw [List.cons_append, wordsA, if_neg (by simpa using h b (by simp)), words_cat x (cur ++ [b]) r fun c hc => h c (by simp [hc])]
    simp
theorem words_end : ∀ (x cur : Bs), (∀ b ∈ x, nb b ≠ 32) → wordsA cur x = [cur ++ x]
  | [], cur, _ => by rw [wordsA, List.append_nil]
  | b :: x, cur, h => by
    rw [wordsA, if_neg (by simpa using h b (by simp)), words_end x (cur ++ [b]) fun c hc => h c (by simp [hc])]
    simp
theorem words_ne : ∀ (x cur : Bs), wordsA cur x ≠ []
  | [], cur => by simp [wordsA]
  | b :: x, cur => by
    unfold wordsA
    split
    · simp
    · exact words_ne x _
def digOk (k : Nat) : Bool := (lenP (digB (k + 1)) == some ((k : Int) + 1)) && ((digB (k + 1)).all fun b => (nb b != 32) && (nb b != 10))
theorem dig_all : ((List.range 64).all fun a => (List.range 64).all fun b => digOk (a * 64 + b)) = true := by kernel_rfl
theorem dig_check {k : Nat} (h : k < 4096) : lenP (digB (k + 1)) = some ((k : Int) + 1) ∧ ((digB (k + 1)).all fun b => (nb b != 32) && (nb b != 10)) = true := by
  have h1 := List.all_eq_true.1 dig_all (k / 64) (List.mem_range.2 (by omega))
  have h2 := List.all_eq_true.1 h1 (k % 64) (List.mem_range.2 (by omega))
  rw [show k / 64 * 64 + k % 64 = k by omega] at h2
  unfold digOk at h2
  rw [Bool.and_eq_true, beq_iff_eq] at h2
  exact h2
theorem dig_len {m : Int} (h1 : 1 ≤ m) (h2 : m ≤ 4096) : lenP (digB m.toNat) = some m ∧ ∀ b ∈ digB m.toNat, nb b ≠ 32 ∧ nb b ≠ 10 := by
  obtain ⟨k, hk⟩ : ∃ k : Nat, m = (k : Int) + 1 := ⟨(m - 1).toNat, by omega⟩
  have := dig_check (k := k) (by omega)
  rw [hk, show ((k : Int) + 1).toNat = k + 1 by omega]
  refine ⟨this.1, fun b hb => ?_⟩
  have h := List.all_eq_true.1 this.2 b hb
  simpa using h

/- Where a byte stands first. -/
theorem index_one (c : UInt8) : ∀ s : Bs, (Go.Lib.index s [c] = -1 ∧ ∀ b ∈ s, b ≠ c) ∨ ∃ x y, s = x ++ c :: y ∧ (∀ b ∈ x, b ≠ c) ∧ Go.Lib.index s [c] = x.length
  | [] => .inl ⟨by simp [Go.Lib.index], by simp⟩
  | b :: s => by
    by_cases h : b = c
    · subst h
      exact .inr ⟨[], s, rfl, by simp, by simp [Go.Lib.index, List.isPrefixOf]⟩
    · have hp : ([c] : Bs).isPrefixOf (b :: s) = false := by simp [List.isPrefixOf, Ne.symm h]
      have hix : Go.Lib.index (b :: s) [c] = if Go.Lib.index s [c] == -1 then -1 else Go.Lib.index s [c] + 1 := by rw [Go.Lib.index, hp]; simp
      rcases index_one c s with ⟨e, hn⟩ | ⟨x, y, rfl, hn, e⟩
      · refine .inl ⟨by rw [hix, e]; rfl, ?_⟩
        intro a ha
        rcases List.mem_cons.1 ha with rfl | ha
        · exact h
        · exact hn a ha
      · refine .inr ⟨b :: x, y, rfl, ?_, ?_⟩
        · intro a ha
          rcases List.mem_cons.1 ha with rfl | ha
          · exact h
          · exact hn a ha
        · rw [hix, e, if_neg (by simp)]
          simp
theorem cut_one (c : UInt8) (s : Bs) : (Go.Lib.cut s [c] = (s, [], false) ∧ ∀ b ∈ s, b ≠ c) ∨ ∃ x y, s = x ++ c :: y ∧ (∀ b ∈ x, b ≠ c) ∧ Go.Lib.cut s [c] = (x, y, true) := by
  rcases index_one c s with ⟨e, hn⟩ | ⟨x, y, hs, hn, e⟩
  · exact .inl ⟨by unfold Go.Lib.cut; rw [e, if_neg (by decide)], hn⟩
  · refine .inr ⟨x, y, hs, hn, ?_⟩
    unfold Go.Lib.cut
    rw [e, if_pos (by omega), hs]
    simp

/- The lines. -/
/-- Cut at each byte 10; what is left is a piece, empty or not. -/
def splA : Bs → Bs → List Bs
  | cur, [] => [cur]
  | cur, b :: t => if nb b == 10 then cur :: splA [] t else splA (cur ++ [b]) t
theorem spl_cat : ∀ (x cur r : Bs), (∀ b ∈ x, nb b ≠ 10) → splA cur (x ++ 10 :: r) = (cur ++ x) :: splA [] r
  | [], cur, r, _ => by
    rw [List.nil_append, splA, if_pos (by decide), List.append_nil]
  | b :: x, cur, r, h => by
    rw [List.cons_append, splA, if_neg (by simpa using h b (by simp)), spl_cat x (cur ++ [b]) r fun c hc => h c (by simp [hc])]
    simp
theorem spl_end : ∀ (x cur : Bs), (∀ b ∈ x, nb b ≠ 10) → splA cur x = [cur ++ x]
  | [], cur, _ => by rw [splA, List.append_nil]
  | b :: x, cur, h => by
    rw [splA, if_neg (by simpa using h b (by simp)), spl_end x (cur ++ [b]) fun c hc => h c (by simp [hc])]
    simp
theorem ne_nb {b c : UInt8} (h : b ≠ c) : nb b ≠ nb c := fun e => h (UInt8.toNat_inj.1 (by unfold nb at e; omega))
theorem split_spl : ∀ (n : Nat) (s : Bs), s.length ≤ n → Go.Lib.splitK [10] 0 (s.count 10) s = splA [] s
  | n, s, hn => by
    rcases index_one 10 s with ⟨e, hno⟩ | ⟨x, y, rfl, hno, e⟩
    · rw [spl_end s [] fun b hb => ne_nb (hno b hb), List.nil_append]
      cases s.count 10 with
      | zero => rfl
      | succ k => unfold Go.Lib.splitK; rw [e, if_pos (by decide)]
    · have hc : (x ++ (10 : UInt8) :: y).count 10 = y.count 10 + 1 := by
        rw [List.count_append, List.count_cons_self, List.count_eq_zero.2 fun h => hno 10 h rfl]
        omega
      rw [hc, Go.Lib.splitK, e, if_neg (by simp), spl_cat x [] y fun b hb => ne_nb (hno b hb), List.nil_append]
      cases n with
      | zero => simp at hn
      | succ n =>
        rw [← split_spl n y (by simp at hn; omega)]
        simp
theorem spl_lines : ∀ (s cur : Bs), splA cur s = linesA cur s ∨ splA cur s = linesA cur s ++ [[]]
  | [], cur => by
    unfold splA linesA
    cases cur with
    | nil => exact .inr rfl
    | cons a c => exact .inl rfl
  | b :: t, cur => by
    unfold splA linesA
    split
    · rcases spl_lines t [] with h | h
      · exact .inl (by rw [h])
      · exact .inr (by rw [h]; rfl)
    · exact spl_lines t _
theorem readL_last : ∀ (ls : List Bs) (acc : List Par) (n : Nat), readL acc n (ls ++ [[]]) = readL acc n ls
  | [], acc, n => by simp [readL]
  | x :: r, acc, n => by
    rw [List.cons_append]
    unfold readL
    split
    · exact readL_last r _ _
    · cases lineP x with
      | none => rfl
      | some p => exact readL_last r _ _
theorem readL_split (s : Bs) (acc : List Par) (n : Nat) : readL acc n (Go.Lib.splitK [10] 0 (s.count 10) s) = readL acc n (linesA [] s) := by
  rw [split_spl s.length s (Nat.le_refl _)]
  rcases spl_lines s [] with h | h
  · rw [h]
  · rw [h, readL_last]

/- A number by Atoi and Itoa. -/
def lenC (l : Bs) : Int :=
  match atoiAll l with
  | .ok n => if itoa n = l then n else 0
  | _ => 0
theorem dec_dig : ∀ (f n : Nat), n < 10 ^ (f + 1) → decDigits n = digF (f + 1) n
  | 0, n, h => by
    rw [decDigits, dif_pos (by simpa using h), digF, if_pos (by simpa using h)]
  | f + 1, n, h => by
    rw [decDigits, digF]
    by_cases h1 : n < 10
    · rw [dif_pos h1, if_pos h1]
    · rw [dif_neg h1, if_neg h1, dec_dig f (n / 10) (by rw [Nat.pow_succ] at h; omega)]
theorem dec_digB {n : Nat} (h : n ≤ 4096) : decDigits n = digB n := dec_dig 19 n (by omega)
theorem itoa_dig {m : Int} (h1 : 1 ≤ m) (h2 : m ≤ 4096) : itoa m = digB m.toNat := by
  unfold itoa
  rw [if_neg (by omega), dec_digB (by omega)]
theorem lenC_of {l : Bs} (h1 : 1 ≤ lenC l) (h2 : lenC l ≤ 4096) : lenP l = some (lenC l) := by
  unfold lenC at h1 h2 ⊢
  cases hA : atoiAll l with
  | ok n =>
    rw [hA] at h1 h2
    simp only at h1 h2 ⊢
    by_cases he : itoa n = l
    · rw [if_pos he] at h1 h2 ⊢
      rw [← he, itoa_dig h1 h2]
      exact (dig_len h1 h2).1
    · rw [if_neg he] at h1; omega
  | «syntax» => rw [hA] at h1; simp only at h1; omega
  | range => rw [hA] at h1; simp only at h1; omega

theorem valA_append : ∀ (a r : Bs) (n : Int), valA n (a ++ r) = valA (valA n a) r
  | [], r, n => rfl
  | b :: a, r, n => by rw [List.cons_append, valA, valA_append a r]; rfl
def dig (b : UInt8) : Prop := 48 ≤ b.toNat ∧ b.toNat ≤ 57
theorem valA_nn : ∀ (a : Bs) (n : Int), 0 ≤ n → (∀ b ∈ a, dig b) → 0 ≤ valA n a
  | [], n, h, _ => h
  | b :: a, n, h, hd => by
    have := (hd b (by simp)).1
    rw [valA]
    exact valA_nn a _ (by unfold nb; omega) fun c hc => hd c (by simp [hc])
theorem valA_pos : ∀ (a : Bs) (n : Int), 1 ≤ n → (∀ b ∈ a, dig b) → 1 ≤ valA n a
  | [], n, h, _ => h
  | b :: a, n, h, hd => by
    have := (hd b (by simp)).1
    rw [valA]
    exact valA_pos a _ (by unfold nb; omega) fun c hc => hd c (by simp [hc])
theorem val_pos {l : Bs} (h0 : l ≠ []) (h1 : hd l ≠ 48) (hd' : ∀ b ∈ l, dig b) : 1 ≤ valA 0 l := by
  cases l with
  | nil => exact absurd rfl h0
  | cons b a =>
    rw [valA]
    have := hd' b (by simp)
    simp only [hd, nb, dig] at h1 this
    exact valA_pos a _ (by unfold nb; omega) fun c hc => hd' c (by simp [hc])
theorem dec_val : ∀ (n : Nat) (l : Bs), l.length ≤ n → l ≠ [] → hd l ≠ 48 → (∀ b ∈ l, dig b) → decDigits (valA 0 l).toNat = l
  | 0, l, hn, h0, _, _ => absurd (List.eq_nil_of_length_eq_zero (by omega)) h0
  | n + 1, l, hn, h0, h1, hdg => by
    rcases List.eq_nil_or_concat l with rfl | ⟨a, b, rfl⟩
    · exact absurd rfl h0
    · rw [List.concat_eq_append] at hn h1 hdg ⊢
      have hb := hdg b (by simp)
      have ha : ∀ c ∈ a, dig c := fun c hc => hdg c (by simp [hc])
      have e : valA 0 (a ++ [b]) = valA 0 a * 10 + (nb b - 48) := by rw [valA_append]; rfl
      have hnb : nb b = (b.toNat : Int) := rfl
      have ub : UInt8.ofNat (48 + (b.toNat - 48)) = b := by
        apply UInt8.toNat_inj.1
        rw [UInt8.toNat_ofNat']
        have := b.toNat_lt
        unfold dig at hb
        omega
      unfold dig at hb
      cases a with
      | nil =>
        have e2 : (valA 0 ([] ++ [b])).toNat = b.toNat - 48 := by rw [e]; simp only [valA]; omega
        rw [e2, decDigits, dif_pos (by omega), ub]
        rfl
      | cons c a =>
        have hp := val_pos (l := c :: a) (by simp) (by simpa [hd] using h1) ha
        have e2 : (valA 0 (c :: a ++ [b])).toNat = (valA 0 (c :: a)).toNat * 10 + (b.toNat - 48) := by rw [e]; omega
        rw [e2, decDigits, dif_neg (by omega), show ((valA 0 (c :: a)).toNat * 10 + (b.toNat - 48)) / 10 = (valA 0 (c :: a)).toNat by omega, show ((valA 0 (c :: a)).toNat * 10 + (b.toNat - 48)) % 10 = b.toNat - 48 by omega, ub, dec_val n (c :: a) (by simp at hn ⊢; omega) (by simp) (by simpa [hd] using h1) ha]
theorem pu10 : ∀ (l : Bs) (acc e : Nat), acc < 10 ^ e → e + l.length ≤ 17 → (∀ b ∈ l, dig b) → parseUint10 acc l = .ok (valA (acc : Int) l).toNat
  | [], acc, e, ha, he, _ => by simp [parseUint10, valA]
  | b :: l, acc, e, ha, he, hdg => by
    have hb := hdg b (by simp)
    unfold dig at hb
    have hp : 10 ^ e ≤ 10 ^ 17 := Nat.pow_le_pow_right (by decide) (by simp at he; omega)
    have h17 : (10 : Nat) ^ 17 = 100000000000000000 := by decide
    have hnb : nb b = (b.toNat : Int) := rfl
    rw [parseUint10, if_pos hb, if_neg (by omega), if_neg (by omega), valA, pu10 l (acc * 10 + (b.toNat - 48)) (e + 1) (by rw [Nat.pow_succ]; omega) (by simp at he ⊢; omega) fun c hc => hdg c (by simp [hc])]
    congr 3
    omega
theorem lenP_parts {l : Bs} {m : Int} (h : lenP l = some m) : l ≠ [] ∧ l.length ≤ 4 ∧ hd l ≠ 48 ∧ (∀ b ∈ l, dig b) ∧ m = valA 0 l ∧ m ≤ 4096 := by
  unfold lenP at h
  split at h
  · exact absurd h (by simp)
  · rename_i h1
    split at h
    · rename_i h2
      split at h
      · rename_i h3
        simp only [Bool.or_eq_true, not_or, List.isEmpty_iff, decide_eq_true_eq, beq_iff_eq] at h1
        rw [List.all_eq_true] at h2
        injection h with h
        refine ⟨h1.1.1, by omega, h1.2, fun b hb => ?_, h.symm, by omega⟩
        have := h2 b hb
        unfold pDigit nb at this
        simp at this
        unfold dig
        omega
      · exact absurd h (by simp)
    · exact absurd h (by simp)
theorem lenC_eq {l : Bs} {m : Int} (h : lenP l = some m) : lenC l = m ∧ 1 ≤ m ∧ m ≤ 4096 := by
  obtain ⟨h0, h4, h1, hdg, hm, hle⟩ := lenP_parts h
  have hp := val_pos h0 h1 hdg
  have hu := pu10 l 0 0 (by decide) (by omega) hdg
  have hA : atoiAll l = .ok m := by
    cases l with
    | nil => exact absurd rfl h0
    | cons c r =>
      have hc := hdg c (by simp)
      unfold dig at hc
      unfold atoiAll
      simp only
      rw [if_neg (by omega), parseMag, if_neg h0, hu]
      simp only
      have e : ((valA ((0 : Nat) : Int) (c :: r)).toNat : Int) = m := by
        have : valA ((0 : Nat) : Int) (c :: r) = valA 0 (c :: r) := rfl
        omega
      rw [if_neg (by omega), if_neg (by omega), if_neg (by omega), e]
  have hi : itoa m = l := by
    unfold itoa
    rw [if_neg (by omega), hm, dec_val l.length l (Nat.le_refl _) h0 h1 hdg]
  refine ⟨?_, by omega, hle⟩
  unfold lenC
  rw [hA]
  simp only
  rw [if_pos hi]

/- A line by Cut. -/
def kindC (k : Bs) : Int := if k = realB then 1 else if k = complexB then 2 else 0
def readC (l : Bs) : Par := ⟨⟨(Go.Lib.cut l [32]).1.toArray⟩, kindC (Go.Lib.cut (Go.Lib.cut l [32]).2.1 [32]).1, lenC (Go.Lib.cut (Go.Lib.cut l [32]).2.1 [32]).2.1⟩
theorem may_kind {p : Par} (h : mayP p = true) : (p.kind = 1 ∨ p.kind = 2) ∧ 1 ≤ p.len ∧ p.len ≤ 4096 := by
  unfold mayP at h
  simp only [Bool.and_eq_true, Bool.or_eq_true, beq_iff_eq, decide_eq_true_eq] at h
  exact ⟨h.1.2, h.2⟩
theorem read_line (l : Bs) : (mayP (readC l) = true ∧ lineP l = some (readC l)) ∨ (mayP (readC l) = false ∧ lineP l = none) := by
  have no32 : ∀ {x : Bs}, (∀ b ∈ x, b ≠ (32 : UInt8)) → ∀ b ∈ x, nb b ≠ 32 := fun h b hb => ne_nb (h b hb)
  have fall : (mayP (readC l) = true → False) → lineP l = none → (mayP (readC l) = true ∧ lineP l = some (readC l)) ∨ (mayP (readC l) = false ∧ lineP l = none) := fun h e => .inr ⟨by cases hm : mayP (readC l) with | true => exact absurd hm h | false => rfl, e⟩
  rcases cut_one 32 l with ⟨e1, hn⟩ | ⟨x, y, hl, hx, e1⟩
  · refine fall (fun h => ?_) (by unfold lineP; rw [words_end l [] (no32 hn)])
    have := (may_kind h).1
    simp only [readC, e1] at this
    have e2 : Go.Lib.cut ([] : Bs) [32] = ([], [], false) := by decide
    rw [e2] at this
    revert this
    decide
  · rcases cut_one 32 y with ⟨e2, hn⟩ | ⟨x2, z, hy, hx2, e2⟩
    · refine fall (fun h => ?_) (by unfold lineP; rw [hl, words_cat x [] y (no32 hx), words_end y [] (no32 hn)])
      have := (may_kind h).2.1
      simp only [readC, e1, e2] at this
      have e3 : lenC [] = 0 := rfl
      omega
    · have hR : readC l = ⟨⟨x.toArray⟩, kindC x2, lenC z⟩ := by simp only [readC, e1, e2]
      have hW : wordsA [] l = x :: x2 :: wordsA [] z := by rw [hl, words_cat x [] y (no32 hx), hy, words_cat x2 [] z (no32 hx2)]; rfl
      by_cases hz : ∀ b ∈ z, b ≠ (32 : UInt8)
      · have hL : lineP l = parL x x2 z := by
          unfold lineP
          rw [hW, words_end z [] (no32 hz)]
          rfl
        rw [hL, hR]
        unfold parL
        by_cases hk : (x2 == realB || x2 == complexB) = true
        · rw [if_pos hk]
          have hkc : kindC x2 = if x2 == complexB then 2 else 1 := by
            rcases Bool.or_eq_true_iff.1 hk with h | h
            · rw [beq_iff_eq] at h; subst h; decide
            · rw [beq_iff_eq] at h; subst h; decide
          rw [hkc]
          cases hlz : lenP z with
          | none =>
            refine .inr ⟨?_, rfl⟩
            cases hm : mayP ⟨⟨x.toArray⟩, if x2 == complexB then 2 else 1, lenC z⟩ with
            | false => rfl
            | true =>
              have := (may_kind hm).2
              have := lenC_of this.1 this.2
              rw [hlz] at this
              exact absurd this (by simp)
          | some m =>
            rw [(lenC_eq hlz).1]
            cases hm : mayP ⟨⟨x.toArray⟩, if x2 == complexB then 2 else 1, m⟩ with
            | false => exact .inr ⟨rfl, by simp only; rw [if_neg (by rw [hm]; decide)]⟩
            | true => exact .inl ⟨rfl, by simp only; rw [if_pos hm]⟩
        · rw [if_neg hk]
          refine .inr ⟨?_, rfl⟩
          have hk0 : kindC x2 = 0 := by
            simp only [Bool.or_eq_true, beq_iff_eq, not_or] at hk
            unfold kindC
            rw [if_neg hk.1, if_neg hk.2]
          rw [hk0]
          cases hm : mayP ⟨⟨x.toArray⟩, 0, lenC z⟩ with
          | false => rfl
          | true => have := (may_kind hm).1; simp at this
      · rcases cut_one 32 z with ⟨_, hn⟩ | ⟨x3, z3, hz3, hx3, _⟩
        · exact absurd hn hz
        · refine fall (fun h => ?_) ?_
          · rw [hR] at h
            have := (may_kind h).2
            obtain ⟨_, _, _, hdg, _⟩ := lenP_parts (lenC_of this.1 this.2)
            have := hdg 32 (by rw [hz3]; simp)
            revert this
            unfold dig
            decide
          · unfold lineP
            rw [hW, hz3, words_cat x3 [] z3 (no32 hx3)]
            cases hw : wordsA [] z3 with
            | nil => exact absurd hw (words_ne _ _)
            | cons a r => rfl

end Go.Proofs.YtmpfoajpafglgaaDoor
