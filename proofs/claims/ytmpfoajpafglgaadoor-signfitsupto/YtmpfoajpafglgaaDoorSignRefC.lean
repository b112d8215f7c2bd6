import Derived.Test.YtmpfoajpafglgaaDoorSignRefB
/- The reference: words, length. -/
namespace Go.Proofs.YtmpfoajpafglgaaDoor
open Go.RowKit
set_option linter.unusedVariables false
set_option linter.unusedSimpArgs false

def strs (l : List ByteArray) : List Value := l.map Value.string
/-- A list of texts that the call owns. -/
def OwnS (w : World) (B : Nat) (v : Value) (l : List ByteArray) : Prop := w.ownsRow B 9 1 v l.length (strs l)
theorem OwnS.below {w w' : World} {B : Nat} {v : Value} {l : List ByteArray} (h : OwnS w B v l) (k : Below w.heap.size w w') : OwnS w' B v l := by
  refine World.ownsRow.kept h (row := none) ⟨k.os, k.tape, k.output, k.size, fun j hj _ => k.block j hj⟩ ?_
  cases v.ownBlock <;> simp
theorem ownS_nil (w : World) (B : Nat) : OwnS w B (.slice none 0 0) [] := World.ownsRow_nil w B _ 1
theorem ownS_snoc {w : World} {B : Nat} {v : Value} {s : List ByteArray} {nm : ByteArray} (h : w.ownsRow B 9 1 v (s.length + 1) (strs s ++ [.string nm])) : OwnS w B v (s ++ [nm]) := by
  unfold OwnS strs
  rw [List.length_append, List.map_append]
  exact h
theorem OwnS.rows {w : World} {B : Nat} {v : Value} {l : List ByteArray} (h : OwnS w B v l) : ∃ p c, v = .slice p l.length c ∧ (l = [] ∨ ∃ g, p = some ⟨g, 0, none⟩ ∧ ∀ i (h : i < l.length), w.cell? ⟨g, i, none⟩ = some (.string l[i])) := by
  obtain ⟨hl, h⟩ := h
  rcases h with ⟨hv, hn⟩ | ⟨g, cap, cur, hv, hB, hg, hc1, hc2, hsz, htk⟩
  · have : l = [] := List.eq_nil_of_length_eq_zero hn
    subst this
    exact ⟨none, 0, hv, .inl rfl⟩
  · refine ⟨some ⟨g, 0, none⟩, cap, hv, .inr ⟨g, rfl, fun i hi => ?_⟩⟩
    have : (strs l)[i]? = some (.string l[i]) := by simp [strs, hi]
    rw [← this, ← htk, List.getElem?_take_of_lt (by omega)]
    simp [World.cell?, hg]
theorem info_string : (Tryd.prog.info? 9).map (fun i => (i.zero, i.size, i.bytes)) = some (some (.string ⟨#[]⟩), 1, 16) := by kernel_rfl
theorem info_Param : (Tryd.prog.info? 30).map (fun i => (i.zero, i.size, i.bytes)) = some (some (.agg #[.string ⟨#[]⟩, .int .i64 0, .int .i64 0]), 3, 32) := by kernel_rfl
theorem bs_extract (s : ByteArray) (i j : Nat) : bs (s.extract i j) = ((bs s).drop i).take (j - i) := by
  simp [bs, ByteArray.data_extract, Array.toList_extract, List.extract]
theorem cur_next {s : ByteArray} {f i : Nat} (hf : f ≤ i) (hi : i < s.size) : ((bs s).drop f).take (i + 1 - f) = ((bs s).drop f).take (i - f) ++ [s[i]] := by
  have h1 : i - f < ((bs s).drop f).length := by rw [List.length_drop, bs_length]; omega
  rw [show i + 1 - f = (i - f) + 1 by omega, take_succ h1]
  congr 2
  rw [List.getElem_drop]
  simp only [show f + (i - f) = i by omega]
  rfl

/-- So far: the words. -/
def WordsAt (s : ByteArray) (acc : List Bs) (f i : Nat) : Prop :=
  (i ≤ s.size ∧ f ≤ i ∧ wordsA [] (bs s) = acc ++ wordsA (((bs s).drop f).take (i - f)) ((bs s).drop i)) ∨ (i = s.size + 1 ∧ wordsA [] (bs s) = acc)
theorem words_start (s : ByteArray) : WordsAt s [] 0 0 := .inl ⟨Nat.zero_le _, Nat.le_refl _, by simp⟩
theorem words_on {s : ByteArray} {acc : List Bs} {f i : Nat} (h : WordsAt s acc f i) (hi : i < s.size) (hc : (s[i].toNat : Int) ≠ 32) : WordsAt s acc f (i + 1) := by
  rcases h with ⟨h1, h2, h3⟩ | ⟨h1, _⟩
  · refine .inl ⟨hi, by omega, ?_⟩
    rw [h3, drop_at s i hi, wordsA, if_neg (by simpa [nb] using hc), ← cur_next h2 hi]
  · omega
theorem words_cut {s : ByteArray} {acc : List Bs} {f i : Nat} (h : WordsAt s acc f i) (hi : i < s.size) (hc : (s[i].toNat : Int) = 32) : WordsAt s (acc ++ [((bs s).drop f).take (i - f)]) (i + 1) (i + 1) := by
  rcases h with ⟨h1, h2, h3⟩ | ⟨h1, _⟩
  · refine .inl ⟨hi, Nat.le_refl _, ?_⟩
    rw [h3, drop_at s i hi, wordsA, if_pos (by simpa [nb] using hc)]
    simp
  · omega
theorem words_last {s : ByteArray} {acc : List Bs} {f : Nat} (h : WordsAt s acc f s.size) : WordsAt s (acc ++ [((bs s).drop f).take (s.size - f)]) (s.size + 1) (s.size + 1) := by
  rcases h with ⟨h1, h2, h3⟩ | ⟨h1, _⟩
  · refine .inr ⟨rfl, ?_⟩
    rw [h3, drop_end s _ (Nat.le_refl _), wordsA]
  · omega
def sof (x : Bs) : ByteArray := ⟨x.toArray⟩

set_option maxRecDepth 100000 in
set_option maxHeartbeats 2000000 in
theorem rwords_any (s : ByteArray) (hs : s.size ≤ 65536) (w : World) :
    Calls Tryd.prog 47 #[.string s] w fun e w' => ∃ v, e = .returned v ∧ OwnS w' w.heap.size v ((wordsA [] (bs s)).map sof) ∧ Below w.heap.size w w' := by
  obtain ⟨i0, hi0, hz0, hz1, hz2⟩ := info_parts info_string
  go_enter Tryd.func47, Tryd.ntmps47
  go_wp2
  go_loopw [3, 4, 5] (fun lv fv iv wr => Below w.heap.size w wr ∧ ∃ (j f : Nat) (acc : List Bs) (ov : Value), ov = lv ∧ j ≤ s.size + 1 ∧ f ≤ j ∧ acc.length ≤ j ∧ iv = .int .i64 j ∧ fv = .int .i64 f ∧ Hid (OwnS wr w.heap.size ov (acc.map sof)) ∧ Hid (WordsAt s acc f j)) (fun _ _ iv _ => s.size + 1 - (intOf iv).toNat)
  case atStart => exact ⟨bel0 w, 0, 0, [], _, rfl, Nat.zero_le _, Nat.le_refl _, Nat.zero_le _, rfl, rfl, ownS_nil _ _, words_start s⟩
  case round =>
    obtain ⟨hb, j, f, acc, ov, rfl, hj, hf, hac, rfl, rfl, HO, HW⟩ := hrel
    have i1 : (0 : Int) ≤ (j : Int) := by omega
    have szr := hb.size
    by_cases hle : j ≤ s.size
    · have i3 : (j : Int) ≤ (s.size : Int) := by omega
      have f1 : (0 : Int) ≤ (f : Int) := by omega
      have f2 : (f : Int) ≤ (j : Int) := by omega
      have hxe : s.extract f j = sof (((bs s).drop f).take (j - f)) := by unfold sof; rw [← bs_extract, of_bs]
      obtain ⟨X, hX⟩ : ∃ X, s.extract f j = X := ⟨_, rfl⟩
      have HX : Hid (X = sof (((bs s).drop f).take (j - f))) := by rw [← hX]; exact hxe
      clear hxe
      by_cases hlt : j < s.size
      · have i2 : (j : Int) < (s.size : Int) := by omega
        have i4 : ((j : Int) == (s.size : Int)) = false := by rw [beq_eq_false_iff_ne]; omega
        by_cases hc : (s[j].toNat : Int) = 32
        · have HN : Hid (WordsAt s (acc ++ [((bs s).drop f).take (j - f)]) (j + 1) (j + 1)) := words_cut HW.out hlt hc
          have hc' : ((s[j].toNat : Int) == 32) = true := by simpa using hc
          clear hc HW
          go_wp2_with (first
            | (at_builtin; refine wpList_append_own_at _ rfl _ _ 53 rfl w.heap.size 9 i0 _ 1 16 Tryd.underlying53 hi0 hz0 hz1 hz2 rfl (by decide) ov acc.length (strs (acc.map sof)) rfl (World.ownsRow.alloc (by have := HO.out; unfold OwnS at this; rw [List.length_map] at this; exact this) _) ⟨wr.heap.size, 0, none⟩ 1 1 [.string X] rfl rfl (World.news_of_block (cs := #[.string X]) (t := 9) (fr := (0, 0)) (heap_alloc_new wr _)) (by simp [Value.oneCell']) (by unfold maxLen; omega) (by omega) (by simp; omega) ?_; intro v' w3 hown3 hgrow hnil hat; have HO3 : Hid (w3.ownsRow w.heap.size 9 1 v' (acc.length + 1) (strs (acc.map sof) ++ [.string X]) ∧ (wr.alloc (.cells #[.string X] 9)).grownBy w3 ov.ownBlock) := ⟨hown3, hgrow⟩; clear hown3 hgrow hnil hat))
          go_roundw
          case rel =>
            obtain ⟨ho3, hgrow⟩ := HO3.out
            have hob := HO.out.lt
            refine ⟨Below.grown (hb.alloc (by omega) _) hgrow (by simp; omega) (fun q e => (hob q e).1), j + 1, j + 1, acc ++ [((bs s).drop f).take (j - f)], _, rfl, by omega, Nat.le_refl _, by simp; omega, by go_num, by go_num, ?_, HN.out⟩
            rw [List.map_append, List.map_singleton, ← HX.out]
            refine ownS_snoc ?_
            rw [List.length_map]
            exact ho3
          case measure => simp [intOf]; omega
        · have HN : Hid (WordsAt s acc f (j + 1)) := words_on HW.out hlt hc
          have hc' : ((s[j].toNat : Int) == 32) = false := by simpa using hc
          clear hc HW
          go_wp2
          go_roundw
          case rel => exact ⟨hb, j + 1, f, acc, _, rfl, by omega, by omega, by omega, by go_num, rfl, HO, HN⟩
          case measure => simp [intOf]; omega
      · have hjs : j = s.size := by omega
        subst hjs
        have HN : Hid (WordsAt s (acc ++ [((bs s).drop f).take (s.size - f)]) (s.size + 1) (s.size + 1)) := words_last HW.out
        clear HW
        go_wp2_with (first
            | (at_builtin; refine wpList_append_own_at _ rfl _ _ 53 rfl w.heap.size 9 i0 _ 1 16 Tryd.underlying53 hi0 hz0 hz1 hz2 rfl (by decide) ov acc.length (strs (acc.map sof)) rfl (World.ownsRow.alloc (by have := HO.out; unfold OwnS at this; rw [List.length_map] at this; exact this) _) ⟨wr.heap.size, 0, none⟩ 1 1 [.string X] rfl rfl (World.news_of_block (cs := #[.string X]) (t := 9) (fr := (0, 0)) (heap_alloc_new wr _)) (by simp [Value.oneCell']) (by unfold maxLen; omega) (by omega) (by simp; omega) ?_; intro v' w3 hown3 hgrow hnil hat; have HO3 : Hid (w3.ownsRow w.heap.size 9 1 v' (acc.length + 1) (strs (acc.map sof) ++ [.string X]) ∧ (wr.alloc (.cells #[.string X] 9)).grownBy w3 ov.ownBlock) := ⟨hown3, hgrow⟩; clear hown3 hgrow hnil hat))
        go_roundw
        case rel =>
          obtain ⟨ho3, hgrow⟩ := HO3.out
          have hob := HO.out.lt
          refine ⟨Below.grown (hb.alloc (by omega) _) hgrow (by simp; omega) (fun q e => (hob q e).1), s.size + 1, s.size + 1, acc ++ [((bs s).drop f).take (s.size - f)], _, rfl, by omega, Nat.le_refl _, by simp; omega, by go_num, by go_num, ?_, HN.out⟩
          rw [List.map_append, List.map_singleton, ← HX.out]
          refine ownS_snoc ?_
          rw [List.length_map]
          exact ho3
        case measure => simp [intOf]
    · have hjs : j = s.size + 1 := by omega
      have hfin : wordsA [] (bs s) = acc := by
        rcases HW.out with ⟨h, _⟩ | ⟨_, h⟩
        · omega
        · exact h
      have i4 : ¬ ((j : Int) ≤ (s.size : Int)) := by omega
      have HF : Hid (wordsA [] (bs s) = acc) := hfin
      clear HW hfin
      go_wp2
      go_ret
      exact ⟨_, rfl, by rw [HF.out]; exact HO.out, hb⟩

/- The length. -/
theorem val_snoc (n : Int) (l : Bs) (b : UInt8) : valA n (l ++ [b]) = valA n l * 10 + (nb b - 48) := by
  induction l generalizing n with
  | nil => rfl
  | cons a l ih => simp only [List.cons_append, valA]; exact ih _
theorem val_bounds : ∀ (l : Bs) (n : Int), (∀ b ∈ l, pDigit (nb b) = true) → 0 ≤ n → n * 10 ^ l.length ≤ valA n l ∧ valA n l < (n + 1) * 10 ^ l.length
  | [], n, _, _ => by simp [valA]; omega
  | b :: t, n, h, hn => by
    have hb := h b (by simp)
    unfold pDigit at hb
    simp at hb
    have ih := val_bounds t (n * 10 + (nb b - 48)) (fun x hx => h x (by simp [hx])) (by omega)
    simp only [valA, List.length_cons]
    have hp : (0 : Int) < 10 ^ t.length := Int.pow_pos (by decide)
    have e : ∀ m : Int, m * 10 ^ (t.length + 1) = (m * 10) * 10 ^ t.length := fun m => by rw [Int.pow_succ]; rw [Int.mul_assoc, Int.mul_comm 10]
    rw [e, e]
    constructor
    · exact Int.le_trans (Int.mul_le_mul_of_nonneg_right (by omega) (Int.le_of_lt hp)) ih.1
    · exact Int.lt_of_lt_of_le ih.2 (Int.mul_le_mul_of_nonneg_right (by omega) (Int.le_of_lt hp))

theorem val_small {l : Bs} (h : ∀ b ∈ l, pDigit (nb b) = true) (h4 : l.length ≤ 4) : 0 ≤ valA 0 l ∧ valA 0 l < 10000 := by
  have := val_bounds l 0 h (Int.le_refl _)
  have hp : ((10 : Int) ^ l.length) ≤ 10000 := by
    have : l.length = 0 ∨ l.length = 1 ∨ l.length = 2 ∨ l.length = 3 ∨ l.length = 4 := by omega
    rcases this with e | e | e | e | e <;> rw [e] <;> decide
  omega

set_option maxRecDepth 100000 in
set_option maxHeartbeats 2000000 in
theorem rlength_any (s : ByteArray) (hs : s.size ≤ 65536) (w : World) :
    Calls Tryd.prog 48 #[.string s] w fun e w' => (∃ x : Int, e = .returned (.tuple #[.int .i64 x, .bool (lenP (bs s)).isSome]) ∧ ∀ n, lenP (bs s) = some n → x = n) ∧ w' = w := by
  by_cases h0 : s.size = 0
  · have he2 : (s.toList == []) = true := by rw [nonempty]; simp [h0]
    have he : s.toList.isEmpty = true := by rw [isEmpty_size]; simp [h0]
    have hf : lenP (bs s) = none := by
      have : bs s = [] := List.eq_nil_of_length_eq_zero (by rw [bs_length]; exact h0)
      rw [this]; rfl
    rw [hf]
    clear h0 hf
    go_enter Tryd.func48, Tryd.ntmps48
    go_wp2
    go_ret2
    exact ⟨⟨_, rfl, fun n h => by cases h⟩, rfl⟩
  · have he2 : (s.toList == []) = false := by rw [nonempty]; simp [h0]
    have he : s.toList.isEmpty = false := by rw [isEmpty_size]; simp [h0]
    have hne : (bs s).isEmpty = false := by
      cases hb : bs s with
      | nil => have := bs_length s; rw [hb] at this; exact absurd this.symm h0
      | cons a b => rfl
    by_cases h4 : s.size ≤ 4
    · have h4' : ¬ (4 : Int) < (s.size : Int) := by omega
      have hz : 0 < s.size := by omega
      have hz1 : (0 : Int) < (s.size : Int) := by omega
      have hhd : hd (bs s) = (s[0].toNat : Int) := by
        have := drop_at s 0 hz
        rw [List.drop_zero] at this
        rw [this]; rfl
      by_cases hc : (s[0].toNat : Int) = 48
      · have hf : lenP (bs s) = none := by unfold lenP; rw [hhd, hc]; simp
        have hc' : ((s[0].toNat : Int) == 48) = true := by simpa using hc
        rw [hf]
        clear hf hc hhd hne
        go_enter Tryd.func48, Tryd.ntmps48
        go_wp2
        go_ret2
        exact ⟨⟨_, rfl⟩, rfl⟩
      · have hc' : ((s[0].toNat : Int) == 48) = false := by simpa using hc
        have HL : Hid (lenP (bs s) = if ((bs s).all fun b => pDigit (nb b)) then (if valA 0 (bs s) ≤ 4096 then some (valA 0 (bs s)) else none) else none) := by
          show _ = _
          unfold lenP
          rw [hne, hhd, hc', bs_length]
          rw [if_neg (by simp; omega)]
        clear hc hhd hne
        go_enter Tryd.func48, Tryd.ntmps48
        go_wp2
        go_loopw [4, 5] (fun nv iv wr => wr = w ∧ ∃ j : Nat, j ≤ s.size ∧ iv = .int .i64 j ∧ nv = .int .i64 (valA 0 ((bs s).take j)) ∧ Hid (∀ b ∈ (bs s).take j, pDigit (nb b) = true)) (fun _ iv _ => s.size - (intOf iv).toNat)
        case atStart => exact ⟨rfl, 0, Nat.zero_le _, rfl, rfl, fun b h => by simp at h⟩
        case round =>
          obtain ⟨rfl, j, hj, rfl, rfl, hp⟩ := hrel
          have hvs := val_small (l := (bs s).take j) hp.out (by rw [List.length_take]; have := bs_length s; omega)
          by_cases hlt : j < s.size
          · have i1 : (0 : Int) ≤ (j : Int) := by omega
            have i2 : (j : Int) < (s.size : Int) := by omega
            have hjl : j < (bs s).length := by rw [bs_length]; exact hlt
            have htk : (bs s).take (j + 1) = (bs s).take j ++ [s[j]] := take_succ hjl
            have hv : valA 0 ((bs s).take (j + 1)) = valA 0 ((bs s).take j) * 10 + ((s[j].toNat : Int) - 48) := by rw [htk, val_snoc]; rfl
            have hmem : s[j] ∈ bs s := by have := List.getElem_mem hjl; exact this
            have hb255 : (s[j].toNat : Int) < 256 := by have := s[j].toNat_lt; omega
            have hge0 : (0 : Int) ≤ (s[j].toNat : Int) := by omega
            obtain ⟨V, hV⟩ : ∃ V, valA 0 ((bs s).take j) = V := ⟨_, rfl⟩
            rw [hV] at hvs hv ⊢
            have HV : Hid (valA 0 ((bs s).take (j + 1)) = V * 10 + ((s[j].toNat : Int) - 48)) := hv
            have HT : Hid ((bs s).take (j + 1) = (bs s).take j ++ [s[j]]) := htk
            clear hv htk hV
            by_cases hd1 : (s[j].toNat : Int) < 48
            · have hbad : Hid (lenP (bs s) = none) := by
                show _ = _
                rw [HL.out, if_neg]
                rw [List.all_eq_true]
                intro h
                have := h _ hmem
                unfold pDigit nb at this
                simp at this
                omega
              clear HL hp HV HT hmem
              go_wp2
              go_ret2
              exact ⟨⟨_, by rw [hbad.out]; rfl, fun n h => by rw [hbad.out] at h; cases h⟩, rfl⟩
            · by_cases hd2 : (s[j].toNat : Int) ≤ 57
              · have hd2' : ¬ (57 : Int) < (s[j].toNat : Int) := by omega
                have HP2 : Hid (∀ b ∈ (bs s).take (j + 1), pDigit (nb b) = true) := fun b hb => by
                  rw [HT.out] at hb
                  rcases List.mem_append.1 hb with hb | hb
                  · exact hp.out b hb
                  · simp at hb; subst hb; unfold pDigit nb; simp; omega
                have hw1 : IntKind.u8.wrap ((s[j].toNat : Int) - 48) = (s[j].toNat : Int) - 48 := by rw [IntKind.wrap_u8]; omega
                clear HL hp HT hmem
                go_wp2
                go_roundw
                case rel => exact ⟨by trivial, j + 1, by omega, by go_num, by rw [HV.out]; go_num, HP2.out⟩
                case measure => simp [intOf]; omega
              · have hd2' : (57 : Int) < (s[j].toNat : Int) := by omega
                have hbad : Hid (lenP (bs s) = none) := by
                  show _ = _
                  rw [HL.out, if_neg]
                  rw [List.all_eq_true]
                  intro h
                  have := h _ hmem
                  unfold pDigit nb at this
                  simp at this
                  omega
                clear HL hp HV HT hmem
                go_wp2
                go_ret2
                exact ⟨⟨_, by rw [hbad.out]; rfl, fun n h => by rw [hbad.out] at h; cases h⟩, rfl⟩
          · have hjs : j = s.size := by omega
            have htk : (bs s).take j = bs s := List.take_of_length_le (by rw [bs_length]; omega)
            rw [htk] at hp hvs ⊢
            have hall : ((bs s).all fun b => pDigit (nb b)) = true := List.all_eq_true.2 hp.out
            have HL2 : Hid (lenP (bs s) = if valA 0 (bs s) ≤ 4096 then some (valA 0 (bs s)) else none) := by show _ = _; rw [HL.out, if_pos hall]
            obtain ⟨V, hV⟩ : ∃ V, valA 0 (bs s) = V := ⟨_, rfl⟩
            rw [hV] at HL2 hvs ⊢
            clear HL hp htk hall hV
            subst hjs
            by_cases hm : V ≤ 4096
            · have HL3 : Hid (lenP (bs s) = some V) := by show _ = _; rw [HL2.out, if_pos hm]
              clear HL2
              go_wp2
              go_ret2
              exact ⟨⟨_, by rw [HL3.out]; rfl, fun n h => by rw [HL3.out] at h; cases h; rfl⟩, rfl⟩
            · have HL3 : Hid (lenP (bs s) = none) := by show _ = _; rw [HL2.out, if_neg hm]
              clear HL2
              go_wp2
              go_ret2
              exact ⟨⟨_, by rw [HL3.out]; rfl, fun n h => by rw [HL3.out] at h; cases h⟩, rfl⟩
    · have h4' : (4 : Int) < (s.size : Int) := by omega
      have hf : lenP (bs s) = none := by unfold lenP; rw [bs_length]; simp; intro _ h; omega
      rw [hf]
      clear hf hne
      go_enter Tryd.func48, Tryd.ntmps48
      go_wp2
      go_ret2
      exact ⟨⟨_, rfl, fun n h => by cases h⟩, rfl⟩

end Go.Proofs.YtmpfoajpafglgaaDoor
