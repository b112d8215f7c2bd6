import Derived.Test.YtgcmnkanjcfndaaGreatDoorTxt9
import Derived.Deep.DeepCutAuto
import Derived.Test.YtgcmnkanjcfndaaGreatDoorTxt1
import Derived.Lib.Split
import Derived.Lib.SplitLaws
import Derived.Lib.IndexMore
import Derived.Lib.ItoaMem
import Derived.Lib.AtoiAll
import Derived.WalkKit
import Derived.WalkSpells
namespace Go.Proofs.YtgcmnkanjcfndaaGreatDoor
open Go.RowKit
set_option linter.unusedVariables false
set_option linter.unusedSimpArgs false
theorem put3_0 {V : World} {C : Nat} {t : TypeId} {a0 a1 a2 : Value} (rc : V.rowIs C t 3 (g3 a0 a1 a2)) (v : Value) : (V.setCell ⟨C, 0, none⟩ v).rowIs C t 3 (g3 v a1 a2) ∧ PutR C V (V.setCell ⟨C, 0, none⟩ v) := by
 refine ⟨(rc.set 0 v).congr fun j hj => ?_, PutR.one C 0 V v⟩
 rcases (show j = 0 ∨ j = 1 ∨ j = 2 by omega) with rfl | rfl | rfl <;> rfl
theorem put3_1 {V : World} {C : Nat} {t : TypeId} {a0 a1 a2 : Value} (rc : V.rowIs C t 3 (g3 a0 a1 a2)) (v : Value) : (V.setCell ⟨C, 1, none⟩ v).rowIs C t 3 (g3 a0 v a2) ∧ PutR C V (V.setCell ⟨C, 1, none⟩ v) := by
 refine ⟨(rc.set 1 v).congr fun j hj => ?_, PutR.one C 1 V v⟩
 rcases (show j = 0 ∨ j = 1 ∨ j = 2 by omega) with rfl | rfl | rfl <;> rfl
theorem put3_2 {V : World} {C : Nat} {t : TypeId} {a0 a1 a2 : Value} (rc : V.rowIs C t 3 (g3 a0 a1 a2)) (v : Value) : (V.setCell ⟨C, 2, none⟩ v).rowIs C t 3 (g3 a0 a1 v) ∧ PutR C V (V.setCell ⟨C, 2, none⟩ v) := by
 refine ⟨(rc.set 2 v).congr fun j hj => ?_, PutR.one C 2 V v⟩
 rcases (show j = 0 ∨ j = 1 ∨ j = 2 by omega) with rfl | rfl | rfl <;> rfl
def g11 (a0 a1 a2 a3 a4 a5 a6 a7 a8 a9 a10 : Value) (k : Nat) : Value := if k = 0 then a0 else if k = 1 then a1 else if k = 2 then a2 else if k = 3 then a3 else if k = 4 then a4 else if k = 5 then a5 else if k = 6 then a6 else if k = 7 then a7 else if k = 8 then a8 else if k = 9 then a9 else a10
theorem q11_new (w : World) (t : TypeId) (a0 a1 a2 a3 a4 a5 a6 a7 a8 a9 a10 : Value) : (w.alloc (.cells #[a0, a1, a2, a3, a4, a5, a6, a7, a8, a9, a10] t)).rowIs w.heap.size t 11 (g11 a0 a1 a2 a3 a4 a5 a6 a7 a8 a9 a10) :=
 World.rowIs_alloc w #[a0, a1, a2, a3, a4, a5, a6, a7, a8, a9, a10] t _ (fun i hi => by rcases (show i = 0 ∨ i = 1 ∨ i = 2 ∨ i = 3 ∨ i = 4 ∨ i = 5 ∨ i = 6 ∨ i = 7 ∨ i = 8 ∨ i = 9 ∨ i = 10 by have : i < 11 := hi; omega) with rfl | rfl | rfl | rfl | rfl | rfl | rfl | rfl | rfl | rfl | rfl <;> rfl)
theorem put11_0 {V : World} {C : Nat} {t : TypeId} {a0 a1 a2 a3 a4 a5 a6 a7 a8 a9 a10 : Value} (rc : V.rowIs C t 11 (g11 a0 a1 a2 a3 a4 a5 a6 a7 a8 a9 a10)) (v : Value) : (V.setCell ⟨C, 0, none⟩ v).rowIs C t 11 (g11 v a1 a2 a3 a4 a5 a6 a7 a8 a9 a10) ∧ PutR C V (V.setCell ⟨C, 0, none⟩ v) := by
 refine ⟨(rc.set 0 v).congr fun j hj => ?_, PutR.one C 0 V v⟩
 rcases (show j = 0 ∨ j = 1 ∨ j = 2 ∨ j = 3 ∨ j = 4 ∨ j = 5 ∨ j = 6 ∨ j = 7 ∨ j = 8 ∨ j = 9 ∨ j = 10 by omega) with rfl | rfl | rfl | rfl | rfl | rfl | rfl | rfl | rfl | rfl | rfl <;> rfl
theorem put11_1 {V : World} {C : Nat} {t : TypeId} {a0 a1 a2 a3 a4 a5 a6 a7 a8 a9 a10 : Value} (rc : V.rowIs C t 11 (g11 a0 a1 a2 a3 a4 a5 a6 a7 a8 a9 a10)) (v : Value) : (V.setCell ⟨C, 1, none⟩ v).rowIs C t 11 (g11 a0 v a2 a3 a4 a5 a6 a7 a8 a9 a10) ∧ PutR C V (V.setCell ⟨C, 1, none⟩ v) := by
 refine ⟨(rc.set 1 v).congr fun j hj => ?_, PutR.one C 1 V v⟩
 rcases (show j = 0 ∨ j = 1 ∨ j = 2 ∨ j = 3 ∨ j = 4 ∨ j = 5 ∨ j = 6 ∨ j = 7 ∨ j = 8 ∨ j = 9 ∨ j = 10 by omega) with rfl | rfl | rfl | rfl | rfl | rfl | rfl | rfl | rfl | rfl | rfl <;> rfl
theorem put11_2 {V : World} {C : Nat} {t : TypeId} {a0 a1 a2 a3 a4 a5 a6 a7 a8 a9 a10 : Value} (rc : V.rowIs C t 11 (g11 a0 a1 a2 a3 a4 a5 a6 a7 a8 a9 a10)) (v : Value) : (V.setCell ⟨C, 2, none⟩ v).rowIs C t 11 (g11 a0 a1 v a3 a4 a5 a6 a7 a8 a9 a10) ∧ PutR C V (V.setCell ⟨C, 2, none⟩ v) := by
 refine ⟨(rc.set 2 v).congr fun j hj => ?_, PutR.one C 2 V v⟩
 rcases (show j = 0 ∨ j = 1 ∨ j = 2 ∨ j = 3 ∨ j = 4 ∨ j = 5 ∨ j = 6 ∨ j = 7 ∨ j = 8 ∨ j = 9 ∨ j = 10 by omega) with rfl | rfl | rfl | rfl | rfl | rfl | rfl | rfl | rfl | rfl | rfl <;> rfl
theorem put11_3 {V : World} {C : Nat} {t : TypeId} {a0 a1 a2 a3 a4 a5 a6 a7 a8 a9 a10 : Value} (rc : V.rowIs C t 11 (g11 a0 a1 a2 a3 a4 a5 a6 a7 a8 a9 a10)) (v : Value) : (V.setCell ⟨C, 3, none⟩ v).rowIs C t 11 (g11 a0 a1 a2 v a4 a5 a6 a7 a8 a9 a10) ∧ PutR C V (V.setCell ⟨C, 3, none⟩ v) := by
 refine ⟨(rc.set 3 v).congr fun j hj => ?_, PutR.one C 3 V v⟩
 rcases (show j = 0 ∨ j = 1 ∨ j = 2 ∨ j = 3 ∨ j = 4 ∨ j = 5 ∨ j = 6 ∨ j = 7 ∨ j = 8 ∨ j = 9 ∨ j = 10 by omega) with rfl | rfl | rfl | rfl | rfl | rfl | rfl | rfl | rfl | rfl | rfl <;> rfl
theorem put11_4 {V : World} {C : Nat} {t : TypeId} {a0 a1 a2 a3 a4 a5 a6 a7 a8 a9 a10 : Value} (rc : V.rowIs C t 11 (g11 a0 a1 a2 a3 a4 a5 a6 a7 a8 a9 a10)) (v : Value) : (V.setCell ⟨C, 4, none⟩ v).rowIs C t 11 (g11 a0 a1 a2 a3 v a5 a6 a7 a8 a9 a10) ∧ PutR C V (V.setCell ⟨C, 4, none⟩ v) := by
 refine ⟨(rc.set 4 v).congr fun j hj => ?_, PutR.one C 4 V v⟩
 rcases (show j = 0 ∨ j = 1 ∨ j = 2 ∨ j = 3 ∨ j = 4 ∨ j = 5 ∨ j = 6 ∨ j = 7 ∨ j = 8 ∨ j = 9 ∨ j = 10 by omega) with rfl | rfl | rfl | rfl | rfl | rfl | rfl | rfl | rfl | rfl | rfl <;> rfl
theorem put11_5 {V : World} {C : Nat} {t : TypeId} {a0 a1 a2 a3 a4 a5 a6 a7 a8 a9 a10 : Value} (rc : V.rowIs C t 11 (g11 a0 a1 a2 a3 a4 a5 a6 a7 a8 a9 a10)) (v : Value) : (V.setCell ⟨C, 5, none⟩ v).rowIs C t 11 (g11 a0 a1 a2 a3 a4 v a6 a7 a8 a9 a10) ∧ PutR C V (V.setCell ⟨C, 5, none⟩ v) := by
 refine ⟨(rc.set 5 v).congr fun j hj => ?_, PutR.one C 5 V v⟩
 rcases (show j = 0 ∨ j = 1 ∨ j = 2 ∨ j = 3 ∨ j = 4 ∨ j = 5 ∨ j = 6 ∨ j = 7 ∨ j = 8 ∨ j = 9 ∨ j = 10 by omega) with rfl | rfl | rfl | rfl | rfl | rfl | rfl | rfl | rfl | rfl | rfl <;> rfl
theorem c11 {w : World} {b : Nat} {t : TypeId} {a0 a1 a2 a3 a4 a5 a6 a7 a8 a9 a10 : Value} (h : w.rowIs b t 11 (g11 a0 a1 a2 a3 a4 a5 a6 a7 a8 a9 a10)) : w.cell? ⟨b, 0, none⟩ = some a0 ∧ w.cell? ⟨b, 1, none⟩ = some a1 ∧ w.cell? ⟨b, 2, none⟩ = some a2 ∧ w.cell? ⟨b, 3, none⟩ = some a3 ∧ w.cell? ⟨b, 4, none⟩ = some a4 ∧ w.cell? ⟨b, 5, none⟩ = some a5 ∧ w.cell? ⟨b, 6, none⟩ = some a6 ∧ w.cell? ⟨b, 7, none⟩ = some a7 ∧ w.cell? ⟨b, 8, none⟩ = some a8 ∧ w.cell? ⟨b, 9, none⟩ = some a9 ∧ w.cell? ⟨b, 10, none⟩ = some a10 := ⟨h.cell (i := 0) (by decide), h.cell (i := 1) (by decide), h.cell (i := 2) (by decide), h.cell (i := 3) (by decide), h.cell (i := 4) (by decide), h.cell (i := 5) (by decide), h.cell (i := 6) (by decide), h.cell (i := 7) (by decide), h.cell (i := 8) (by decide), h.cell (i := 9) (by decide), h.cell (i := 10) (by decide)⟩
end Go.Proofs.YtgcmnkanjcfndaaGreatDoor
namespace Go.Proofs.YtgcmnkanjcfndaaGreatDoor
open Go.Lib (atoiAll itoa decDigits parseUint10 parseMag NumEnd)
set_option linter.unusedVariables false
set_option linter.unusedSimpArgs false
theorem words_cat : ∀ (x cur r : Bs), (∀ b ∈ x, nb b ≠ 32) → wordsA cur (x ++ 32 :: r) = (cur ++ x) :: wordsA [] r
 | [], cur, r, _ => by
  rw [List.nil_append, wordsA, if_pos (by decide), List.append_nil]
 | b :: x, cur, r, h => by
  rw [List.cons_append, wordsA, if_neg (by simpa using h b (by simp)), words_cat x (cur ++ [b]) r fun c hc => h c (by simp [hc])]
  simp
theorem words_end : ∀ (x cur : Bs), (∀ b ∈ x, nb b ≠ 32) → wordsA cur x = [cur ++ x]
 | [], cur, _ => by rw [wordsA, List.append_nil]
 | b :: x, cur, h => by
  rw [wordsA, if_neg (by simpa using h b (by simp)), words_end x (cur ++ [b]) fun c hc => h c (by simp [hc])]
  simp
theorem words_ne : ∀ (x cur : Bs), wordsA cur x ≠ []
 | [], cur => by simp [wordsA]
 | b :: x, cur => by
  unfold wordsA
  split
  ·simp
  ·exact words_ne x _
theorem index_one (c : UInt8) : ∀ s : Bs, (Go.Lib.index s [c] = -1 ∧ ∀ b ∈ s, b ≠ c) ∨ ∃ x y, s = x ++ c :: y ∧ (∀ b ∈ x, b ≠ c) ∧ Go.Lib.index s [c] = x.length
 | [] => .inl ⟨by simp [Go.Lib.index], by simp⟩
 | b :: s => by
  by_cases h : b = c
  ·subst h
   exact .inr ⟨[], s, rfl, by simp, by simp [Go.Lib.index, List.isPrefixOf]⟩
  ·have hp : ([c] : Bs).isPrefixOf (b :: s) = false := by simp [List.isPrefixOf, Ne.symm h]
   have hix : Go.Lib.index (b :: s) [c] = if Go.Lib.index s [c] == -1 then -1 else Go.Lib.index s [c] + 1 := by rw [Go.Lib.index, hp]; simp
   rcases index_one c s with ⟨e, hn⟩ | ⟨x, y, rfl, hn, e⟩
   ·refine .inl ⟨by rw [hix, e]; rfl, ?_⟩
    intro a ha
    rcases List.mem_cons.1 ha with rfl | ha
    ·exact h
    ·exact hn a ha
   ·refine .inr ⟨b :: x, y, rfl, ?_, ?_⟩
    ·intro a ha
     rcases List.mem_cons.1 ha with rfl | ha
     ·exact h
     ·exact hn a ha
    ·rw [hix, e, if_neg (by simp)]
     simp
theorem cut_one (c : UInt8) (s : Bs) : (Go.Lib.cut s [c] = (s, [], false) ∧ ∀ b ∈ s, b ≠ c) ∨ ∃ x y, s = x ++ c :: y ∧ (∀ b ∈ x, b ≠ c) ∧ Go.Lib.cut s [c] = (x, y, true) := by
 rcases index_one c s with ⟨e, hn⟩ | ⟨x, y, hs, hn, e⟩
 ·exact .inl ⟨by unfold Go.Lib.cut; rw [e, if_neg (by decide)], hn⟩
 ·refine .inr ⟨x, y, hs, hn, ?_⟩
  unfold Go.Lib.cut
  rw [e, if_pos (by omega), hs]
  simp
theorem valA_append : ∀ (a r : Bs) (n : Int), valA n (a ++ r) = valA (valA n a) r
 | [], r, n => rfl
 | b :: a, r, n => by rw [List.cons_append, valA, valA_append a r]; rfl
def dig (b : UInt8) : Prop := 48 ≤ b.toNat ∧ b.toNat ≤ 57
theorem valA_nn : ∀ (a : Bs) (n : Int), 0 ≤ n → (∀ b ∈ a, dig b) → 0 ≤ valA n a
 | [], n, h, _ => h
 | b :: a, n, h, hd => by
  have := (hd b (by simp)).1
  rw [valA]
  exact valA_nn a _ (by unfold nb; omega) fun c hc => hd c (by simp [hc])
theorem valA_pos : ∀ (a : Bs) (n : Int), 1 ≤ n → (∀ b ∈ a, dig b) → 1 ≤ valA n a
 | [], n, h, _ => h
 | b :: a, n, h, hd => by
  have := (hd b (by simp)).1
  rw [valA]
  exact valA_pos a _ (by unfold nb; omega) fun c hc => hd c (by simp [hc])
theorem val_pos {l : Bs} (h0 : l ≠ []) (h1 : hd l ≠ 48) (hd' : ∀ b ∈ l, dig b) : 1 ≤ valA 0 l := by
 cases l with
 | nil => exact absurd rfl h0
 | cons b a =>
  rw [valA]
  have := hd' b (by simp)
  simp only [hd, nb, dig] at h1 this
  exact valA_pos a _ (by unfold nb; omega) fun c hc => hd' c (by simp [hc])
theorem dec_val : ∀ (n : Nat) (l : Bs), l.length ≤ n → l ≠ [] → hd l ≠ 48 → (∀ b ∈ l, dig b) → decDigits (valA 0 l).toNat = l
 | 0, l, hn, h0, _, _ => absurd (List.eq_nil_of_length_eq_zero (by omega)) h0
 | n + 1, l, hn, h0, h1, hdg => by
  rcases List.eq_nil_or_concat l with rfl | ⟨a, b, rfl⟩
  ·exact absurd rfl h0
  ·rw [List.concat_eq_append] at hn h1 hdg ⊢
   have hb := hdg b (by simp)
   have ha : ∀ c ∈ a, dig c := fun c hc => hdg c (by simp [hc])
   have e : valA 0 (a ++ [b]) = valA 0 a * 10 + (nb b - 48) := by rw [valA_append]; rfl
   have hnb : nb b = (b.toNat : Int) := rfl
   have ub : UInt8.ofNat (48 + (b.toNat - 48)) = b := by
    apply UInt8.toNat_inj.1
    rw [UInt8.toNat_ofNat']
    have := b.toNat_lt
    unfold dig at hb
    omega
   unfold dig at hb
   cases a with
   | nil =>
    have e2 : (valA 0 ([] ++ [b])).toNat = b.toNat - 48 := by rw [e]; simp only [valA]; omega
    rw [e2, decDigits, dif_pos (by omega), ub]
    rfl
   | cons c a =>
    have hp := val_pos (l := c :: a) (by simp) (by simpa [hd] using h1) ha
    have e2 : (valA 0 (c :: a ++ [b])).toNat = (valA 0 (c :: a)).toNat * 10 + (b.toNat - 48) := by rw [e]; omega
    rw [e2, decDigits, dif_neg (by omega), show ((valA 0 (c :: a)).toNat * 10 + (b.toNat - 48)) / 10 = (valA 0 (c :: a)).toNat by omega, show ((valA 0 (c :: a)).toNat * 10 + (b.toNat - 48)) % 10 = b.toNat - 48 by omega, ub, dec_val n (c :: a) (by simp at hn ⊢; omega) (by simp) (by simpa [hd] using h1) ha]
theorem pu10 : ∀ (l : Bs) (acc e : Nat), acc < 10 ^ e → e + l.length ≤ 17 → (∀ b ∈ l, dig b) → parseUint10 acc l = .ok (valA (acc : Int) l).toNat
 | [], acc, e, ha, he, _ => by simp [parseUint10, valA]
 | b :: l, acc, e, ha, he, hdg => by
  have hb := hdg b (by simp)
  unfold dig at hb
  have hp : 10 ^ e ≤ 10 ^ 17 := Nat.pow_le_pow_right (by decide) (by simp at he; omega)
  have h17 : (10 : Nat) ^ 17 = 100000000000000000 := by decide
  have hnb : nb b = (b.toNat : Int) := rfl
  rw [parseUint10, if_pos hb, if_neg (by omega), if_neg (by omega), valA, pu10 l (acc * 10 + (b.toNat - 48)) (e + 1) (by rw [Nat.pow_succ]; omega) (by simp at he ⊢; omega) fun c hc => hdg c (by simp [hc])]
  congr 3
  omega
end Go.Proofs.YtgcmnkanjcfndaaGreatDoor
namespace Go.Proofs.YtgcmnkanjcfndaaGreatDoor
open Go.Lib (decDigits)
set_option linter.unusedVariables false
set_option linter.unusedSimpArgs false
def numT (n : Int) : Bs := decDigits n.toNat
theorem dec_ten {u : Nat} (h : ¬ u < 10) : decDigits u = decDigits (u / 10) ++ [UInt8.ofNat (48 + u % 10)] := by rw [decDigits, dif_neg h]
theorem dec_one {u : Nat} (h : u < 10) : decDigits u = [UInt8.ofNat (48 + u)] := by rw [decDigits, dif_pos h]
theorem dig_of {k : Nat} (h : k < 10) : (UInt8.ofNat (48 + k)).toNat = 48 + k := by rw [UInt8.toNat_ofNat']; omega
theorem dec_facts : ∀ u : Nat, decDigits u ≠ [] ∧ (∀ b ∈ decDigits u, dig b) ∧ (0 < u → hd (decDigits u) ≠ 48) ∧ valA 0 (decDigits u) = (u : Int) := by
 intro u
 induction u using Nat.strongRecOn with
 | _ u ih =>
  by_cases h : u < 10
  ·rw [dec_one h]
   refine ⟨by simp, fun b hb => ?_, fun h0 => ?_, ?_⟩
   ·rw [List.mem_singleton.1 hb]
    unfold dig
    rw [dig_of h]
    omega
   ·simp only [hd, nb, dig_of h]; omega
   ·simp only [valA, nb, dig_of h]; omega
  ·obtain ⟨h1, h2, h3, h4⟩ := ih (u / 10) (by omega)
   rw [dec_ten h]
   refine ⟨by simp, fun b hb => ?_, fun _ => ?_, ?_⟩
   ·rcases List.mem_append.1 hb with hb | hb
    ·exact h2 b hb
    ·rw [List.mem_singleton.1 hb]
     unfold dig
     rw [dig_of (by omega)]
     omega
   ·have h5 := h3 (by omega)
    cases hq : decDigits (u / 10) with
    | nil => exact absurd hq h1
    | cons b t => rw [hq] at h5; exact h5
   ·rw [valA_append, h4]
    simp only [valA, nb, dig_of (show u % 10 < 10 by omega)]
    omega
theorem dec_length : ∀ (k u : Nat), u < 10 ^ (k + 1) → (decDigits u).length ≤ k + 1
 | 0, u, h => by rw [dec_one (by simpa using h)]; simp
 | k + 1, u, h => by
  by_cases h1 : u < 10
  ·rw [dec_one h1]; simp
  ·rw [dec_ten h1, List.length_append, List.length_singleton]
   have := dec_length k (u / 10) (by rw [Nat.pow_succ] at h ⊢; omega)
   omega
def numW (s : Bs) : Option Int :=
 if s.isEmpty || decide (10 < s.length) || (decide (1 < s.length) && hd s == 48) then none
 else if (s.all fun b => pDigit (nb b)) then (if valA 0 s ≤ 2147483647 then some (valA 0 s) else none) else none
theorem pdig {b : UInt8} : pDigit (nb b) = true ↔ dig b := by
 unfold pDigit nb dig
 simp only [Bool.and_eq_true, decide_eq_true_eq]
 omega
theorem num_out {s : Bs} {n : Int} (h : numW s = some n) : (0 ≤ n ∧ n ≤ 2147483647) ∧ s = numT n := by
 unfold numW at h
 split at h
 ·cases h
 ·rename_i h1
  simp only [Bool.or_eq_true, Bool.and_eq_true, decide_eq_true_eq, beq_iff_eq, List.isEmpty_iff, not_or, not_and] at h1
  obtain ⟨⟨h0, hl⟩, hz⟩ := h1
  split at h
  ·rename_i h2
   have hdg : ∀ b ∈ s, dig b := fun b hb => pdig.1 (List.all_eq_true.1 h2 b hb)
   split at h
   ·rename_i h3
    cases h
    have hnn := valA_nn s 0 (by decide) hdg
    refine ⟨⟨hnn, h3⟩, ?_⟩
    unfold numT
    by_cases h4 : hd s = 48
    ·have hs1 : s.length = 1 := by
      have h5 : 0 < s.length := List.length_pos_iff.2 h0
      rcases Nat.lt_or_ge 1 s.length with q | q
      ·exact absurd h4 (hz q)
      ·omega
     match s, hs1 with
     | [b], _ =>
      have hb : b = 48 := by
       have : nb b = 48 := h4
       unfold nb at this
       exact UInt8.toNat_inj.1 (by show b.toNat = 48; omega)
      subst hb
      show _ = decDigits (0 : Nat)
      rw [dec_one (by decide)]
      rfl
    ·exact (dec_val s.length s (Nat.le_refl _) h0 h4 hdg).symm
   ·cases h
  ·cases h
theorem num_in {n : Int} (h0 : 0 ≤ n) (h1 : n ≤ 2147483647) : numW (numT n) = some n := by
 obtain ⟨d1, d2, d3, d4⟩ := dec_facts n.toNat
 have hv : valA 0 (numT n) = n := by unfold numT; rw [d4]; omega
 have hl : (numT n).length ≤ 10 := dec_length 9 n.toNat (by omega)
 unfold numW
 rw [if_neg ?_, if_pos ?_, hv, if_pos h1]
 ·exact List.all_eq_true.2 fun b hb => pdig.2 (d2 b hb)
 ·simp only [Bool.or_eq_true, Bool.and_eq_true, decide_eq_true_eq, beq_iff_eq, List.isEmpty_iff, not_or, not_and]
  refine ⟨⟨d1, by omega⟩, fun h2 => ?_⟩
  rcases Nat.eq_zero_or_pos n.toNat with q | q
  ·unfold numT at h2
   rw [q, dec_one (by decide)] at h2
   exact absurd h2 (by decide)
  ·exact d3 q
theorem num_iff {s : Bs} {n : Int} : numW s = some n ↔ (0 ≤ n ∧ n ≤ 2147483647) ∧ s = numT n :=
 ⟨num_out, fun ⟨⟨h0, h1⟩, e⟩ => by rw [e]; exact num_in h0 h1⟩
def WordB (s : Bs) : Prop := ∀ b ∈ s, nb b ≠ 32 ∧ nb b ≠ 10
theorem num_word (n : Int) : WordB (numT n) := fun b hb => by
 have := (dec_facts n.toNat).2.1 b hb
 unfold dig at this
 unfold nb
 omega
def joinW : List Bs → Bs
 | [] => []
 | [a] => a
 | a :: b :: r => a ++ 32 :: joinW (b :: r)
theorem words_join : ∀ (ws : List Bs), ws ≠ [] → (∀ w ∈ ws, WordB w) → wordsA [] (joinW ws) = ws
 | [], h, _ => absurd rfl h
 | [a], _, h => by
  rw [joinW, words_end a [] (fun b hb => (h a (by simp) b hb).1)]
  rfl
 | a :: b :: r, _, h => by
  rw [joinW, words_cat a [] _ (fun c hc => (h a (by simp) c hc).1), words_join (b :: r) (by simp) (fun w hw => h w (List.mem_cons_of_mem _ hw))]
  rfl
theorem join_cons {a : Bs} {ws : List Bs} (h : ws ≠ []) : joinW (a :: ws) = a ++ 32 :: joinW ws := by
 cases ws with
 | nil => exact absurd rfl h
 | cons b r => rfl
theorem join_words : ∀ (s cur : Bs), joinW (wordsA cur s) = cur ++ s
 | [], cur => by simp [wordsA, joinW]
 | b :: t, cur => by
  unfold wordsA
  by_cases h : nb b = 32
  ·rw [if_pos (by simp [h]), join_cons (words_ne t []), join_words t []]
   have hb : b = 32 := UInt8.toNat_inj.1 (by unfold nb at h; show b.toNat = 32; omega)
   rw [hb]
   rfl
  ·rw [if_neg (by simp [h]), join_words t (cur ++ [b])]
   simp
theorem words_no32 : ∀ (s cur : Bs), (∀ b ∈ cur, nb b ≠ 32) → ∀ w ∈ wordsA cur s, ∀ b ∈ w, nb b ≠ 32
 | [], cur, h, w, hw, b, hb => by
  simp only [wordsA, List.mem_singleton] at hw
  subst hw
  exact h b hb
 | c :: t, cur, h, w, hw, b, hb => by
  unfold wordsA at hw
  by_cases hc : nb c = 32
  ·rw [if_pos (by simp [hc])] at hw
   rcases List.mem_cons.1 hw with e | hw
   ·subst e; exact h b hb
   ·exact words_no32 t [] (fun _ h => by cases h) w hw b hb
  ·rw [if_neg (by simp [hc])] at hw
   refine words_no32 t (cur ++ [c]) (fun x hx => ?_) w hw b hb
   rcases List.mem_append.1 hx with hx | hx
   ·exact h x hx
   ·rw [List.mem_singleton.1 hx]; exact hc
def cutN : Bs → Bs → List Bs × Bs
 | cur, [] => ([], cur)
 | cur, b :: t => if nb b == 10 then ((cur :: (cutN [] t).1), (cutN [] t).2) else cutN (cur ++ [b]) t
theorem cut_cat : ∀ (x cur r : Bs), (∀ b ∈ x, nb b ≠ 10) → cutN cur (x ++ 10 :: r) = ((cur ++ x) :: (cutN [] r).1, (cutN [] r).2)
 | [], cur, r, _ => by
  rw [List.nil_append, cutN, if_pos (by rfl), List.append_nil]
 | b :: x, cur, r, h => by
  rw [List.cons_append, cutN, if_neg (by simpa using h b (by simp)), cut_cat x (cur ++ [b]) r (fun c hc => h c (by simp [hc]))]
  simp
theorem cut_text : ∀ (ls : List Bs), (∀ l ∈ ls, ∀ b ∈ l, nb b ≠ 10) → cutN [] (ls.flatMap fun x => x ++ [10]) = (ls, [])
 | [], _ => rfl
 | l :: ls, h => by
  rw [List.flatMap_cons, List.append_assoc, List.singleton_append, cut_cat l [] _ (h l (by simp)), cut_text ls (fun x hx => h x (List.mem_cons_of_mem _ hx))]
  rfl
end Go.Proofs.YtgcmnkanjcfndaaGreatDoor
namespace Go.Proofs.YtgcmnkanjcfndaaGreatDoor
open Go.RowKit
set_option linter.unusedVariables false
abbrev hexD : ByteArray := { data := #[48, 49, 50, 51, 52, 53, 54, 55, 56, 57, 97, 98, 99, 100, 101, 102] }
def dgN (n : Nat) : UInt8 := if n < 10 then UInt8.ofNat (48 + n) else UInt8.ofNat (87 + n)
theorem hexD_get : ∀ (n : Nat) (h : n < ByteArray.size { data := #[48, 49, 50, 51, 52, 53, 54, 55, 56, 57, 97, 98, 99, 100, 101, 102] }),
  ({ data := #[48, 49, 50, 51, 52, 53, 54, 55, 56, 57, 97, 98, 99, 100, 101, 102] } : ByteArray)[n]'h = dgN n := by
 intro n h
 have h' : n < 16 := h
 revert h
 revert n
 decide
theorem dgN_toNat (n : Nat) (h : n < 16) : ((dgN n).toNat : Int) = if n < 10 then 48 + (n : Int) else 87 + (n : Int) := by
 revert n; decide
def low : Nat → Int → List UInt8
 | 0, _ => []
 | k + 1, a => dgN (a / 16 ^ k % 16).toNat :: low k a
theorem low_len (k : Nat) (a : Int) : (low k a).length = k := by
 induction k with
 | zero => rfl
 | succ k ih => simp [low, ih]
def hexB (a : Int) : ByteArray := ⟨#[dgN (a / 268435456 % 16).toNat, dgN (a / 16777216 % 16).toNat, dgN (a / 1048576 % 16).toNat, dgN (a / 65536 % 16).toNat,
 dgN (a / 4096 % 16).toNat, dgN (a / 256 % 16).toNat, dgN (a / 16 % 16).toNat, dgN (a % 16).toNat]⟩
theorem low_8 (a : Int) : (⟨(low 8 a).toArray⟩ : ByteArray) = hexB a := by simp [low, hexB]
theorem hexB_size (a : Int) : (hexB a).size = 8 := rfl
theorem extract_one (n : Nat) (h : n < 16) : hexD.extract n (n + 1) = ⟨#[dgN n]⟩ := by
 revert n; decide
theorem add_low (k : Nat) (a : Int) (x : Int) (hx : a / 16 ^ k = x) : (⟨#[dgN (x % 16).toNat]⟩ : ByteArray) ++ ⟨(low k a).toArray⟩ = ⟨(low (k + 1) a).toArray⟩ := by
 have := ByteArray.mk_append_mk [dgN (x % 16).toNat] (low k a)
 rw [this]; simp [low, hx]
theorem div_pow_succ (a : Int) (k : Nat) (x : Int) (hx : a / 16 ^ k = x) : a / 16 ^ (k + 1) = x / 16 := by
 rw [Int.pow_succ, ← hx, Int.ediv_ediv_of_nonneg (Int.pow_nonneg (by decide))]
def isHex (c : Int) : Bool := decide ((48 ≤ c ∧ c ≤ 57) ∨ (97 ≤ c ∧ c ≤ 102))
def digI (c : Int) : Int := if c ≤ 57 then c - 48 else c - 87
theorem isHex_iff (c : Int) : isHex c = true ↔ ((48 ≤ c ∧ c ≤ 57) ∨ (97 ≤ c ∧ c ≤ 102)) := by unfold isHex; simp
theorem isHex_not (c : Int) : isHex c = false ↔ ¬ ((48 ≤ c ∧ c ≤ 57) ∨ (97 ≤ c ∧ c ≤ 102)) := by unfold isHex; simp
theorem digI_lo (c : Int) (h : isHex c = true) : 0 ≤ digI c ∧ digI c < 16 := by
 rw [isHex_iff] at h; unfold digI; split <;> omega
def valL (l : List UInt8) : Int := l.foldl (fun n c => n * 16 + digI (c.toNat : Int)) 0
def goodL (l : List UInt8) : Bool := l.length == 8 && l.all fun c => isHex (c.toNat : Int)
theorem valL_snoc (l : List UInt8) (c : UInt8) : valL (l ++ [c]) = valL l * 16 + digI (c.toNat : Int) := by simp [valL]
theorem valL_lo : ∀ (n : Nat) (l : List UInt8), l.length = n → (∀ c ∈ l, isHex (c.toNat : Int) = true) → 0 ≤ valL l ∧ valL l < 16 ^ n := by
 intro n
 induction n with
 | zero => intro l h _; have : l = [] := List.length_eq_zero_iff.1 h; subst this; simp [valL]
 | succ n ih =>
  intro l h hx
  have hne : l ≠ [] := by intro e; subst e; simp at h
  obtain ⟨l', c, rfl⟩ : ∃ l' c, l = l' ++ [c] := ⟨l.dropLast, l.getLast hne, (List.dropLast_concat_getLast hne).symm⟩
  have := ih l' (by simpa using h) (fun d hd => hx d (by simp [hd]))
  have hc := digI_lo _ (hx c (by simp))
  rw [valL_snoc, Int.pow_succ]
  omega
theorem take_snoc (s : ByteArray) (k : Nat) (h : k < s.size) : s.data.toList.take (k + 1) = s.data.toList.take k ++ [s[k]] := by
 rw [List.take_succ_eq_append_getElem (by simpa using h)]; rfl
theorem mem_of_at (s : ByteArray) (k : Nat) (h : k < s.size) : s[k] ∈ s.data.toList := by
 have : s.data.toList[k]'(by simpa using h) ∈ s.data.toList := List.getElem_mem _
 exact this
def rdv (l : List UInt8) : Int := if goodL l then valL l else 0
theorem rdv_yes (l : List UInt8) (h : goodL l = true) : rdv l = valL l := by unfold rdv; simp [h]
theorem rdv_no (l : List UInt8) (h : goodL l = false) : rdv l = 0 := by unfold rdv; simp [h]
theorem goodL_of (l : List UInt8) (h : l.length = 8) (ha : ∀ c ∈ l, isHex (c.toNat : Int) = true) : goodL l = true := by
 unfold goodL; simp [h]; exact ha
theorem goodL_len (l : List UInt8) (h : ¬ l.length = 8) : goodL l = false := by unfold goodL; simp [h]
theorem goodL_bad (l : List UInt8) (c : UInt8) (hc : c ∈ l) (h : isHex (c.toNat : Int) = false) : goodL l = false := by
 unfold goodL
 rw [Bool.and_eq_false_iff]; right
 rw [List.all_eq_false]; exact ⟨c, hc, by simp [h]⟩
theorem goodL_all (l : List UInt8) (h : goodL l = true) : l.length = 8 ∧ ∀ c ∈ l, isHex (c.toNat : Int) = true := by
 unfold goodL at h; simpa using h
theorem rdv_lo (l : List UInt8) : 0 ≤ rdv l ∧ rdv l < 4294967296 := by
 cases h : goodL l
 ·rw [rdv_no l h]; omega
 ·obtain ⟨h8, ha⟩ := goodL_all l h
  have := valL_lo 8 l h8 ha
  rw [rdv_yes l h]; simpa using this
end Go.Proofs.YtgcmnkanjcfndaaGreatDoor
namespace Go.Proofs.YtgcmnkanjcfndaaGreatDoor
open Go.RowKit
set_option linter.unusedVariables false
theorem digI_dgN (n : Nat) (h : n < 16) : digI ((dgN n).toNat : Int) = n := by
 rw [dgN_toNat n h]; unfold digI; split <;> split <;> omega
theorem isHex_dgN (n : Nat) (h : n < 16) : isHex ((dgN n).toNat : Int) = true := by
 rw [dgN_toNat n h, isHex_iff]; split <;> omega
theorem dgN_digI (c : UInt8) (h : isHex (c.toNat : Int) = true) : dgN (digI (c.toNat : Int)).toNat = c := by
 have hd := digI_lo _ h
 obtain ⟨n, hn⟩ : ∃ n : Nat, (n : Int) = digI (c.toNat : Int) := ⟨(digI (c.toNat : Int)).toNat, by omega⟩
 have hn' : (digI (c.toNat : Int)).toNat = n := by omega
 rw [hn']
 have e := dgN_toNat n (by omega)
 rw [isHex_iff] at h
 apply UInt8.toNat_inj.1
 unfold digI at hn
 split at e <;> split at hn <;> omega
theorem good_hexB (a : Int) : goodL (hexB a).data.toList = true := by
 apply goodL_of
 ·rfl
 ·intro c hc
  have hc' : c ∈ [dgN (a / 268435456 % 16).toNat, dgN (a / 16777216 % 16).toNat, dgN (a / 1048576 % 16).toNat, dgN (a / 65536 % 16).toNat, dgN (a / 4096 % 16).toNat, dgN (a / 256 % 16).toNat, dgN (a / 16 % 16).toNat, dgN (a % 16).toNat] := hc
  simp only [List.mem_cons, List.not_mem_nil, or_false] at hc'
  rcases hc' with rfl | rfl | rfl | rfl | rfl | rfl | rfl | rfl
  all_goals exact isHex_dgN _ (by omega)
theorem val8 (x0 x1 x2 x3 x4 x5 x6 x7 : Nat) (h0 : x0 < 16) (h1 : x1 < 16) (h2 : x2 < 16) (h3 : x3 < 16) (h4 : x4 < 16) (h5 : x5 < 16) (h6 : x6 < 16) (h7 : x7 < 16) :
  valL [dgN x7, dgN x6, dgN x5, dgN x4, dgN x3, dgN x2, dgN x1, dgN x0] = x7 * 268435456 + x6 * 16777216 + x5 * 1048576 + x4 * 65536 + x3 * 4096 + x2 * 256 + x1 * 16 + x0 := by
 unfold valL
 simp only [List.foldl_cons, List.foldl_nil, digI_dgN _ h0, digI_dgN _ h1, digI_dgN _ h2, digI_dgN _ h3, digI_dgN _ h4, digI_dgN _ h5, digI_dgN _ h6, digI_dgN _ h7]
 omega
theorem sum8 (a q1 q2 q3 q4 q5 q6 q7 : Int) (b0 : a % 16 + 16 * q1 = a) (b1 : q1 / 16 = q2) (b2 : q2 / 16 = q3) (b3 : q3 / 16 = q4) (b4 : q4 / 16 = q5) (b5 : q5 / 16 = q6) (b6 : q6 / 16 = q7) (b7 : q7 / 16 = 0) :
  (q7 % 16) * 268435456 + (q6 % 16) * 16777216 + (q5 % 16) * 1048576 + (q4 % 16) * 65536 + (q3 % 16) * 4096 + (q2 % 16) * 256 + (q1 % 16) * 16 + a % 16 = a := by omega
theorem rdv_hexB (a : Int) (h0 : 0 ≤ a) (h1 : a < 4294967296) : rdv (hexB a).data.toList = a := by
 rw [rdv_yes _ (good_hexB a)]
 have hl : (hexB a).data.toList = [dgN (a / 268435456 % 16).toNat, dgN (a / 16777216 % 16).toNat, dgN (a / 1048576 % 16).toNat, dgN (a / 65536 % 16).toNat, dgN (a / 4096 % 16).toNat, dgN (a / 256 % 16).toNat, dgN (a / 16 % 16).toNat, dgN (a % 16).toNat] := rfl
 rw [hl, val8 _ _ _ _ _ _ _ _ (by omega) (by omega) (by omega) (by omega) (by omega) (by omega) (by omega) (by omega)]
 have s := sum8 a (a / 16) (a / 256) (a / 4096) (a / 65536) (a / 1048576) (a / 16777216) (a / 268435456) (by omega) (by omega) (by omega) (by omega) (by omega) (by omega) (by omega) (by omega)
 have t : ∀ y : Int, ((y % 16).toNat : Int) = y % 16 := fun y => by omega
 rw [t, t, t, t, t, t, t, t]
 exact s
theorem list8 {α : Type} (l : List α) (h : l.length = 8) : ∃ a b c d e f g i, l = [a, b, c, d, e, f, g, i] := by
 match l, h with
 | [a, b, c, d, e, f, g, i], _ => exact ⟨a, b, c, d, e, f, g, i, rfl⟩
theorem hexB_rdv (s : ByteArray) (h : goodL s.data.toList = true) : hexB (rdv s.data.toList) = s := by
 obtain ⟨h8, ha⟩ := goodL_all _ h
 rw [rdv_yes _ h]
 obtain ⟨c0, c1, c2, c3, c4, c5, c6, c7, hl⟩ := list8 _ h8
 have hs : s = ⟨[c0, c1, c2, c3, c4, c5, c6, c7].toArray⟩ := by
  apply ByteArray.ext; rw [← hl]
 rw [hl] at ha ⊢
 have a0 := ha c0 (by simp)
 have a1 := ha c1 (by simp)
 have a2 := ha c2 (by simp)
 have a3 := ha c3 (by simp)
 have a4 := ha c4 (by simp)
 have a5 := ha c5 (by simp)
 have a6 := ha c6 (by simp)
 have a7 := ha c7 (by simp)
 have d0 := digI_lo _ a0
 have d1 := digI_lo _ a1
 have d2 := digI_lo _ a2
 have d3 := digI_lo _ a3
 have d4 := digI_lo _ a4
 have d5 := digI_lo _ a5
 have d6 := digI_lo _ a6
 have d7 := digI_lo _ a7
 rw [hs]
 have e0 := dgN_digI c0 a0
 have e1 := dgN_digI c1 a1
 have e2 := dgN_digI c2 a2
 have e3 := dgN_digI c3 a3
 have e4 := dgN_digI c4 a4
 have e5 := dgN_digI c5 a5
 have e6 := dgN_digI c6 a6
 have e7 := dgN_digI c7 a7
 have hv : valL [c0, c1, c2, c3, c4, c5, c6, c7] = digI (c0.toNat : Int) * 268435456 + digI (c1.toNat : Int) * 16777216 + digI (c2.toNat : Int) * 1048576 + digI (c3.toNat : Int) * 65536 + digI (c4.toNat : Int) * 4096 + digI (c5.toNat : Int) * 256 + digI (c6.toNat : Int) * 16 + digI (c7.toNat : Int) := by
  unfold valL; simp only [List.foldl_cons, List.foldl_nil]; omega
 rw [hv]
 clear hv ha hl hs h8 h
 generalize digI (c0.toNat : Int) = x0 at *
 generalize digI (c1.toNat : Int) = x1 at *
 generalize digI (c2.toNat : Int) = x2 at *
 generalize digI (c3.toNat : Int) = x3 at *
 generalize digI (c4.toNat : Int) = x4 at *
 generalize digI (c5.toNat : Int) = x5 at *
 generalize digI (c6.toNat : Int) = x6 at *
 generalize digI (c7.toNat : Int) = x7 at *
 obtain ⟨v, hv⟩ : ∃ v, x0 * 268435456 + x1 * 16777216 + x2 * 1048576 + x3 * 65536 + x4 * 4096 + x5 * 256 + x6 * 16 + x7 = v := ⟨_, rfl⟩
 rw [hv]
 unfold hexB
 rw [show v / 268435456 % 16 = x0 by omega, show v / 16777216 % 16 = x1 by omega, show v / 1048576 % 16 = x2 by omega, show v / 65536 % 16 = x3 by omega, show v / 4096 % 16 = x4 by omega, show v / 256 % 16 = x5 by omega, show v / 16 % 16 = x6 by omega, show v % 16 = x7 by omega]
 rw [e0, e1, e2, e3, e4, e5, e6, e7]
end Go.Proofs.YtgcmnkanjcfndaaGreatDoor
namespace Go.Proofs.YtgcmnkanjcfndaaGreatDoor
open Go.Lib (decDigits)
set_option linter.unusedVariables false
set_option linter.unusedSimpArgs false
theorem pin_fin : ∀ k : Fin 256, pIn (k.val : Int) = true → (k.val : Int) ≠ 32 ∧ (k.val : Int) ≠ 10 ∧ (k.val : Int) ≠ 35 := by
 intro k h
 unfold pIn at h
 simp at h
 omega
theorem pin_ne {b : UInt8} (h : pIn (nb b) = true) : nb b ≠ 32 ∧ nb b ≠ 10 ∧ nb b ≠ 35 := pin_fin ⟨b.toNat, b.toNat_lt⟩ h
theorem par_parts {p : Par} (h : mayP p = true) : (p.name.size ≠ 0 ∧ ∀ b ∈ bs p.name, pIn (nb b) = true) ∧ (p.kind = 1 ∨ p.kind = 2) ∧ 1 ≤ p.len ∧ p.len ≤ 4096 := by
 unfold mayP namedP at h
 simp only [Bool.and_eq_true, Bool.or_eq_true, bne_iff_ne, beq_iff_eq, decide_eq_true_eq, List.all_eq_true] at h
 exact ⟨⟨h.1.1.1.1, fun b hb => h.1.1.2 b hb⟩, h.1.2, h.2.1, h.2.2⟩
def hexT (a : Int) : Bs := (hexB a).data.toList
def hexW (s : Bs) : Option Int := if goodL s then some (rdv s) else none
theorem hex_iff {s : Bs} {a : Int} : hexW s = some a ↔ (0 ≤ a ∧ a < 4294967296) ∧ s = hexT a := by
 unfold hexW hexT
 constructor
 ·intro h
  split at h
  ·rename_i hg
   cases h
   have h1 := hexB_rdv ⟨s.toArray⟩ (by simpa using hg)
   refine ⟨rdv_lo s, ?_⟩
   have h2 := congrArg (fun x : ByteArray => x.data.toList) h1
   simpa using h2.symm
  ·cases h
 ·rintro ⟨⟨h0, h1⟩, rfl⟩
  rw [if_pos (good_hexB a), rdv_hexB a h0 h1]
theorem hex_word (a : Int) : WordB (hexT a) := fun b hb => by
 have h := (goodL_all _ (good_hexB a)).2 b hb
 rw [isHex_iff] at h
 unfold nb
 omega
def paramB : Bs := [112, 97, 114, 97, 109]
def regB : Bs := [114, 101, 103]
def slotB : Bs := [115, 108, 111, 116]
def numberB : Bs := [110, 117, 109, 98, 101, 114]
def wholeT : Bs := [119, 104, 111, 108, 101]
def vectorB : Bs := [118, 101, 99, 116, 111, 114]
def keepB : Bs := [107, 101, 101, 112]
def localB : Bs := [108, 111, 99, 97, 108]
def headB : Bs := [108, 97, 116, 104, 101, 32, 49]
def kindT (k : Int) : Bs := if k = 2 then complexB else realB
def parWs (p : Par) : List Bs := [paramB, bs p.name, kindT p.kind, numT p.len]
def parOf (n k : Bs) (m : Int) : Par := ⟨⟨n.toArray⟩, if k = complexB then 2 else 1, m⟩
def parLn : List Bs → Option Par
 | [a, n, k, l] => if a = paramB ∧ (k = realB ∨ k = complexB) then (numW l).bind fun m => if mayP (parOf n k m) = true then some (parOf n k m) else none else none
 | _ => none
theorem par_ws {n k : Bs} {m : Int} (hk : k = realB ∨ k = complexB) : parWs (parOf n k m) = [paramB, n, k, numT m] := by
 unfold parWs kindT parOf
 simp only [bs_of]
 rcases hk with rfl | rfl
 ·rw [if_neg (show ¬ realB = complexB by decide), if_neg (by decide)]
 ·rw [if_pos rfl, if_pos rfl]
theorem par_out {w : List Bs} {p : Par} (h : parLn w = some p) : mayP p = true ∧ w = parWs p := by
 unfold parLn at h
 split at h
 ·rename_i a n k l
  by_cases hk : a = paramB ∧ (k = realB ∨ k = complexB)
  ·rw [if_pos hk, Option.bind_eq_some_iff] at h
   obtain ⟨m, hm, h⟩ := h
   by_cases hp : mayP (parOf n k m) = true
   ·rw [if_pos hp] at h
    cases h
    refine ⟨hp, ?_⟩
    rw [par_ws hk.2, hk.1, (num_out hm).2]
   ·rw [if_neg hp] at h; cases h
  ·rw [if_neg hk] at h; cases h
 ·cases h
theorem par_in {p : Par} (h : mayP p = true) : parLn (parWs p) = some p := by
 obtain ⟨_, hk, h1, h2⟩ := par_parts h
 have e : parOf (bs p.name) (kindT p.kind) p.len = p := by
  unfold parOf kindT
  rw [of_bs]
  obtain ⟨nm, kd, ln⟩ := p
  simp only at hk ⊢
  rcases hk with rfl | rfl
  ·rw [if_neg (show ¬ (1 : Int) = 2 by decide), if_neg (show ¬ realB = complexB by decide)]
  ·rw [if_pos rfl, if_pos rfl]
 have hkk : kindT p.kind = realB ∨ kindT p.kind = complexB := by
  unfold kindT
  rcases hk with q | q <;> rw [q]
  ·exact .inl rfl
  ·exact .inr rfl
 show (if paramB = paramB ∧ (kindT p.kind = realB ∨ kindT p.kind = complexB) then (numW (numT p.len)).bind fun m => if mayP (parOf (bs p.name) (kindT p.kind) m) = true then some (parOf (bs p.name) (kindT p.kind) m) else none else none) = some p
 rw [if_pos ⟨rfl, hkk⟩, num_in (by omega) (by omega), Option.bind_some, e, if_pos h]
def okTy (t : Ty) : Prop := (t.kind = 1 ∧ t.par = 0) ∨ (t.kind = 2 ∧ t.par = 0) ∨ (t.kind = 3 ∧ 0 ≤ t.par ∧ t.par ≤ 2147483647)
def typWs (t : Ty) : List Bs := if t.kind = 1 then [numberB] else if t.kind = 2 then [wholeT] else [vectorB, numT t.par]
def vecLn : List Bs → Option (Ty × List Bs)
 | [] => none
 | m :: q => (numW m).bind fun n => some (⟨3, n⟩, q)
def typLn : List Bs → Option (Ty × List Bs)
 | [] => none
 | a :: r => if a = numberB then some (⟨1, 0⟩, r) else if a = wholeT then some (⟨2, 0⟩, r) else if a = vectorB then vecLn r else none
theorem typ_out {w r : List Bs} {t : Ty} (h : typLn w = some (t, r)) : okTy t ∧ w = typWs t ++ r := by
 cases w with
 | nil => cases h
 | cons a q =>
  have h : (if a = numberB then some ((⟨1, 0⟩ : Ty), q) else if a = wholeT then some (⟨2, 0⟩, q) else if a = vectorB then vecLn q else none) = some (t, r) := h
  by_cases h1 : a = numberB
  ·rw [if_pos h1] at h; cases h; subst h1; exact ⟨.inl ⟨rfl, rfl⟩, rfl⟩
  ·rw [if_neg h1] at h
   by_cases h2 : a = wholeT
   ·rw [if_pos h2] at h; cases h; subst h2; exact ⟨.inr (.inl ⟨rfl, rfl⟩), rfl⟩
   ·rw [if_neg h2] at h
    by_cases h3 : a = vectorB
    ·rw [if_pos h3] at h
     subst h3
     cases q with
     | nil => cases h
     | cons m q' =>
      have h : ((numW m).bind fun n => some ((⟨3, n⟩ : Ty), q')) = some (t, r) := h
      rw [Option.bind_eq_some_iff] at h
      obtain ⟨n, hn, h⟩ := h
      cases h
      obtain ⟨hb, rfl⟩ := num_out hn
      exact ⟨.inr (.inr ⟨rfl, hb⟩), rfl⟩
    ·rw [if_neg h3] at h; cases h
theorem typ_in {t : Ty} (h : okTy t) (r : List Bs) : typLn (typWs t ++ r) = some (t, r) := by
 obtain ⟨k, p⟩ := t
 unfold okTy at h
 simp only at h
 rcases h with ⟨rfl, rfl⟩ | ⟨rfl, rfl⟩ | ⟨rfl, h0, h1⟩
 ·rfl
 ·rfl
 ·show (if vectorB = numberB then some ((⟨1, 0⟩ : Ty), numT p :: r) else if vectorB = wholeT then some (⟨2, 0⟩, numT p :: r) else if vectorB = vectorB then vecLn (numT p :: r) else none) = _
  rw [if_neg (by decide), if_neg (by decide), if_pos rfl]
  show ((numW (numT p)).bind fun n => some ((⟨3, n⟩ : Ty), r)) = _
  rw [num_in h0 h1, Option.bind_some]
def regWs (n : Int) (t : Ty) : List Bs := regB :: numT n :: typWs t
def allOf {α : Type} : α × List Bs → Option α
 | (t, []) => some t
 | _ => none
def regLn (n : Int) : List Bs → Option Ty
 | a :: m :: r => if a = regB ∧ numW m = some n then (typLn r).bind allOf else none
 | _ => none
theorem all_of {α : Type} {x : α × List Bs} {t : α} (h : allOf x = some t) : x = (t, []) := by
 obtain ⟨y, l⟩ := x
 cases l with
 | nil => cases h; rfl
 | cons b q => cases h
theorem reg_out {n : Int} {w : List Bs} {t : Ty} (h : regLn n w = some t) : okTy t ∧ w = regWs n t := by
 match w, h with
 | a :: m :: r, h =>
  have h : (if a = regB ∧ numW m = some n then (typLn r).bind allOf else none) = some t := h
  by_cases ha : a = regB ∧ numW m = some n
  ·rw [if_pos ha, Option.bind_eq_some_iff] at h
   obtain ⟨x, hx, h⟩ := h
   rw [all_of h] at hx
   obtain ⟨h1, e⟩ := typ_out hx
   refine ⟨h1, ?_⟩
   rw [ha.1, (num_out ha.2).2, e, List.append_nil]
   rfl
  ·rw [if_neg ha] at h; cases h
theorem reg_in {n : Int} {t : Ty} (h0 : 0 ≤ n) (h1 : n ≤ 2147483647) (h : okTy t) : regLn n (regWs n t) = some t := by
 show (if regB = regB ∧ numW (numT n) = some n then (typLn (typWs t)).bind allOf else none) = some t
 have ht := typ_in h []
 rw [List.append_nil] at ht
 rw [if_pos ⟨rfl, num_in h0 h1⟩, ht]
 rfl
def okSl (s : Sl) : Prop := okTy s.ty ∧ (if s.ty.kind = 2 then s.bits = 0 ∧ 0 ≤ s.int_ ∧ s.int_ ≤ 2147483647 else s.int_ = 0 ∧ 0 ≤ s.bits ∧ s.bits < 4294967296)
def slotWs (n : Int) (s : Sl) : List Bs := slotB :: numT n :: (if s.keep then keepB else localB) :: (typWs s.ty ++ [if s.ty.kind = 2 then numT s.int_ else hexT s.bits])
def sloOf (k : Bs) : Ty × List Bs → Option Sl
 | (t, [x]) => if t.kind = 2 then (numW x).bind fun i => some ⟨t, decide (k = keepB), 0, i⟩ else (hexW x).bind fun b => some ⟨t, decide (k = keepB), b, 0⟩
 | _ => none
def slotLn (n : Int) : List Bs → Option Sl
 | a :: m :: k :: r => if a = slotB ∧ numW m = some n ∧ (k = keepB ∨ k = localB) then (typLn r).bind (sloOf k) else none
 | _ => none
theorem slot_out {n : Int} {w : List Bs} {s : Sl} (h : slotLn n w = some s) : okSl s ∧ w = slotWs n s := by
 match w, h with
 | a :: m :: k :: r, h =>
  have h : (if a = slotB ∧ numW m = some n ∧ (k = keepB ∨ k = localB) then (typLn r).bind (sloOf k) else none) = some s := h
  by_cases ha : a = slotB ∧ numW m = some n ∧ (k = keepB ∨ k = localB)
  ·rw [if_pos ha, Option.bind_eq_some_iff] at h
   obtain ⟨⟨t, l⟩, hx, h⟩ := h
   obtain ⟨ht, e⟩ := typ_out hx
   have hkk : (if decide (k = keepB) = true then keepB else localB) = k := by
    rcases ha.2.2 with rfl | rfl
    ·rfl
    ·rfl
   match l, h, e with
   | [x], h, e =>
    have h : (if t.kind = 2 then (numW x).bind fun i => some ⟨t, decide (k = keepB), 0, i⟩ else (hexW x).bind fun b => some ⟨t, decide (k = keepB), b, 0⟩) = some s := h
    by_cases h2 : t.kind = 2
    ·rw [if_pos h2, Option.bind_eq_some_iff] at h
     obtain ⟨i, hi, h⟩ := h
     cases h
     obtain ⟨hb, ex⟩ := num_out hi
     refine ⟨⟨ht, by rw [if_pos h2]; exact ⟨rfl, hb⟩⟩, ?_⟩
     unfold slotWs
     simp only
     rw [hkk, if_pos h2, ha.1, (num_out ha.2.1).2, e, ex]
    ·rw [if_neg h2, Option.bind_eq_some_iff] at h
     obtain ⟨b, hb, h⟩ := h
     cases h
     obtain ⟨hb, ex⟩ := hex_iff.1 hb
     refine ⟨⟨ht, by rw [if_neg h2]; exact ⟨rfl, hb⟩⟩, ?_⟩
     unfold slotWs
     simp only
     rw [hkk, if_neg h2, ha.1, (num_out ha.2.1).2, e, ex]
  ·rw [if_neg ha] at h; cases h
theorem slot_in {n : Int} {s : Sl} (h0 : 0 ≤ n) (h1 : n ≤ 2147483647) (h : okSl s) : slotLn n (slotWs n s) = some s := by
 obtain ⟨t, k, b, i⟩ := s
 obtain ⟨ht, hv⟩ := h
 simp only at ht hv
 have hk : ((if k = true then keepB else localB) = keepB ∨ (if k = true then keepB else localB) = localB) := by cases k <;> simp
 have hd : decide ((if k = true then keepB else localB) = keepB) = k := by cases k <;> rfl
 show (if slotB = slotB ∧ numW (numT n) = some n ∧ ((if k = true then keepB else localB) = keepB ∨ (if k = true then keepB else localB) = localB) then (typLn (typWs t ++ [if t.kind = 2 then numT i else hexT b])).bind (sloOf (if k = true then keepB else localB)) else none) = _
 rw [if_pos ⟨rfl, num_in h0 h1, hk⟩, typ_in ht, Option.bind_some]
 show (if t.kind = 2 then (numW (if t.kind = 2 then numT i else hexT b)).bind fun i => some (⟨t, decide ((if k = true then keepB else localB) = keepB), 0, i⟩ : Sl) else (hexW (if t.kind = 2 then numT i else hexT b)).bind fun b => some ⟨t, decide ((if k = true then keepB else localB) = keepB), b, 0⟩) = _
 rw [hd]
 by_cases h2 : t.kind = 2
 ·rw [if_pos h2] at hv
  rw [if_pos h2, if_pos h2, num_in hv.2.1 hv.2.2, Option.bind_some, hv.1]
 ·rw [if_neg h2] at hv
  rw [if_neg h2, if_neg h2, hex_iff.2 ⟨hv.2, rfl⟩, Option.bind_some, hv.1]
def opsB : List Bs := [[], [110, 117, 109, 98, 101, 114], [119, 104, 111, 108, 101], [99, 111, 112, 121], [97, 100, 100], [115, 117, 98], [109, 117, 108], [100, 105, 118], [109, 105, 110], [109, 97, 120], [108, 101, 115, 115], [115, 113, 114, 116], [110, 101, 103], [97, 98, 115], [102, 105, 110, 105, 116, 101], [115, 101, 108, 101, 99, 116], [112, 111, 119, 101, 114], [102, 114, 111, 109], [116, 101, 115, 116], [115, 117, 109], [108, 101, 97, 115, 116], [105, 110, 99], [98, 101, 108, 111, 119], [115, 97, 109, 101], [97, 110, 100], [110, 111, 116], [99, 104, 111, 111, 115, 101], [109, 105, 110, 117, 115], [111, 118, 101, 114], [103, 114, 97, 100], [112, 97, 114, 97, 109], [111, 117, 116], [108, 111, 97, 100], [115, 116, 111, 114, 101], [119, 104, 101, 110], [101, 110, 100], [108, 111, 111, 112], [110, 101, 120, 116]]
def opT (op : Int) : Bs := (opsB[op.toNat]?).getD []
def opW (s : Bs) : Option Nat := (List.range 37).find? fun k => opT ((k : Int) + 1) == s
theorem op_all : ∀ k : Nat, k < 37 → opW (opT ((k : Int) + 1)) = some k := by decide +kernel
theorem op_word : ∀ k : Nat, k < 37 → (opT ((k : Int) + 1)).all (fun b => nb b != 32 && nb b != 10) = true := by decide +kernel
theorem op_out {s : Bs} {k : Nat} (h : opW s = some k) : k < 37 ∧ s = opT ((k : Int) + 1) := by
 unfold opW at h
 have h1 := List.find?_some h
 have h2 := List.mem_of_find?_eq_some h
 exact ⟨List.mem_range.1 h2, by simpa using (beq_iff_eq.1 h1).symm⟩
def rgT (n : Int) : Bs := 114 :: numT n
def rgW : Bs → Option Int
 | [] => none
 | b :: r => if b = 114 then numW r else none
theorem rg_iff {s : Bs} {n : Int} : rgW s = some n ↔ (0 ≤ n ∧ n ≤ 2147483647) ∧ s = rgT n := by
 unfold rgW rgT
 constructor
 ·intro h
  cases s with
  | nil => cases h
  | cons b r =>
   have h : (if b = 114 then numW r else none) = some n := h
   by_cases hb : b = 114
   ·rw [if_pos hb] at h
    obtain ⟨h1, e⟩ := num_iff.1 h
    exact ⟨h1, by rw [hb, e]⟩
   ·rw [if_neg hb] at h; cases h
 ·rintro ⟨h1, rfl⟩
  show (if (114 : UInt8) = 114 then numW (numT n) else none) = some n
  rw [if_pos rfl]
  exact num_iff.2 ⟨h1, rfl⟩
def fldWs (l n : Int) : List Bs := if l = 0 then [] else [rgT n]
def okF (l n : Int) : Prop := if l = 0 then n = 0 else 0 ≤ n ∧ n ≤ 2147483647
def oneLn : List Bs → Option (Int × List Bs)
 | [] => none
 | a :: r => (rgW a).bind fun n => some (n, r)
def fldLn (l : Int) (w : List Bs) : Option (Int × List Bs) := if l = 0 then some (0, w) else oneLn w
theorem fld_out {l n : Int} {w r : List Bs} (h : fldLn l w = some (n, r)) : okF l n ∧ w = fldWs l n ++ r := by
 unfold fldLn at h
 unfold okF fldWs
 by_cases h0 : l = 0
 ·rw [if_pos h0] at h
  rw [if_pos h0, if_pos h0]
  cases h
  exact ⟨rfl, rfl⟩
 ·rw [if_neg h0] at h
  rw [if_neg h0, if_neg h0]
  cases w with
  | nil => cases h
  | cons a q =>
   have h : ((rgW a).bind fun n => some (n, q)) = some (n, r) := h
   rw [Option.bind_eq_some_iff] at h
   obtain ⟨m, hm, h⟩ := h
   cases h
   obtain ⟨h1, e⟩ := rg_iff.1 hm
   exact ⟨h1, by rw [e]; rfl⟩
theorem fld_in {l n : Int} (h : okF l n) (r : List Bs) : fldLn l (fldWs l n ++ r) = some (n, r) := by
 unfold okF at h
 unfold fldLn fldWs
 by_cases h0 : l = 0
 ·rw [if_pos h0] at h
  rw [if_pos h0, if_pos h0, h]
  rfl
 ·rw [if_neg h0] at h
  rw [if_neg h0, if_neg h0]
  show ((rgW (rgT n)).bind fun n => some (n, r)) = _
  rw [rg_iff.2 ⟨h, rfl⟩, Option.bind_some]
def endWs (l n b : Int) : List Bs := if l = 7 then [hexT b] else if l = 0 then [] else [numT n]
def okE (l n b : Int) : Prop := if l = 7 then n = 0 ∧ 0 ≤ b ∧ b < 4294967296 else if l = 0 then n = 0 ∧ b = 0 else b = 0 ∧ 0 ≤ n ∧ n ≤ 2147483647
def oneOf : List Bs → Option Bs
 | [x] => some x
 | _ => none
def noneOf : List Bs → Option (Int × Int)
 | [] => some (0, 0)
 | _ => none
def endLn (l : Int) (w : List Bs) : Option (Int × Int) :=
 if l = 7 then (oneOf w).bind fun x => (hexW x).bind fun b => some (0, b)
 else if l = 0 then noneOf w
 else (oneOf w).bind fun x => (numW x).bind fun n => some (n, 0)
theorem one_of {w : List Bs} {x : Bs} (h : oneOf w = some x) : w = [x] := by
 match w, h with
 | [y], h => cases h; rfl
theorem none_of {w : List Bs} {x : Int × Int} (h : noneOf w = some x) : w = [] ∧ x = (0, 0) := by
 match w, h with
 | [], h => cases h; exact ⟨rfl, rfl⟩
theorem end_out {l n b : Int} {w : List Bs} (h : endLn l w = some (n, b)) : okE l n b ∧ w = endWs l n b := by
 unfold endLn at h
 unfold okE endWs
 by_cases h7 : l = 7
 ·rw [if_pos h7] at h
  rw [if_pos h7, if_pos h7]
  simp only [Option.bind_eq_some_iff] at h
  obtain ⟨x, hx, b', hb, h⟩ := h
  cases h
  obtain ⟨h1, e⟩ := hex_iff.1 hb
  exact ⟨⟨rfl, h1⟩, by rw [one_of hx, e]⟩
 ·rw [if_neg h7] at h
  rw [if_neg h7, if_neg h7]
  by_cases h0 : l = 0
  ·rw [if_pos h0] at h
   rw [if_pos h0, if_pos h0]
   obtain ⟨h1, h2⟩ := none_of h
   cases h2
   exact ⟨⟨rfl, rfl⟩, h1⟩
  ·rw [if_neg h0] at h
   rw [if_neg h0, if_neg h0]
   simp only [Option.bind_eq_some_iff] at h
   obtain ⟨x, hx, m, hm, h⟩ := h
   cases h
   obtain ⟨h1, e⟩ := num_iff.1 hm
   exact ⟨⟨rfl, h1⟩, by rw [one_of hx, e]⟩
theorem end_in {l n b : Int} (h : okE l n b) : endLn l (endWs l n b) = some (n, b) := by
 unfold okE at h
 unfold endLn endWs
 by_cases h7 : l = 7
 ·rw [if_pos h7] at h
  rw [if_pos h7, if_pos h7]
  show ((hexW (hexT b)).bind fun b => some ((0 : Int), b)) = _
  rw [hex_iff.2 ⟨h.2, rfl⟩, Option.bind_some, h.1]
 ·rw [if_neg h7] at h
  rw [if_neg h7, if_neg h7]
  by_cases h0 : l = 0
  ·rw [if_pos h0] at h
   rw [if_pos h0, if_pos h0, h.1, h.2]
   rfl
  ·rw [if_neg h0] at h
   rw [if_neg h0, if_neg h0]
   show ((numW (numT n)).bind fun n => some (n, (0 : Int))) = _
   rw [num_iff.2 ⟨h.2, rfl⟩, Option.bind_some, h.1]
def insWs (i : Ins) : List Bs := opT i.op :: (fldWs (rowP i.op).d i.d ++ (fldWs (rowP i.op).a i.a ++ (fldWs (rowP i.op).b i.b ++ (fldWs (rowP i.op).c i.c ++ endWs (rowP i.op).n i.n i.bits))))
def okIn (i : Ins) : Prop := (1 ≤ i.op ∧ i.op ≤ 37) ∧ okF (rowP i.op).d i.d ∧ okF (rowP i.op).a i.a ∧ okF (rowP i.op).b i.b ∧ okF (rowP i.op).c i.c ∧ okE (rowP i.op).n i.n i.bits
def insLn : List Bs → Option Ins
 | [] => none
 | s :: r0 => (opW s).bind fun k => (fldLn (rowP ((k : Int) + 1)).d r0).bind fun d => (fldLn (rowP ((k : Int) + 1)).a d.2).bind fun a => (fldLn (rowP ((k : Int) + 1)).b a.2).bind fun b => (fldLn (rowP ((k : Int) + 1)).c b.2).bind fun c => (endLn (rowP ((k : Int) + 1)).n c.2).bind fun e => some ⟨(k : Int) + 1, d.1, a.1, b.1, c.1, e.1, e.2⟩
theorem ins_out {w : List Bs} {i : Ins} (h : insLn w = some i) : okIn i ∧ w = insWs i := by
 unfold insLn at h
 split at h
 ·cases h
 ·rename_i s r0
  simp only [Option.bind_eq_some_iff] at h
  obtain ⟨k, hk, ⟨d, r1⟩, hd, ⟨a, r2⟩, ha, ⟨b, r3⟩, hb, ⟨c, r4⟩, hc, ⟨n, bt⟩, he, hi⟩ := h
  cases hi
  obtain ⟨k1, rfl⟩ := op_out hk
  obtain ⟨d1, rfl⟩ := fld_out hd
  obtain ⟨a1, e1⟩ := fld_out ha
  obtain ⟨b1, e2⟩ := fld_out hb
  obtain ⟨c1, e3⟩ := fld_out hc
  obtain ⟨n1, e4⟩ := end_out he
  simp only at e1 e2 e3 e4
  refine ⟨⟨⟨by simp only; omega, by simp only; omega⟩, d1, a1, b1, c1, n1⟩, ?_⟩
  unfold insWs
  simp only
  rw [e1, e2, e3, e4]
theorem ins_in {i : Ins} (h : okIn i) : insLn (insWs i) = some i := by
 obtain ⟨op, d, a, b, c, n, bt⟩ := i
 obtain ⟨⟨h1, h2⟩, hd, ha, hb, hc, he⟩ := h
 simp only at h1 h2 hd ha hb hc he
 obtain ⟨k, rfl⟩ : ∃ k : Nat, op = (k : Int) + 1 := ⟨(op - 1).toNat, by omega⟩
 unfold insLn insWs
 simp only
 rw [op_all k (by omega)]
 simp only [Option.bind_some]
 rw [fld_in hd]
 simp only [Option.bind_some]
 rw [fld_in ha]
 simp only [Option.bind_some]
 rw [fld_in hb]
 simp only [Option.bind_some]
 rw [fld_in hc]
 simp only [Option.bind_some]
 rw [end_in he]
 rfl
end Go.Proofs.YtgcmnkanjcfndaaGreatDoor
namespace Go.Proofs.YtgcmnkanjcfndaaGreatDoor
set_option linter.unusedVariables false
set_option linter.unusedSimpArgs false
def runP : Wk → List Ins → Wk
 | s, [] => s
 | s, i :: r => runP (stepP s i) r
def takenP (c : Cd) : Wk → List Ins → Bool
 | _, [] => true
 | s, i :: r => takesP c s i && takenP c (stepP s i) r
theorem goP_ok {c : Cd} : ∀ {l : List Ins} {s : Wk} {k : Nat}, (goP c s k l).1 = 0 ↔ takenP c s l = true ∧ (runP s l).opens.isEmpty = true
 | [], s, k => by
  simp only [goP, takenP, runP, true_and]
  by_cases h : s.opens.isEmpty = true
  ·simp [h]
  ·simp [h]
 | i :: l, s, k => by
  simp only [goP, takenP, runP, Bool.and_eq_true]
  by_cases h : takesP c s i = true
  ·rw [if_pos h, goP_ok (k := k + 1)]
   simp [h]
  ·rw [if_neg h]
   simp [h]
theorem checkC_ok {c : Cd} : (checkC c).1 = 0 ↔ aheadP c = 0 ∧ takenP c ⟨[], []⟩ c.list = true ∧ (runP ⟨[], []⟩ c.list).opens.isEmpty = true := by
 unfold checkC
 by_cases h : aheadP c = 0
 ·rw [if_neg (by simp [h]), goP_ok]; simp [h]
 ·rw [if_pos h]; simp [h]
end Go.Proofs.YtgcmnkanjcfndaaGreatDoor
namespace Go.Proofs.YtgcmnkanjcfndaaGreatDoor
set_option linter.unusedVariables false
set_option linter.unusedSimpArgs false
theorem isPl_v {n : Int} {k : Nat} : isPl n k = true ↔ 0 ≤ n ∧ n < (k : Int) := by unfold isPl; simp
theorem sign_may {ps : List Par} (h : checkP ps = 0) : ∀ p ∈ ps, mayP p = true := by
 unfold checkP at h
 split at h
 ·exact absurd h (by decide)
 ·split at h
  ·exact absurd h (by decide)
  ·rename_i h2
   intro p hp
   have h3 : ps.all mayP = true := by simpa using h2
   exact List.all_eq_true.1 h3 p hp
theorem fits_d {rs : List Ty} {l n : Int} {m : Ty} (h : fitsReg rs l n m = true) (hl : l ≠ 0) : isPl n rs.length = true := by
 unfold fitsReg at h
 rw [if_neg hl] at h
 simp only [Bool.and_eq_true] at h
 exact h.1
structure Tk (c : Cd) (s : Wk) (i : Ins) : Prop where
 known : 1 ≤ i.op ∧ i.op ≤ 37
 d : fitsReg c.regs (rowP i.op).d i.d (mainT c.regs i (rowP i.op)) = true
 a : fitsReg c.regs (rowP i.op).a i.a (mainT c.regs i (rowP i.op)) = true
 b : fitsReg c.regs (rowP i.op).b i.b (mainT c.regs i (rowP i.op)) = true
 e : fitsReg c.regs (rowP i.op).c i.c (mainT c.regs i (rowP i.op)) = true
 n : fitsRest c i (rowP i.op).n (mainT c.regs i (rowP i.op)) = true
 stand : mayStandP c s i (rowP i.op) = true
 read : readOK s i (rowP i.op) = true
theorem tk_iff {c : Cd} {s : Wk} {i : Ins} : takesP c s i = true ↔ Tk c s i := by
 unfold takesP fitsC knownP
 simp only [Bool.and_eq_true, decide_eq_true_eq]
 exact ⟨fun ⟨k, ⟨d, a, b, e, n⟩, st, r⟩ => ⟨k, d, a, b, e, n, st, r⟩, fun h => ⟨h.known, ⟨h.d, h.a, h.b, h.e, h.n⟩, h.stand, h.read⟩⟩
end Go.Proofs.YtgcmnkanjcfndaaGreatDoor
namespace Go.Proofs.YtgcmnkanjcfndaaGreatDoor
set_option linter.unusedVariables false
set_option linter.unusedSimpArgs false
structure Ah (c : Cd) : Prop where
 sign : checkP c.sign = 0
 regs : c.regs.length ≤ 16384
 list : c.list.length ≤ 32768
 slots : c.slots.length ≤ 4096
 types : typesMay c = true
 begun : slotsMay c = true
theorem ah_iff {c : Cd} : aheadP c = 0 ↔ Ah c := by
 unfold aheadP
 by_cases h0 : checkP c.sign = 0
 ·rw [if_neg (by simp [h0])]
  by_cases h1 : 16384 < c.regs.length ∨ 32768 < c.list.length
  ·rw [if_pos h1]
   exact ⟨fun h => absurd h (by decide), fun h => by have := h.regs; have := h.list; omega⟩
  ·rw [if_neg h1]
   by_cases h2 : 4096 < c.slots.length
   ·rw [if_pos h2]
    exact ⟨fun h => absurd h (by decide), fun h => by have := h.slots; omega⟩
   ·rw [if_neg h2]
    by_cases h3 : (typesMay c && slotsMay c) = true
    ·rw [if_pos h3]
     simp only [Bool.and_eq_true] at h3
     exact ⟨fun _ => ⟨h0, by omega, by omega, by omega, h3.1, h3.2⟩, fun _ => rfl⟩
    ·rw [if_neg h3]
     exact ⟨fun h => absurd h (by decide), fun h => absurd (by rw [h.types, h.begun]; rfl) h3⟩
 ·rw [if_pos h0]
  exact ⟨fun h => absurd h h0, fun h => absurd h.sign h0⟩
end Go.Proofs.YtgcmnkanjcfndaaGreatDoor
