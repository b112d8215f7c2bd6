import Derived.Test.YtnhpnmilgcjeaaaDoorMaskGlob
import Derived.Test.YtnhpnmilgcjeaaaDoorMaskShelf
/- The library's: IndexByte, LastIndexByte, Index, of a star. -/
namespace Go.Proofs.YtnhpnmilgcjeaaaDoor
open Go.RowKit
set_option linter.unusedVariables false
set_option linter.unusedSimpArgs false

/-- Where the first star stands. -/
def starAt : Gs → Option Nat
  | [] => none
  | b :: t => if b = 42 then some 0 else (starAt t).map (· + 1)
theorem star_none : ∀ {s : Gs}, starAt s = none → PlainG s
  | [], _ => by intro c hc; simp at hc
  | b :: t, h => by
    by_cases e : b = 42
    · simp [starAt, e] at h
    · rw [starAt, if_neg e, Option.map_eq_none_iff] at h
      intro c hc
      rcases List.mem_cons.1 hc with rfl | hc
      · exact e
      · exact star_none h c hc
theorem star_some : ∀ {s : Gs} {k : Nat}, starAt s = some k → ∃ x y, s = x ++ 42 :: y ∧ PlainG x ∧ x.length = k
  | [], k, h => by simp [starAt] at h
  | b :: t, k, h => by
    by_cases e : b = 42
    · rw [starAt, if_pos e] at h
      cases h
      exact ⟨[], t, by rw [e]; rfl, by intro c hc; simp at hc, rfl⟩
    · rw [starAt, if_neg e, Option.map_eq_some_iff] at h
      obtain ⟨j, hj, rfl⟩ := h
      obtain ⟨x, y, rfl, hx, hl⟩ := star_some hj
      refine ⟨b :: x, y, rfl, ?_, by simp [hl]⟩
      intro c hc
      rcases List.mem_cons.1 hc with rfl | hc
      · exact e
      · exact hx c hc
def starI (s : Gs) : Int := match starAt s with | none => -1 | some k => (k : Int)
theorem starI_index : ∀ s : Gs, Go.Lib.indexByte s 42 = starI s
  | [] => rfl
  | b :: t => by
    have ih := starI_index t
    unfold starI at ih ⊢
    by_cases e : b = 42
    · subst e; simp [Go.Lib.indexByte, starAt]
    · rw [starAt, if_neg e]
      cases h : starAt t with
      | none => rw [h] at ih; simp [Go.Lib.indexByte, e, ih]
      | some k => rw [h] at ih; simp [Go.Lib.indexByte, e, ih]

theorem idx_any (s : ByteArray) (w : World) :
    Calls Tryd.prog 17 #[.string s, .int .u8 42] w fun e w' => e = .returned (.int .i64 (starI (gs s))) ∧ w' = w := by
  have h := sh_strings_IndexByte s 42 w
  rw [show ((42 : Int).toNat.toUInt8) = (42 : UInt8) from rfl] at h
  have e : Go.Lib.indexByte s.data.toList 42 = starI (gs s) := starI_index _
  rw [e] at h
  exact h

theorem gs_drop (s : ByteArray) (k : Nat) (h : k < s.size) : (gs s).drop k = s[k] :: (gs s).drop (k + 1) := by
  have hk : k < (gs s).length := by rw [gs_length]; exact h
  rw [List.drop_eq_getElem_cons hk]
  congr 1

/-- Where the last star stands. -/
def LastStar (s : Gs) (i : Int) : Prop := (i = -1 ∧ PlainG s) ∨ ∃ x y, s = x ++ 42 :: y ∧ PlainG y ∧ i = x.length

set_option maxHeartbeats 1000000 in
theorem last2_any (s : ByteArray) (hs : s.size ≤ 1152921504606846975) (w : World) :
    Calls Tryd.prog 29 #[.string s, .int .u8 42] w fun e w' => ∃ i, e = .returned (.int .i64 i) ∧ LastStar (gs s) i ∧ w' = w := by
  go_enter Tryd.func29, Tryd.ntmps29
  have hw0 : IntKind.i64.wrap ((s.size : Int) - 1) = (s.size : Int) - 1 := by rw [IntKind.wrap_i64]; omega
  go_wp2
  go_loopw [5] (fun iv wr => wr = w ∧ ∃ j : Nat, j ≤ s.size ∧ iv = .int .i64 ((j : Int) - 1) ∧ Hid (PlainG ((gs s).drop j))) (fun iv _ => (intOf iv + 1).toNat)
  case atStart => exact ⟨rfl, s.size, Nat.le_refl _, rfl, by rw [List.drop_of_length_le (by rw [gs_length]; exact Nat.le_refl _)]; intro c hc; simp at hc⟩
  case round =>
    obtain ⟨rfl, j, hj, rfl, HJ⟩ := hrel
    clear hw0
    by_cases h0 : j = 0
    · subst h0
      have HN : Hid (LastStar (gs s) (-1)) := .inl ⟨rfl, HJ.out⟩
      clear HJ
      go_wp2
      go_ret
      exact ⟨_, rfl, HN.out, rfl⟩
    · obtain ⟨k, rfl⟩ : ∃ k, j = k + 1 := ⟨j - 1, by omega⟩
      have e1 : ((k + 1 : Nat) : Int) - 1 = (k : Int) := by omega
      rw [e1]
      have k0 : (0 : Int) ≤ (k : Int) := by omega
      have k1 : (k : Int) < (s.size : Int) := by omega
      have hw1 : IntKind.i64.wrap ((k : Int) - 1) = (k : Int) - 1 := by rw [IntKind.wrap_i64]; omega
      have hks : k < s.size := by omega
      have hd := gs_drop s k hks
      by_cases hc : (s[k].toNat : Int) = 42
      · have hc' : ((s[k].toNat : Int) == 42) = true := by simpa using hc
        have HN : Hid (LastStar (gs s) (k : Int)) := .inr ⟨(gs s).take k, (gs s).drop (k + 1), by
          have hb : s[k] = 42 := byte_of hc
          rw [← hb, ← hd, List.take_append_drop], HJ.out, by rw [List.length_take, gs_length]; omega⟩
        clear HJ hd
        go_wp2
        go_ret
        exact ⟨_, rfl, HN.out, rfl⟩
      · have hc' : ((s[k].toNat : Int) == 42) = false := by simpa using hc
        have HN : Hid (PlainG ((gs s).drop k)) := by
          show PlainG _
          rw [hd]
          intro c hm
          rcases List.mem_cons.1 hm with rfl | hm
          · intro e; exact hc (by rw [e]; rfl)
          · exact HJ.out c hm
        clear HJ hd
        go_wp2
        go_roundw
        case rel => exact ⟨by trivial, k, by omega, rfl, HN.out⟩
        case measure => simp [intOf]

set_option maxHeartbeats 1000000 in
theorem last_any (s : ByteArray) (hs : s.size ≤ 1152921504606846975) (w : World) :
    Calls Tryd.prog 18 #[.string s, .int .u8 42] w fun e w' => ∃ i, e = .returned (.int .i64 i) ∧ LastStar (gs s) i ∧ w' = w := by
  have HK : Hid (∀ v, Calls Tryd.prog 29 #[.string s, .int .u8 42] v fun e w' => ∃ i, e = .returned (.int .i64 i) ∧ LastStar (gs s) i ∧ w' = v) := last2_any s hs
  go_enter Tryd.func18, Tryd.ntmps18
  go_wp2_with (go_at_call 29; refine (HK.out _).mono ?_; rintro e w1 ⟨i, rfl, hi, rfl⟩)
  go_ret
  exact ⟨_, rfl, hi, rfl⟩

set_option maxHeartbeats 1000000 in
theorem lidx_any (s : ByteArray) (w : World) :
    Calls Tryd.prog 28 #[.string s, .int .u8 42] w fun e w' => e = .returned (.int .i64 (starI (gs s))) ∧ w' = w := by
  have h := Any.stringslite_IndexByte { sh_lays137 with } s 42 w
  rw [show ((42 : Int).toNat.toUInt8) = (42 : UInt8) from rfl] at h
  have e : Go.Lib.indexByte s.data.toList 42 = starI (gs s) := starI_index _
  rw [e] at h
  exact h

set_option maxHeartbeats 1000000 in
theorem lindex_any (s : ByteArray) (w : World) :
    Calls Tryd.prog 41 #[.string s, .string ⟨#[42]⟩] w fun e w' => e = .returned (.int .i64 (starI (gs s))) ∧ w' = w := by
  have HK : Hid (∀ v, Calls Tryd.prog 28 #[.string s, .int .u8 42] v fun e w' => e = .returned (.int .i64 (starI (gs s))) ∧ w' = v) := lidx_any s
  go_enter Tryd.func41, Tryd.ntmps41
  go_wp2_with (go_at_call 28; refine (HK.out _).mono ?_; rintro e w1 ⟨rfl, rfl⟩)
  · have h : ([42] == s.toList) = true := by assumption
    go_ret
    refine ⟨?_, rfl⟩
    have e : gs s = [42] := by rw [gs, ← Lib.toList_data]; exact (beq_iff_eq.1 h).symm
    rw [e]
    rfl
  · go_ret
    exact ⟨rfl, rfl⟩

set_option maxHeartbeats 1000000 in
theorem index_any (s : ByteArray) (w : World) :
    Calls Tryd.prog 37 #[.string s, .string ⟨#[42]⟩] w fun e w' => e = .returned (.int .i64 (starI (gs s))) ∧ w' = w := by
  have HK : Hid (∀ v, Calls Tryd.prog 41 #[.string s, .string ⟨#[42]⟩] v fun e w' => e = .returned (.int .i64 (starI (gs s))) ∧ w' = v) := lindex_any s
  go_enter Tryd.func37, Tryd.ntmps37
  go_wp2_with (go_at_call 41; refine (HK.out _).mono ?_; rintro e w1 ⟨rfl, rfl⟩)
  go_ret
  exact ⟨rfl, rfl⟩

set_option maxHeartbeats 1000000 in
theorem seq0_any (s : ByteArray) (w : World) :
    Calls Tryd.prog 30 #[.string s, .string ⟨#[42]⟩, .int .i64 0] w fun e w' => e = .returned (.func (.func 35) #[] #[.pointer (some ⟨w.heap.size + 1, 0, none⟩), .pointer (some ⟨w.heap.size, 0, none⟩), .pointer (some ⟨w.heap.size + 2, 0, none⟩)]) ∧ w' = ((w.alloc (.cells #[.string s] 9)).alloc (.cells #[.string ⟨#[42]⟩] 9)).alloc (.cells #[.int .i64 0] 3) := by
  go_enter Tryd.func30, Tryd.ntmps30
  go_wp2
  go_ret
  exact ⟨by simp, rfl⟩

set_option maxHeartbeats 1000000 in
theorem seq_any (s : ByteArray) (w : World) :
    Calls Tryd.prog 20 #[.string s, .string ⟨#[42]⟩] w fun e w' => e = .returned (.func (.func 35) #[] #[.pointer (some ⟨w.heap.size + 1, 0, none⟩), .pointer (some ⟨w.heap.size, 0, none⟩), .pointer (some ⟨w.heap.size + 2, 0, none⟩)]) ∧ w' = ((w.alloc (.cells #[.string s] 9)).alloc (.cells #[.string ⟨#[42]⟩] 9)).alloc (.cells #[.int .i64 0] 3) := by
  have HK : Hid (∀ v, Calls Tryd.prog 30 #[.string s, .string ⟨#[42]⟩, .int .i64 0] v fun e w' => e = .returned (.func (.func 35) #[] #[.pointer (some ⟨v.heap.size + 1, 0, none⟩), .pointer (some ⟨v.heap.size, 0, none⟩), .pointer (some ⟨v.heap.size + 2, 0, none⟩)]) ∧ w' = ((v.alloc (.cells #[.string s] 9)).alloc (.cells #[.string ⟨#[42]⟩] 9)).alloc (.cells #[.int .i64 0] 3)) := seq0_any s
  go_enter Tryd.func20, Tryd.ntmps20
  go_wp2_with (go_at_call 30; refine (HK.out _).mono ?_; rintro e w1 ⟨rfl, hw1⟩)
  go_ret
  exact ⟨rfl, rfl⟩

end Go.Proofs.YtnhpnmilgcjeaaaDoor
