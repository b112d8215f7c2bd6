import Derived.Test.YtblaokffocegiaaBitsWalks
import Derived.Test.YtblaokffocegiaaHexPlain
import Derived.LoopN
import Derived.Below
import Derived.Laws.IdiomStrings
/- The walks of Hex and Read, and of their references. -/
namespace Go.Proofs.Ytblaokffocegiaa
open Go.RowKit
set_option linter.unusedVariables false

theorem cv_any (w : World) (b0 b1 b2 b3 b4 b5 b6 b7 : UInt8) :
    (convert 55 9 (.slice (some ⟨w.heap.size, 0, none⟩) 8 8)).run Try.prog
      (w.alloc (.cells #[.int .u8 (b0.toNat : Int), .int .u8 (b1.toNat : Int), .int .u8 (b2.toNat : Int), .int .u8 (b3.toNat : Int), .int .u8 (b4.toNat : Int), .int .u8 (b5.toNat : Int), .int .u8 (b6.toNat : Int), .int .u8 (b7.toNat : Int)] 54))
      = .ok (.string ⟨#[b0, b1, b2, b3, b4, b5, b6, b7]⟩)
      (w.alloc (.cells #[.int .u8 (b0.toNat : Int), .int .u8 (b1.toNat : Int), .int .u8 (b2.toNat : Int), .int .u8 (b3.toNat : Int), .int .u8 (b4.toNat : Int), .int .u8 (b5.toNat : Int), .int .u8 (b6.toNat : Int), .int .u8 (b7.toNat : Int)] 54)) := by
  refine run_convert_bytes_back (P := Try.prog) _ 55 9 5 ⟨w.heap.size, 0, none⟩ 8 [b0, b1, b2, b3, b4, b5, b6, b7] Try.underlying55 Try.underlying5 Try.underlying9 ?_
  intro j hj
  have h8 : j < 8 := hj
  have ha : (⟨w.heap.size, 0, none⟩ : Addr).add j = ⟨w.heap.size, j, none⟩ := by unfold Addr.add; split <;> simp_all
  rw [ha, World.cell?_alloc_at _ _ _ _ rfl]
  obtain rfl | rfl | rfl | rfl | rfl | rfl | rfl | rfl : j = 0 ∨ j = 1 ∨ j = 2 ∨ j = 3 ∨ j = 4 ∨ j = 5 ∨ j = 6 ∨ j = 7 := by omega
  all_goals rfl

theorem ret_ib {k : IntKind} {a b : Int} {p q : Bool} (h : a = b) (g : p = q) : Ending.returned (.tuple #[.int k a, .bool p]) = .returned (.tuple #[.int k b, .bool q]) := by rw [h, g]
theorem ret_string {a b : ByteArray} (h : a = b) : Ending.returned (.string a) = .returned (.string b) := by rw [h]

set_option maxHeartbeats 1000000 in
theorem hex_any (a : Int) (h0 : 0 ≤ a) (h1 : a < 4294967296) (w : World) :
    Calls Try.prog 26 #[.int .u32 a] w fun e w' => e = .returned (.string (hexB a)) ∧ Below w.heap.size w w' := by
  have e7 := and_4 (a / 268435456) (by omega) (by omega)
  have e6 := and_4 (a / 16777216) (by omega) (by omega)
  have e5 := and_4 (a / 1048576) (by omega) (by omega)
  have e4 := and_4 (a / 65536) (by omega) (by omega)
  have e3 := and_4 (a / 4096) (by omega) (by omega)
  have e2 := and_4 (a / 256) (by omega) (by omega)
  have e1 := and_4 (a / 16) (by omega) (by omega)
  have e0 := and_4 a (by omega) (by omega)
  have hcv := cv_any
  go_enter Try.func26, Try.ntmps26
  go_wp2
  refine wp_loop_rounds 9 ?_
  iterate 9 (rw [rounds_succ]; go_wp2)
  go_ret
  refine ⟨ret_string ?_, (Below.refl _ _).alloc (Nat.le_refl _) _⟩
  unfold hexB
  simp only [hexD_get]
  try rfl

set_option maxHeartbeats 400000 in
theorem rhex_any (a : Int) (h0 : 0 ≤ a) (h1 : a < 4294967296) (w : World) :
    Calls Try.prog 27 #[.int .i64 a] w fun e w' => e = .returned (.string (hexB a)) ∧ w' = w := by
  rw [← low_8]
  go_enter Try.func27, Try.ntmps27
  go_wp2
  go_loop [0, 3, 4] (fun av sv iv => ∃ k : Nat, k ≤ 8 ∧ iv = .int .i64 k ∧ av = .int .i64 (a / 16 ^ k) ∧ sv = .string ⟨(low k a).toArray⟩) (fun _ _ iv => 8 - (intOf iv).toNat)
  case atStart => exact ⟨0, by omega, rfl, by simp, rfl⟩
  case round =>
    obtain ⟨k, hk, rfl, rfl, rfl⟩ := hrel
    have hl := low_len k a
    by_cases hlt : k < 8
    · obtain ⟨x, hx⟩ : ∃ x, a / 16 ^ k = x := ⟨_, rfl⟩
      have hx0 : 0 ≤ x := by rw [← hx]; exact Int.ediv_nonneg h0 (Int.pow_nonneg (by decide))
      have hx1 : x ≤ a := by rw [← hx]; exact Int.ediv_le_self _ h0
      rw [hx]
      have HX : Hid (a / 16 ^ k = x) := hx
      clear hx
      obtain ⟨l, hL⟩ : ∃ l, low k a = l := ⟨_, rfl⟩
      rw [hL] at hl ⊢
      have HL : Hid (low k a = l) := hL
      have HLen : Hid (l.length = k) := hl
      have hsz : l.length ≤ 8 := by omega
      clear hL hl
      go_wp2
      go_round
      case rel =>
        refine ⟨k + 1, by omega, by go_num, by rw [div_pow_succ a k x HX.out], ?_⟩
        rw [← add_low k a x HX.out, HL.out, ← extract_one _ (by omega), show (x % 16 + 1).toNat = (x % 16).toNat + 1 by omega]
      case measure => simp [intOf]; omega
    · obtain rfl : k = 8 := by omega
      go_wp2
      go_ret
      exact ⟨rfl, rfl⟩

set_option maxHeartbeats 400000 in
theorem hexv_yes (c : Int) (h0 : 0 ≤ c) (h1 : c ≤ 255) (h : isHex c = true) (w : World) :
    Calls Try.prog 31 #[.int .u8 c] w fun e w' => e = .returned (.tuple #[.int .u32 (digI c), .bool true]) ∧ w' = w := by
  rw [isHex_iff] at h
  by_cases hc : c ≤ 57
  · have hd : digI c = c - 48 := by unfold digI; rw [if_pos hc]
    have e1 : IntKind.u8.wrap (c - 48) = c - 48 := by rw [IntKind.wrap_u8']; omega
    have e2 : IntKind.u32.wrap (c - 48) = c - 48 := by rw [IntKind.wrap_u32']; omega
    have g0 : 48 ≤ c := by omega
    rw [hd]; clear hd h
    go_enter Try.func31, Try.ntmps31
    go_wp2
    go_ret2
    exact ⟨rfl, rfl⟩
  · have hd : digI c = c - 97 + 10 := by unfold digI; rw [if_neg hc]; omega
    have e1 : IntKind.u8.wrap (c - 97) = c - 97 := by rw [IntKind.wrap_u8']; omega
    have e2 : IntKind.u32.wrap (c - 97) = c - 97 := by rw [IntKind.wrap_u32']; omega
    have e3 : IntKind.u32.wrap (c - 97 + 10) = c - 97 + 10 := by rw [IntKind.wrap_u32']; omega
    have g0 : 97 ≤ c := by omega
    have g1 : c ≤ 102 := by omega
    have g2 : 57 < c := by omega
    rw [hd]; clear hd h hc
    go_enter Try.func31, Try.ntmps31
    go_wp2
    go_ret2
    exact ⟨rfl, rfl⟩

set_option maxHeartbeats 400000 in
theorem hexv_no (c : Int) (h0 : 0 ≤ c) (h1 : c ≤ 255) (h : isHex c = false) (w : World) :
    Calls Try.prog 31 #[.int .u8 c] w fun e w' => e = .returned (.tuple #[.int .u32 0, .bool false]) ∧ w' = w := by
  rw [isHex_not] at h
  by_cases c1 : c < 48
  · clear h
    go_enter Try.func31, Try.ntmps31
    go_wp2
    go_ret2
    exact ⟨rfl, rfl⟩
  · by_cases c2 : c < 97
    · have c3 : 57 < c := by omega
      clear h
      go_enter Try.func31, Try.ntmps31
      go_wp2
      go_ret2
      exact ⟨rfl, rfl⟩
    · have c3 : 102 < c := by omega
      clear h
      go_enter Try.func31, Try.ntmps31
      go_wp2
      go_ret2
      exact ⟨rfl, rfl⟩

set_option maxHeartbeats 1000000 in
theorem read_any (s : ByteArray) (hs : s.size ≤ maxLen) (w : World) :
    Calls Try.prog 24 #[.string s] w fun e w' => e = .returned (.tuple #[.int .u32 (rdv s.data.toList), .bool (goodL s.data.toList)]) ∧ w' = w := by
  unfold maxLen at hs
  by_cases h8 : s.size = 8
  · go_enter Try.func24, Try.ntmps24
    go_wp2
    go_loop [4, 11] (fun av iv => ∃ k : Nat, k ≤ 8 ∧ iv = .int .i64 k ∧ (∀ c ∈ s.data.toList.take k, isHex (c.toNat : Int) = true) ∧ av = .int .u32 (valL (s.data.toList.take k))) (fun _ iv => 8 - (intOf iv).toNat)
    case atStart => exact ⟨0, by omega, rfl, by simp, rfl⟩
    case round =>
      obtain ⟨k, hk, rfl, hall, rfl⟩ := hrel
      by_cases hlt : k < 8
      · have hks : k < s.size := by omega
        have hb : 0 ≤ (s[k].toNat : Int) ∧ (s[k].toNat : Int) ≤ 255 := by have := s[k].toNat_lt; omega
        have hv := valL_lo k (s.data.toList.take k) (by simp; omega) hall
        have hv7 : (16 : Int) ^ k ≤ 16 ^ 7 := by
          exact_mod_cast Nat.pow_le_pow_right (by omega) (show k ≤ 7 by omega)
        have hts := take_snoc s k hks
        have HT : Hid (s.data.toList.take (k + 1) = s.data.toList.take k ++ [s[k]]) := hts
        have HA : Hid (∀ c ∈ s.data.toList.take k, isHex (c.toNat : Int) = true) := hall
        obtain ⟨v, hV⟩ : ∃ v, valL (s.data.toList.take k) = v := ⟨_, rfl⟩
        rw [hV] at hv ⊢
        have HV : Hid (valL (s.data.toList.take k) = v) := hV
        have hv0 := hv.1
        have hv1 : v < 268435456 := Int.lt_of_lt_of_le hv.2 hv7
        clear hts hV hv hv7 hall
        cases hx : isHex (s[k].toNat : Int)
        · go_wp2_with (go_at_call 31; refine (hexv_no _ hb.1 hb.2 hx _).mono ?_; rintro e w' ⟨rfl, rfl⟩)
          go_ret2
          have hg : goodL s.data.toList = false := goodL_bad _ s[k] (mem_of_at s k hks) hx
          exact ⟨ret_ib (rdv_no _ hg).symm hg.symm, rfl⟩
        · have hd := digI_lo _ hx
          have e1 : IntKind.u32.wrap (v * 16) = v * 16 := by rw [IntKind.wrap_u32']; omega
          have e2 := or_digit (v * 16) (digI (s[k].toNat : Int)) (by omega) (by omega) (by omega) hd.1 hd.2
          go_wp2_with (go_at_call 31; refine (hexv_yes _ hb.1 hb.2 hx _).mono ?_; rintro e w' ⟨rfl, rfl⟩)
          go_round
          case rel =>
            refine ⟨k + 1, by omega, by go_num, ?_, by rw [HT.out, valL_snoc, HV.out]⟩
            rw [HT.out]
            intro c hc
            rw [List.mem_append] at hc
            rcases hc with hc | hc
            · exact HA.out c hc
            · simp at hc; subst hc; exact hx
          case measure => simp [intOf]; omega
      · obtain rfl : k = 8 := by omega
        have hl : s.data.toList.take 8 = s.data.toList := List.take_of_length_le (by simp; exact Nat.le_of_eq h8)
        rw [hl] at hall ⊢
        have hg : goodL s.data.toList = true := goodL_of _ (by simpa using h8) hall
        clear hall hl
        go_wp2
        go_ret2
        exact ⟨ret_ib (rdv_yes _ hg).symm rfl, rfl⟩
  · have hg : goodL s.data.toList = false := goodL_len _ (by simpa using h8)
    rw [rdv_no _ hg, hg]
    have h8' : ((s.size : Int) == 8) = false := by simpa using by omega
    clear h8 hg
    go_enter Try.func24, Try.ntmps24
    go_wp2
    go_ret2
    exact ⟨rfl, rfl⟩

end Go.Proofs.Ytblaokffocegiaa
