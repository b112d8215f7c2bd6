import Derived.Test.YtblaokffocegiaaHexWalks
import Derived.Deep.QuietTactic
import Derived.BigQuiet
/- The walk of the reference's Read. -/
namespace Go.Proofs.Ytblaokffocegiaa
open Go.RowKit
set_option linter.unusedVariables false

set_option maxHeartbeats 1000000 in
theorem rread_any (s : ByteArray) (hs : s.size ≤ maxLen) (w : World) :
    Calls Try.prog 25 #[.string s] w fun e w' => e = .returned (.tuple #[.int .i64 (rdv s.data.toList), .bool (goodL s.data.toList)]) ∧ Below w.heap.size w w' := by
  unfold maxLen at hs
  by_cases h8 : s.size = 8
  · go_enter Try.func25, Try.ntmps25
    go_wp2
    go_loopw [4, 5] (fun av iv wr => Below w.heap.size w wr ∧ ∃ k : Nat, k ≤ 8 ∧ iv = .int .i64 k ∧ (∀ c ∈ s.data.toList.take k, isHex (c.toNat : Int) = true) ∧ av = .int .i64 (valL (s.data.toList.take k))) (fun _ iv _ => 8 - (intOf iv).toNat)
    case atStart => exact ⟨Below.refl _ _, 0, by omega, rfl, by simp, rfl⟩
    case round =>
      obtain ⟨hbel, k, hk, rfl, hall, rfl⟩ := hrel
      by_cases hlt : k < 8
      · have hks : k < s.size := by omega
        have hv := valL_lo k (s.data.toList.take k) (by simp; omega) hall
        have hv7 : (16 : Int) ^ k ≤ 16 ^ 7 := by
          exact_mod_cast Nat.pow_le_pow_right (by omega) (show k ≤ 7 by omega)
        have hts := take_snoc s k hks
        have HT : Hid (s.data.toList.take (k + 1) = s.data.toList.take k ++ [s[k]]) := hts
        have HA : Hid (∀ c ∈ s.data.toList.take k, isHex (c.toNat : Int) = true) := hall
        obtain ⟨v, hV⟩ : ∃ v, valL (s.data.toList.take k) = v := ⟨_, rfl⟩
        rw [hV] at hv ⊢
        have HV : Hid (valL (s.data.toList.take k) = v) := hV
        have hv0 := hv.1
        have hv1 : v < 268435456 := Int.lt_of_lt_of_le hv.2 hv7
        clear hts hV hv hv7 hall
        have HB : Hid (Below w.heap.size w wr) := hbel
        clear hbel
        obtain ⟨wo, hwo⟩ : ∃ wo : World, wo = wr := ⟨_, rfl⟩
        subst hwo
        go_wp2
        go_loopw [6, 7] (fun tv jv wr => Below w.heap.size w wr ∧ ∃ j : Nat, j ≤ 16 ∧ jv = .int .i64 j ∧ tv = .int .i64 (atI (s[k].toNat : Int) j)) (fun _ jv _ => 16 - (intOf jv).toNat)
        case atStart => exact ⟨HB.out, 0, by omega, rfl, by rw [atI_0]⟩
        case round =>
          obtain ⟨hbel, j, hj, rfl, rfl⟩ := hrel
          by_cases hjt : j < 16
          · go_wp2
            go_quiet (fail)
            go_wp2
            · have heq : (((hexD[j]'hjt).toNat : Int) == (s[k].toNat : Int)) = true := by assumption
              rw [hexD_get j hjt, beq_iff_eq] at heq
              go_roundw
              case rel => exact ⟨hbel.trans ⟨rfl, rfl, rfl, Nat.le_refl _, fun _ _ => rfl⟩, j + 1, by omega, by go_num, by rw [atI_hit _ j hjt heq]⟩
              case measure => simp [intOf]; omega
            · have heq : (((hexD[j]'hjt).toNat : Int) == (s[k].toNat : Int)) = false := by assumption
              rw [hexD_get j hjt, beq_eq_false_iff_ne] at heq
              go_roundw
              case rel => exact ⟨hbel.trans ⟨rfl, rfl, rfl, Nat.le_refl _, fun _ _ => rfl⟩, j + 1, by omega, by go_num, by rw [atI_miss _ j hjt heq]⟩
              case measure => simp [intOf]; omega
          · obtain rfl : j = 16 := by omega
            cases hx : isHex (s[k].toNat : Int)
            · have ha := atI_16_no _ hx
              go_wp2
              go_ret2
              have hg : goodL s.data.toList = false := goodL_bad _ s[k] (mem_of_at s k hks) hx
              exact ⟨ret_ib (rdv_no _ hg).symm hg.symm, hbel⟩
            · have ha := atI_16_yes _ hx
              have hd := digI_lo _ hx
              go_wp2
              go_roundw
              case rel =>
                refine ⟨hbel, k + 1, by omega, by go_num, ?_, by rw [HT.out, valL_snoc, HV.out]⟩
                rw [HT.out]
                intro c hc
                rw [List.mem_append] at hc
                rcases hc with hc | hc
                · exact HA.out c hc
                · simp at hc; subst hc; exact hx
              case measure => simp [intOf]; omega
      · obtain rfl : k = 8 := by omega
        have hl : s.data.toList.take 8 = s.data.toList := List.take_of_length_le (by simp; exact Nat.le_of_eq h8)
        rw [hl] at hall ⊢
        have hg : goodL s.data.toList = true := goodL_of _ (by simpa using h8) hall
        clear hall hl
        go_wp2
        go_ret2
        exact ⟨ret_ib (rdv_yes _ hg).symm hg.symm, hbel⟩
  · have hg : goodL s.data.toList = false := goodL_len _ (by simpa using h8)
    rw [rdv_no _ hg, hg]
    have h8' : ((s.size : Int) == 8) = false := by simpa using by omega
    clear h8 hg
    go_enter Try.func25, Try.ntmps25
    go_wp2
    go_ret2
    exact ⟨rfl, Below.refl _ _⟩

end Go.Proofs.Ytblaokffocegiaa
