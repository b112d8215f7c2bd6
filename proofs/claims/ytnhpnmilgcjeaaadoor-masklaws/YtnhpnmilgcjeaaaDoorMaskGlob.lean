import Derived.Test.YtnhpnmilgcjeaaaDoorMaskMatch
import Derived.Test.YtnhpnmilgcjeaaaDoorMaskGreedy
/- Package mask: fits, find. -/
namespace Go.Proofs.YtnhpnmilgcjeaaaDoor
open Go.RowKit
set_option linter.unusedVariables false
set_option linter.unusedSimpArgs false

theorem gs_any (s : ByteArray) (k : Nat) (h : k < s.size) : ∃ b : UInt8, s[k] = b ∧ (gs s)[k]? = some b := ⟨_, rfl, gs_at s k h⟩

set_option maxHeartbeats 1000000 in
theorem mfits_any (p t : ByteArray) (hp : p.size ≤ 1152921504606846975) (ht : t.size ≤ 1152921504606846975) (w : World) :
    Calls Tryd.prog 19 #[.string p, .string t] w fun e w' => e = .returned (.bool (fitsG (gs p) (gs t))) ∧ Below w.heap.size w w' := by
  obtain ⟨F, hF⟩ : ∃ F, fitsG (gs p) (gs t) = F := ⟨_, rfl⟩
  rw [hF]
  have hat := fits_at (gs p) (gs t)
  rw [hF, gs_length, gs_length] at hat
  clear hF
  by_cases hsz : p.size = t.size
  · have HAT : Hid (F = true ↔ ∀ i, i < p.size → (gs p)[i]? = some 63 ∨ (gs p)[i]? = (gs t)[i]?) := by
      refine hat.trans ⟨fun h => h.2, fun h => ⟨hsz, h⟩⟩
    clear hat
    obtain ⟨N, hN⟩ : ∃ N, p.size = N := ⟨_, rfl⟩
    have hM : t.size = N := by omega
    have hpN : (p.size : Int) = N := by omega
    have htN : (t.size : Int) = N := by omega
    go_enter Tryd.func19, Tryd.ntmps19
    go_wp2
    go_loopw [13] (fun iv wr => Below w.heap.size w wr ∧ ∃ j : Nat, j ≤ N ∧ iv = .int .i64 j ∧ Hid (∀ i, i < j → (gs p)[i]? = some 63 ∨ (gs p)[i]? = (gs t)[i]?)) (fun iv _ => N - (intOf iv).toNat)
    case atStart => exact ⟨Below.refl _ _, 0, Nat.zero_le _, rfl, fun i h => absurd h (Nat.not_lt_zero i)⟩
    case round =>
      obtain ⟨hb, j, hj, rfl, HJ⟩ := hrel
      by_cases hlt : j < N
      · have i1 : (0 : Int) ≤ (j : Int) := by omega
        have i2 : (j : Int) < (p.size : Int) := by omega
        have i3 : (j : Int) < (t.size : Int) := by omega
        have i4 : (j : Int) < (N : Int) := by omega
        have hgp := gs_at p j (by omega)
        have hgt := gs_at t j (by omega)
        by_cases hq : (p[j].toNat : Int) = 63
        · have hq' : ((p[j].toNat : Int) == 63) = true := by simpa using hq
          have HN : Hid (∀ i, i < j + 1 → (gs p)[i]? = some 63 ∨ (gs p)[i]? = (gs t)[i]?) := fun i hi => by
            by_cases e : i = j
            · subst e; left; rw [hgp, byte_of hq]; rfl
            · exact HJ.out i (by omega)
          clear hgp hgt HJ
          go_wp2
          go_quiet (fail)
          go_wp2
          go_roundw
          case rel => exact ⟨mbel hb (mbel_dn _ _), j + 1, by omega, by go_num, HN.out⟩
          case measure => simp [intOf]; omega
        · have hq' : ((p[j].toNat : Int) == 63) = false := by simpa using hq
          have hq1 : (gs p)[j]? ≠ some 63 := by
            rw [hgp]
            intro e
            apply hq
            rw [Option.some.inj e]; rfl
          by_cases he : (p[j].toNat : Int) = (t[j].toNat : Int)
          · have he' : ((p[j].toNat : Int) == (t[j].toNat : Int)) = true := by simpa using he
            have HN : Hid (∀ i, i < j + 1 → (gs p)[i]? = some 63 ∨ (gs p)[i]? = (gs t)[i]?) := fun i hi => by
              by_cases e : i = j
              · subst e; right; rw [hgp, hgt]
                congr 1
                exact UInt8.toNat.inj (by omega)
              · exact HJ.out i (by omega)
            have hq2 : ((t[j].toNat : Int) == 63) = false := by rw [← he]; exact hq'
            have hq3 : ((t[j].toNat : Int) != 63) = true := by rw [bne, hq2]; rfl
            clear hgp hgt HJ hq1 hq hq'
            go_wp2
            go_quiet (fail)
            go_wp2
            go_roundw
            case rel => exact ⟨mbel hb (mbel_dn _ _), j + 1, by omega, by go_num, HN.out⟩
            case measure => simp [intOf]; omega
          · have he' : ((p[j].toNat : Int) == (t[j].toNat : Int)) = false := by simpa using he
            have HN : Hid (F = false) := by
              show F = false
              rcases Bool.eq_false_or_eq_true F with e | e
              · exfalso
                rcases HAT.out.1 e j (by omega) with h | h
                · exact hq1 h
                · rw [hgp, hgt] at h
                  exact he (by rw [Option.some.inj h])
              · exact e
            have hq3 : ((p[j].toNat : Int) != 63) = true := by rw [bne, hq']; rfl
            have he3 : ((p[j].toNat : Int) != (t[j].toNat : Int)) = true := by rw [bne, he']; rfl
            clear hgp hgt HJ hq1 HAT
            go_wp2
            go_quiet (fail)
            go_wp2
            go_ret
            exact ⟨mret_bool HN.out.symm, mbel hb (mbel_dn _ _)⟩
      · have : j = N := by omega
        subst this
        have HN : Hid (F = true) := HAT.out.2 fun i hi => HJ.out i (by omega)
        clear HJ HAT
        go_wp2
        go_ret
        exact ⟨mret_bool HN.out.symm, hb⟩
  · have HN : Hid (F = false) := by
      show F = false
      rcases Bool.eq_false_or_eq_true F with e | e
      · exact absurd (hat.1 e).1 hsz
      · exact e
    clear hat
    have hs1 : ((p.size : Int) == (t.size : Int)) = false := by
      have : ¬ ((p.size : Int) = (t.size : Int)) := by omega
      simpa using this
    go_enter Tryd.func19, Tryd.ntmps19
    go_wp2
    go_ret
    exact ⟨mret_bool HN.out.symm, Below.refl _ _⟩

/- Where a piece is found first. -/
set_option maxHeartbeats 1000000 in
theorem mfind_any (p t : ByteArray) (hp : p.size ≤ 1152921504606846975) (ht : t.size ≤ 1152921504606846975) (w : World) :
    Calls Tryd.prog 21 #[.string p, .string t] w fun e w' => ((∃ a : Nat, e = .returned (.tuple #[.int .i64 a, .bool true]) ∧ FitAt (gs p) (gs t) a ∧ ∀ j, j < a → ¬ FitAt (gs p) (gs t) j) ∨ (e = .returned (.tuple #[.int .i64 0, .bool false]) ∧ ∀ j, ¬ FitAt (gs p) (gs t) j)) ∧ Below w.heap.size w w' := by
  obtain ⟨N, hN⟩ : ∃ N, p.size = N := ⟨_, rfl⟩
  obtain ⟨M, hM⟩ : ∃ M, t.size = M := ⟨_, rfl⟩
  have hpN : (p.size : Int) = N := by omega
  have htM : (t.size : Int) = M := by omega
  have HF : Hid (∀ a, FitAt (gs p) (gs t) a ↔ a + N ≤ M ∧ fitsG (gs p) (gs (t.extract a (a + N))) = true) := fun a => by
    unfold FitAt
    rw [gs_length, gs_length, gx_extract, hN, hM, List.drop_take, show a + N - a = N by omega]
  have HK : Hid (∀ (a : Nat) (v : World), Calls Tryd.prog 19 #[.string p, .string (t.extract a (a + N))] v fun e w' => e = .returned (.bool (fitsG (gs p) (gs (t.extract a (a + N))))) ∧ Below v.heap.size v w') := fun a v => mfits_any p _ hp (by rw [ByteArray.size_extract]; omega) v
  obtain ⟨FA, hFA⟩ : ∃ FA, FitAt (gs p) (gs t) = FA := ⟨_, rfl⟩
  rw [hFA] at HF ⊢
  clear hFA
  go_enter Tryd.func21, Tryd.ntmps21
  go_wp2
  go_loopw [6] (fun iv wr => Below w.heap.size w wr ∧ ∃ j : Nat, j ≤ M + 1 ∧ iv = .int .i64 j ∧ Hid (∀ i, i < j → ¬ FA i)) (fun iv _ => M + 1 - (intOf iv).toNat)
  case atStart => exact ⟨Below.refl _ _, 0, Nat.zero_le _, rfl, fun i h => absurd h (Nat.not_lt_zero i)⟩
  case round =>
    obtain ⟨hb, j, hj, rfl, HJ⟩ := hrel
    have hw1 : IntKind.i64.wrap ((j : Int) + (N : Int)) = (j : Int) + (N : Int) := by rw [IntKind.wrap_i64]; omega
    have j0 : (0 : Int) ≤ (j : Int) := by omega
    by_cases hlt : j + N ≤ M
    · have i1 : (j : Int) + (N : Int) ≤ (M : Int) := by omega
      have i2 : (j : Int) ≤ (j : Int) + (N : Int) := by omega
      have i3 : (0 : Int) ≤ (j : Int) + (N : Int) := by omega
      have i4 : (j : Int) + (N : Int) ≤ (t.size : Int) := by omega
      have hfa := HF.out j
      have hk := HK.out j wr
      obtain ⟨X, hX⟩ : ∃ X, fitsG (gs p) (gs (t.extract j (j + N))) = X := ⟨_, rfl⟩
      rw [hX] at hfa hk
      obtain ⟨T, hT⟩ : ∃ T, t.extract j (j + N) = T := ⟨_, rfl⟩
      rw [hT] at hk
      have HK1 : Hid (Calls Tryd.prog 19 #[.string p, .string T] wr fun e w' => e = .returned (.bool X) ∧ Below wr.heap.size wr w') := hk
      cases X
      · have HN : Hid (∀ i, i < j + 1 → ¬ FA i) := fun i hi => by
          by_cases e : i = j
          · subst e; intro h; have := (hfa.1 h).2; simp at this
          · exact HJ.out i (by omega)
        clear HK HF hfa hk HJ hX
        go_wp2_with (go_at_call 19; refine HK1.out.mono ?_; rintro e w1 ⟨rfl, hb1⟩)
        go_roundw
        case rel => exact ⟨mbel hb hb1, j + 1, by omega, by go_num, HN.out⟩
        case measure => simp [intOf]; omega
      · have HN : Hid (FA j) := hfa.2 ⟨hlt, rfl⟩
        clear HK HF hfa hk hX
        go_wp2_with (go_at_call 19; refine HK1.out.mono ?_; rintro e w1 ⟨rfl, hb1⟩)
        go_ret2
        exact ⟨.inl ⟨j, rfl, HN.out, HJ.out⟩, mbel hb hb1⟩
    · have i1 : ¬ ((j : Int) + (N : Int) ≤ (M : Int)) := by omega
      have HN : Hid (∀ j, ¬ FA j) := fun i hi => by
        have := ((HF.out i).1 hi).1
        exact HJ.out i (by omega) hi
      clear HK HF HJ
      go_wp2
      go_ret2
      exact ⟨.inr ⟨rfl, HN.out⟩, hb⟩

end Go.Proofs.YtnhpnmilgcjeaaaDoor
