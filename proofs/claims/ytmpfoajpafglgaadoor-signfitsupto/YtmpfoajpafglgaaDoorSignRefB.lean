import Derived.Test.YtmpfoajpafglgaaDoorSignRefA
/- The reference: Check, Fits. -/
namespace Go.Proofs.YtmpfoajpafglgaaDoor
open Go.RowKit
set_option linter.unusedVariables false
set_option linter.unusedSimpArgs false

theorem find_lt {s : ByteArray} : ∀ {l : List Par} {k : Nat}, findP s l = some k → k < l.length ∧ ∀ h : k < l.length, l[k].name = s
  | [], k, h => by cases h
  | p :: r, k, h => by
    simp only [findP] at h
    split at h
    · rename_i e
      cases h
      exact ⟨by simp, fun _ => e⟩
    · cases hf : findP s r with
      | none => rw [hf] at h; cases h
      | some m =>
        rw [hf] at h
        cases h
        obtain ⟨h1, h2⟩ := find_lt hf
        exact ⟨by simp; exact h1, fun _ => by simp only [List.getElem_cons_succ]; exact h2 h1⟩
theorem find_le {s : ByteArray} : ∀ {l : List Par} {i : Nat} (h : i < l.length), l[i].name = s → ∃ k, findP s l = some k ∧ k ≤ i
  | [], i, h, _ => absurd h (Nat.not_lt_zero _)
  | p :: r, i, h, e => by
    simp only [findP]
    split
    · exact ⟨0, rfl, Nat.zero_le _⟩
    · rename_i hp
      cases i with
      | zero => exact absurd e hp
      | succ i =>
        obtain ⟨k, hk, hki⟩ := find_le (l := r) (i := i) (by simpa using h) (by simpa using e)
        exact ⟨k + 1, by rw [hk]; rfl, by omega⟩
/-- Where it stands first is not here: it stands twice. -/
theorem twice_of {l : List Par} {i : Nat} (h : i < l.length) (hk : (findP l[i].name l).getD 0 ≠ i) : twiceP l = true := by
  obtain ⟨k, hk1, hk2⟩ := find_le (l := l) h rfl
  rw [hk1] at hk
  obtain ⟨h1, h2⟩ := find_lt hk1
  have hne : k ≠ i := hk
  exact twice_iff.2 ⟨i, k, h, h1, by omega, h2 h1⟩
theorem once_of {l : List Par} (h : ∀ i (h : i < l.length), (findP l[i].name l).getD 0 = i) : twiceP l = false := by
  cases ht : twiceP l
  · rfl
  · obtain ⟨i, j, hi, hj, hji, e⟩ := twice_iff.1 ht
    obtain ⟨k, hk, hkj⟩ := find_le (s := l[i].name) hj e
    have := h i hi
    rw [hk] at this
    have : k = i := this
    omega

set_option maxRecDepth 100000 in
set_option maxHeartbeats 2000000 in
theorem rCheck_any (v : Value) (l : List Par) (hl : l.length ≤ 140737488351232) (hM : ∀ p ∈ l, p.name.size ≤ 140737488351232) (w : World) (hr : Rd w v l) :
    Calls Tryd.prog 12 #[v] w fun e w' => e = .returned (.int .i64 (checkP l)) ∧ Below w.heap.size w w' := by
  have KT : Hid (∀ w, Rd w v l → Calls Tryd.prog 14 #[v] w fun e w' => e = .returned (.int .i64 (totP l)) ∧ Below w.heap.size w w') := fun w h => rTotal_any v l hl hM w h
  have KF : Hid (∀ w s, Rd w v l → Calls Tryd.prog 10 #[v, .string s] w fun e w' => e = .returned (.tuple #[.int .i64 ((findP s l).getD 0 : Nat), .bool (findP s l).isSome]) ∧ w' = w) := fun w s h => rFind_any v l hl s w h
  have HRD : Hid (Rd w v l) := hr
  obtain ⟨p, c, rfl, hr⟩ := hr
  obtain ⟨n, hn⟩ : ∃ n, l.length = n := ⟨_, rfl⟩
  have HN : Hid (l.length = n) := hn
  have HR : Hid (Row w p l) := hr
  have HM : Hid (∀ p ∈ l, p.name.size ≤ 140737488351232) := hM
  have HC : Hid (checkP l = if n > 64 then 2 else if l.all mayP = false then 100 else if twiceP l then 101 else if totP l > 65536 then 102 else 0) := by
    show _ = _
    unfold checkP
    rw [hn]
  rw [hn] at hl HRD KT KF ⊢
  clear hn hr hM
  by_cases h64 : n ≤ 64
  · have h64' : ¬ (64 : Int) < (n : Int) := by omega
    have hng : ¬ n > 64 := by omega
    have HC2 : Hid (checkP l = if l.all mayP = false then 100 else if twiceP l then 101 else if totP l > 65536 then 102 else 0) := by show _ = _; rw [HC.out, if_neg hng]
    clear HC hng
    go_enter Tryd.func12, Tryd.ntmps12
    go_wp2
    go_loopw [3] (fun iv wr => Below w.heap.size w wr ∧ ∃ j : Nat, j ≤ n ∧ iv = .int .i64 j ∧ Hid (∀ i (h : i < l.length), i < j → mayP l[i] = true)) (fun iv _ => n - (intOf iv).toNat)
    case atStart => exact ⟨bel0 w, 0, Nat.zero_le _, rfl, fun i h hi => absurd hi (Nat.not_lt_zero _)⟩
    case round =>
      obtain ⟨hb, j, hj, rfl, hp⟩ := hrel
      by_cases hlt : j < n
      · have hll : j < l.length := by rw [HN.out]; exact hlt
        obtain ⟨b, o, rfl, hx⟩ := HR.out.at hll
        obtain ⟨x0, x1, x2⟩ := hx.below hb
        have i1 : (0 : Int) ≤ (j : Int) := by omega
        have i2 : (j : Int) < (n : Int) := by omega
        have KM := rMay_any l[j] (HM.out _ (List.getElem_mem hll))
        unfold pv at KM
        have HA : Hid (mayP l[j] = false → l.all mayP = false) := fun h => List.all_eq_false.2 ⟨l[j], List.getElem_mem hll, by rw [h]; decide⟩
        have HB : Hid (mayP l[j] = true → ∀ i (h : i < l.length), i < j + 1 → mayP l[i] = true) := fun hq i h hi => by
          by_cases e : i = j
          · subst e; exact hq
          · exact hp.out i h (by omega)
        obtain ⟨M, hMM⟩ : ∃ M, mayP l[j] = M := ⟨_, rfl⟩
        rw [hMM] at KM HA HB
        have HK : Hid (∀ w, Calls Tryd.prog 28 #[.agg #[.string l[j].name, .int .i64 l[j].kind, .int .i64 l[j].len]] w fun e w' => e = .returned (.bool M) ∧ Below w.heap.size w w') := KM
        clear KM hMM hx hp
        cases M
        · have HA2 : Hid (checkP l = 100) := by show _ = _; rw [HC2.out, if_pos (HA.out rfl)]
          clear HA HB
          go_wp2_with (go_at_call 28; refine (HK.out _).mono ?_; rintro e w1 ⟨rfl, hb1⟩)
          go_ret
          exact ⟨ret_int HA2.out.symm, bel hb hb1⟩
        · have HB2 : Hid (∀ i (h : i < l.length), i < j + 1 → mayP l[i] = true) := HB.out rfl
          clear HA HB
          go_wp2_with (go_at_call 28; refine (HK.out _).mono ?_; rintro e w1 ⟨rfl, hb1⟩)
          go_roundw
          case rel => exact ⟨bel hb hb1, j + 1, by omega, by go_num, HB2.out⟩
          case measure => simp [intOf]; omega
      · have : j = n := by omega
        subst this
        have hall : l.all mayP = true := List.all_eq_true.2 fun q hq => by
          obtain ⟨i, hi, rfl⟩ := List.mem_iff_getElem.1 hq
          exact hp.out i hi (by rw [← HN.out]; exact hi)
        have HC3 : Hid (checkP l = if twiceP l then 101 else if totP l > 65536 then 102 else 0) := by show _ = _; rw [HC2.out, if_neg (by rw [hall]; decide)]
        clear hp hall HC2
        go_wp2
        go_loopw [4] (fun iv wr => Below w.heap.size w wr ∧ ∃ i : Nat, i ≤ j ∧ iv = .int .i64 i ∧ Hid (∀ k (h : k < l.length), k < i → (findP l[k].name l).getD 0 = k)) (fun iv _ => j - (intOf iv).toNat)
        case atStart => exact ⟨hb, 0, Nat.zero_le _, rfl, fun i h hi => absurd hi (Nat.not_lt_zero _)⟩
        case round =>
          obtain ⟨hb', i, hi, rfl, hp⟩ := hrel
          by_cases hlt' : i < j
          · have hll : i < l.length := by rw [HN.out]; exact hlt'
            obtain ⟨b, o, rfl, hx⟩ := HR.out.at hll
            obtain ⟨x0, x1, x2⟩ := hx.below hb'
            have i1 : (0 : Int) ≤ (i : Int) := by omega
            have i2 : (i : Int) < (j : Int) := by omega
            have K1 := KF.out _ l[i].name (HRD.out.below hb')
            have hlo := find_le (l := l) hll rfl
            obtain ⟨k0, hk0, hk1⟩ := hlo
            have T1 := twice_of (l := l) hll
            rw [hk0] at K1 T1
            have HP0 : Hid ((findP l[i].name l).getD 0 = k0) := by show _ = _; rw [hk0]; rfl
            simp only [Option.getD_some, Option.isSome_some] at K1 T1
            have HK : Hid (Calls Tryd.prog 10 #[.slice (some ⟨b, o, none⟩) j c, .string l[i].name] _ fun e w' => e = .returned (.tuple #[.int .i64 (k0 : Int), .bool true]) ∧ w' = _) := K1
            clear K1 hk0 hx
            by_cases hki : k0 = i
            · have HB2 : Hid (∀ k (h : k < l.length), k < i + 1 → (findP l[k].name l).getD 0 = k) := fun k h hk => by
                by_cases e : k = i
                · subst e; rw [HP0.out, hki]
                · exact hp.out k h (by omega)
              subst hki
              clear T1 hp HP0
              go_wp2_with (go_at_call 10; refine HK.out.mono ?_; rintro e w1 ⟨rfl, rfl⟩)
              go_roundw
              case rel => exact ⟨hb', k0 + 1, by omega, by go_num, HB2.out⟩
              case measure => simp [intOf]; omega
            · have HA2 : Hid (checkP l = 101) := by show _ = _; rw [HC3.out, if_pos (T1 hki)]
              have hne : ((k0 : Int) == (i : Int)) = false := by rw [beq_eq_false_iff_ne]; omega
              have hne' : ((k0 : Int) != (i : Int)) = true := by rw [bne, hne]; rfl
              clear T1 hp HP0
              go_wp2_with (go_at_call 10; refine HK.out.mono ?_; rintro e w1 ⟨rfl, rfl⟩)
              go_ret
              exact ⟨ret_int HA2.out.symm, hb'⟩
          · have : i = j := by omega
            subst this
            have hon : twiceP l = false := once_of fun k h => hp.out k h (by rw [← HN.out]; exact h)
            have HC4 : Hid (checkP l = if totP l > 65536 then 102 else 0) := by show _ = _; rw [HC3.out, hon]; rfl
            have K1 := KT.out _ (HRD.out.below hb')
            obtain ⟨T, hT⟩ : ∃ T, totP l = T := ⟨_, rfl⟩
            rw [hT] at HC4 K1
            have HK : Hid (Calls Tryd.prog 14 #[.slice p i c] _ fun e w' => e = .returned (.int .i64 T) ∧ Below _ _ w') := K1
            clear K1 hT hp hon HC3
            by_cases h6 : T > 65536
            · have HC5 : Hid (checkP l = 102) := by show _ = _; rw [HC4.out, if_pos h6]
              have h6' : (65536 : Int) < T := h6
              clear HC4
              go_wp2_with (go_at_call 14; refine HK.out.mono ?_; rintro e w1 ⟨rfl, hb1⟩)
              go_ret
              exact ⟨ret_int HC5.out.symm, bel hb' hb1⟩
            · have HC5 : Hid (checkP l = 0) := by show _ = _; rw [HC4.out, if_neg h6]
              have h6' : ¬ (65536 : Int) < T := h6
              clear HC4
              go_wp2_with (go_at_call 14; refine HK.out.mono ?_; rintro e w1 ⟨rfl, hb1⟩)
              go_ret
              exact ⟨ret_int HC5.out.symm, bel hb' hb1⟩
  · have h64' : (64 : Int) < (n : Int) := by omega
    have HC2 : Hid (checkP l = 2) := by show _ = _; rw [HC.out, if_pos (by omega)]
    clear HC
    go_enter Tryd.func12, Tryd.ntmps12
    go_wp2
    go_ret
    exact ⟨ret_int HC2.out.symm, bel0 _⟩

end Go.Proofs.YtmpfoajpafglgaaDoor
