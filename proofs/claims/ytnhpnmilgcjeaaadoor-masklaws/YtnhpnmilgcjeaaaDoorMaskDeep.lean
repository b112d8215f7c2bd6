import Derived.Test.YtnhpnmilgcjeaaaDoorMaskGlobM
import Derived.Test.YtnhpnmilgcjeaaaDoorMaskSet
/- Package mask: isDeeper, meansOne, takes, judge. -/
namespace Go.Proofs.YtnhpnmilgcjeaaaDoor
open Go.RowKit
set_option linter.unusedVariables false
set_option linter.unusedSimpArgs false

/-- A node's cells, its kids' slice opened. -/
theorem node_open {w : World} {b o : Nat} {t : Nd} (h : NodeA w anyH b o t) : ∃ p c,
    (w.cell? ⟨b, o, none⟩ = some (.int .i64 t.kind) ∧ w.cell? ⟨b, o + 1, none⟩ = some (.string t.name) ∧ w.cell? ⟨b, o + 4, none⟩ = some (.string t.key) ∧ w.cell? ⟨b, o + 5, none⟩ = some (.slice p t.args.length c) ∧ w.cell? ⟨b, o + 6, none⟩ = some (.int .i64 t.at_))
    ∧ ∀ j (hj : j < t.args.length), ∃ b1 o1, p = some ⟨b1, o1, none⟩ ∧ NodeA w anyH b1 (o1 + j * 7) t.args[j] := by
  obtain ⟨h0, h1, h2, h3, h4, h6, sv, h5, hk⟩ := h
  obtain ⟨p, c, rfl, -, hk⟩ := hk
  refine ⟨p, c, ⟨h0, h1, h4, h5, h6⟩, fun j hj => ?_⟩
  rcases hk with hk | ⟨b1, o1, hp, hk⟩
  · rw [hk] at hj; exact absurd hj (Nat.not_lt_zero _)
  · exact ⟨b1, o1, hp, KA_get hk hj⟩

def DeepTo (k : Nat) : Prop := ∀ (t : Nd) (b o : Nat) (w : World), t.args.length ≤ 40000 → (∀ j (hj : j < t.args.length), cnt t.args[j] ≤ 40000) → NodeA w anyH b o t →
  Calls Tryd.prog 23 #[.pointer (some ⟨b, o, none⟩), .int .i64 k] w fun e w' => e = .returned (.bool (decide (k < dep t))) ∧ Below w.heap.size w w'
set_option maxRecDepth 100000 in
set_option maxHeartbeats 2000000 in
theorem deep_to : ∀ k, k ≤ 64 → DeepTo k := by
  intro k
  induction k with
  | zero =>
    intro _ t b o w hl hc h
    have hd : decide (0 < dep t) = true := by unfold dep; simp
    rw [hd]
    clear hl hc h
    go_enter Tryd.func23, Tryd.ntmps23
    go_wp2
    go_ret
    exact ⟨rfl, Below.refl _ _⟩
  | succ k ih =>
    intro hk64 t b o w hl hc h
    have HIH : Hid (DeepTo k) := ih (by omega)
    have hd : (decide (k + 1 < dep t)) = decide (k < depL t.args) := by unfold dep; simp
    rw [hd]
    obtain ⟨p, c, ⟨c0, c1, c4, c5, c6⟩, hkid⟩ := node_open h
    obtain ⟨n, hn⟩ : ∃ n, t.args.length = n := ⟨_, rfl⟩
    have HN : Hid (t.args.length = n) := hn
    rw [hn] at hl c5
    have HC : Hid (∀ j (hj : j < t.args.length), cnt t.args[j] ≤ 40000) := hc
    have HKD : Hid (∀ j (hj : j < t.args.length), ∃ b1 o1, p = some ⟨b1, o1, none⟩ ∧ NodeA w anyH b1 (o1 + j * 7) t.args[j]) := hkid
    have hk0 : ¬ (((k + 1 : Nat) : Int) = 0) := by omega
    have hk1 : ((((k + 1 : Nat) : Int)) == 0) = false := by simpa using hk0
    have hkw : IntKind.i64.wrap (((k + 1 : Nat) : Int) - 1) = (k : Int) := by rw [IntKind.wrap_i64]; omega
    obtain ⟨D, hD⟩ : ∃ D, (decide (k < depL t.args)) = D := ⟨_, rfl⟩
    have HD : Hid ((decide (k < depL t.args)) = D) := hD
    rw [hD]
    have C5 : Hid (w.cell? ⟨b, o + 5, none⟩ = some (.slice p n c)) := c5
    clear ih hd hn hc hkid c0 c1 c4 c6 h hD
    obtain ⟨kk, hkk⟩ : ∃ kk : Int, ((k + 1 : Nat) : Int) = kk := ⟨_, rfl⟩
    rw [hkk] at hk0 hk1 hkw ⊢
    clear hkk
    go_enter Tryd.func23, Tryd.ntmps23
    go_wp2
    clear c5
    go_loopw [13] (fun iv wr => Below w.heap.size w wr ∧ ∃ j : Nat, j ≤ n ∧ iv = .int .i64 j ∧ Hid (depL (t.args.take j) ≤ k)) (fun iv _ => n - (intOf iv).toNat)
    case atStart => exact ⟨Below.refl _ _, 0, Nat.zero_le _, rfl, by rw [List.take_zero, depL_nil]; exact Nat.zero_le _⟩
    case round =>
      obtain ⟨hb, j, hj, rfl, HJ⟩ := hrel
      have e5 := (hb.cell (mcell_lt C5.out)).trans C5.out
      clear hk0 hk1
      by_cases hlt0 : j < n
      · have hll : j < t.args.length := by rw [HN.out]; exact hlt0
        obtain ⟨b1, o1, rfl, hnd⟩ := HKD.out j hll
        have hkid := HIH.out t.args[j] b1 (o1 + j * 7) wr (by have := HC.out j hll; have := cntL_len t.args[j].args; unfold cnt at *; omega) (fun i hi => by have := HC.out j hll; have := cnt_get hi; unfold cnt at *; omega) (hnd.below hb)
        have ht := depL_take hll
        have i1 : (0 : Int) ≤ (j : Int) := by omega
        have i2 : (j : Int) < (n : Int) := by omega
        by_cases hdj : k < dep t.args[j]
        · rw [decide_eq_true hdj] at hkid
          have HC1 : Hid (Calls Tryd.prog 23 #[.pointer (some ⟨b1, o1 + j * 7, none⟩), .int .i64 k] wr fun e w' => e = .returned (.bool true) ∧ Below wr.heap.size wr w') := hkid
          have HT : Hid (D = true) := by
            show D = true
            rw [← HD.out, decide_eq_true_iff]
            have := dep_get hll
            omega
          clear hkid ht hnd HKD HIH HD HJ
          go_wp2_with (go_at_call 23; (with_reducible refine HC1.out.mono ?_); rintro e w3 ⟨rfl, hb3⟩)
          go_ret
          exact ⟨ret_bool HT.out.symm, bel hb hb3⟩
        · rw [decide_eq_false hdj] at hkid
          have HC1 : Hid (Calls Tryd.prog 23 #[.pointer (some ⟨b1, o1 + j * 7, none⟩), .int .i64 k] wr fun e w' => e = .returned (.bool false) ∧ Below wr.heap.size wr w') := hkid
          have HT : Hid (depL (t.args.take (j + 1)) ≤ k) := by
            show depL _ ≤ k
            have := HJ.out
            rw [ht]; omega
          clear hkid ht hnd HKD HIH HD HJ
          go_wp2_with (go_at_call 23; (with_reducible refine HC1.out.mono ?_); rintro e w3 ⟨rfl, hb3⟩)
          go_roundw
          case rel => exact ⟨bel hb hb3, j + 1, by omega, by go_num, HT.out⟩
          case measure => simp [intOf]; omega
      · have : j = n := by omega
        subst this
        have HT : Hid (D = false) := by
          show D = false
          rw [← HD.out, decide_eq_false_iff_not]
          have h1 := HJ.out
          rw [List.take_of_length_le (by rw [HN.out]; exact Nat.le_refl _)] at h1
          omega
        clear HKD HIH HD HJ
        go_wp2
        go_ret
        exact ⟨ret_bool HT.out.symm, hb⟩

set_option maxHeartbeats 1000000 in
theorem takes_any (X : ByteArray) (n : Nat) (hn : n ≤ 40000) (w : World) :
    Calls Tryd.prog 39 #[.string X, .int .i64 n] w fun e w' => e = .returned (.bool (okName X n)) ∧ w' = w := by
  obtain ⟨bA, bN, bR, bC, bT, bD, bO, eA, eN, eR, eC, eT, eD, eO, eok⟩ := ok_facts X n
  obtain ⟨OK, hOK⟩ : ∃ OK, okName X n = OK := ⟨_, rfl⟩
  rw [hOK] at eok ⊢
  have HEO : Hid (OK = (if bA || bN || bR || bC then n == 0 else if bT then n == 1 else if bD || bO then decide (1 ≤ n) else false)) := eok
  clear hOK eok
  cases bA
  · cases bN
    · cases bR
      · cases bC
        · cases bT
          · cases bD
            · cases bO
              all_goals
                go_enter Tryd.func39, Tryd.ntmps39
                go_wp2
                go_ret
                exact ⟨ret_bool (by rw [HEO.out]; first | rfl | (simp; done) | (rw [Bool.eq_iff_iff]; simp; done) | (rw [Bool.eq_iff_iff]; simp; omega)), rfl⟩
            · go_enter Tryd.func39, Tryd.ntmps39
              go_wp2
              go_ret
              exact ⟨ret_bool (by rw [HEO.out]; first | rfl | (simp; done) | (rw [Bool.eq_iff_iff]; simp; done) | (rw [Bool.eq_iff_iff]; simp; omega)), rfl⟩
          · go_enter Tryd.func39, Tryd.ntmps39
            go_wp2
            go_ret
            exact ⟨ret_bool (by rw [HEO.out]; first | rfl | (simp; done) | (rw [Bool.eq_iff_iff]; simp; done) | (rw [Bool.eq_iff_iff]; simp; omega)), rfl⟩
        · go_enter Tryd.func39, Tryd.ntmps39
          go_wp2
          go_ret
          exact ⟨ret_bool (by rw [HEO.out]; first | rfl | (simp; done) | (rw [Bool.eq_iff_iff]; simp; done) | (rw [Bool.eq_iff_iff]; simp; omega)), rfl⟩
      · go_enter Tryd.func39, Tryd.ntmps39
        go_wp2
        go_ret
        exact ⟨ret_bool (by rw [HEO.out]; first | rfl | (simp; done) | (rw [Bool.eq_iff_iff]; simp; done) | (rw [Bool.eq_iff_iff]; simp; omega)), rfl⟩
    · go_enter Tryd.func39, Tryd.ntmps39
      go_wp2
      go_ret
      exact ⟨ret_bool (by rw [HEO.out]; first | rfl | (simp; done) | (rw [Bool.eq_iff_iff]; simp; done) | (rw [Bool.eq_iff_iff]; simp; omega)), rfl⟩
  · go_enter Tryd.func39, Tryd.ntmps39
    go_wp2
    go_ret
    exact ⟨ret_bool (by rw [HEO.out]; first | rfl | (simp; done) | (rw [Bool.eq_iff_iff]; simp; done) | (rw [Bool.eq_iff_iff]; simp; omega)), rfl⟩

def anyP (ps : List Par) (g : ByteArray) : Bool := ps.any fun p => matchP (gs g) (gs p.name)
theorem anyP_take {ps : List Par} {g : ByteArray} {j : Nat} (h : j < ps.length) (h0 : (ps.take j).any (fun p => matchP (gs g) (gs p.name)) = false) (h1 : matchP (gs g) (gs ps[j].name) = false) : (ps.take (j + 1)).any (fun p => matchP (gs g) (gs p.name)) = false := by
  rw [gtake_succ h, List.any_append, h0]
  simp [h1]

set_option maxHeartbeats 1000000 in
theorem meansOne_any (g : ByteArray) (hg : g.size ≤ 1152921504606846975) (ps : List Par) (pp : Option Addr) (cc : Nat) (hml : ps.length ≤ 4398046510976) (hmn : ∀ q ∈ ps, q.name.size ≤ 140737488351232) (w : World) (hr : Row w pp ps) :
    Calls Tryd.prog 38 #[.string g, .slice pp ps.length cc] w fun e w' => e = .returned (.bool (anyP ps g)) ∧ Below w.heap.size w w' := by
  obtain ⟨m, hm⟩ : ∃ m, ps.length = m := ⟨_, rfl⟩
  have HMM : Hid (ps.length = m) := hm
  have HR : Hid (Row w pp ps) := hr
  have KM : Hid (∀ (q : ByteArray) (v : World), q.size ≤ 140737488351232 → Calls Tryd.prog 8 #[.string g, .string q] v fun e w' => e = .returned (.bool (matchP (gs g) (gs q))) ∧ Below v.heap.size v w') := fun q v hq => mMatch_any g q hg (by omega) v
  have HMN : Hid (∀ q ∈ ps, q.name.size ≤ 140737488351232) := hmn
  obtain ⟨D, hD⟩ : ∃ D, anyP ps g = D := ⟨_, rfl⟩
  have HD : Hid (anyP ps g = D) := hD
  rw [hD, hm]
  rw [hm] at hml
  clear hm hr hmn hD
  go_enter Tryd.func38, Tryd.ntmps38
  go_wp2
  go_loopw [8] (fun iv wr => Below w.heap.size w wr ∧ ∃ j : Nat, j ≤ m ∧ iv = .int .i64 j ∧ Hid ((ps.take j).any (fun p => matchP (gs g) (gs p.name)) = false)) (fun iv _ => m - (intOf iv).toNat)
  case atStart => exact ⟨Below.refl _ _, 0, Nat.zero_le _, rfl, by rw [List.take_zero]; rfl⟩
  case round =>
    obtain ⟨hb, j, hj, rfl, HJ⟩ := hrel
    by_cases hlt0 : j < m
    · have hll : j < ps.length := by rw [HMM.out]; exact hlt0
      obtain ⟨b1, o1, rfl, hat⟩ := (HR.out.below hb).at hll
      have e0 := hat.1
      have hkm := KM.out ps[j].name wr (HMN.out _ (List.getElem_mem hll))
      have i1 : (0 : Int) ≤ (j : Int) := by omega
      have i2 : (j : Int) < (m : Int) := by omega
      obtain ⟨nm, hnm⟩ : ∃ nm, ps[j].name = nm := ⟨_, rfl⟩
      cases hM : matchP (gs g) (gs ps[j].name)
      · have HT : Hid ((ps.take (j + 1)).any (fun p => matchP (gs g) (gs p.name)) = false) := anyP_take hll HJ.out hM
        rw [hM] at hkm
        rw [hnm] at e0 hkm
        have HC1 : Hid (Calls Tryd.prog 8 #[.string g, .string nm] wr fun e w' => e = .returned (.bool false) ∧ Below wr.heap.size wr w') := hkm
        clear hkm KM HR HMN HD HJ hat hM hnm
        go_wp2_with (go_at_call 8; (with_reducible refine HC1.out.mono ?_); rintro e w3 ⟨rfl, hb3⟩)
        go_roundw
        case rel => exact ⟨bel hb hb3, j + 1, by omega, by go_num, HT.out⟩
        case measure => simp [intOf]; omega
      · have HT : Hid (D = true) := by
          show D = true
          rw [← HD.out]
          exact List.any_eq_true.2 ⟨ps[j], List.getElem_mem hll, hM⟩
        rw [hM] at hkm
        rw [hnm] at e0 hkm
        have HC1 : Hid (Calls Tryd.prog 8 #[.string g, .string nm] wr fun e w' => e = .returned (.bool true) ∧ Below wr.heap.size wr w') := hkm
        clear hkm KM HR HMN HD HJ hat hM hnm
        go_wp2_with (go_at_call 8; (with_reducible refine HC1.out.mono ?_); rintro e w3 ⟨rfl, hb3⟩)
        go_ret
        exact ⟨ret_bool HT.out.symm, bel hb hb3⟩
    · have : j = m := by omega
      subst this
      have HT : Hid (D = false) := by
        show D = false
        have h1 := HJ.out
        rw [List.take_of_length_le (by rw [HMM.out]; exact Nat.le_refl _)] at h1
        rw [← HD.out]
        exact h1
      clear KM HR HMN HD HJ
      go_wp2
      go_ret
      exact ⟨ret_bool HT.out.symm, hb⟩

def judgeP (ps : List Par) (t : Nd) : Int := if t.kind == 5 then (if anyP ps t.name then 0 else 111) else if t.kind != 1 || !okName t.name t.args.length then 110 else 0
theorem fault_judge (ps : List Par) (t : Nd) : (judgeP ps t ≠ 0 → faultM ps t = (judgeP ps t, t.at_)) ∧ (judgeP ps t = 0 → faultM ps t = if t.kind == 5 then (0, 0) else faultL ps t.args) := by
  unfold judgeP faultM faultOne anyP
  constructor
  · intro h
    repeat' split
    all_goals first | rfl | (exfalso; simp_all)
  · intro h
    repeat' split
    all_goals first | rfl | (exfalso; simp_all)

set_option maxHeartbeats 1000000 in
theorem judge_any (t : Nd) (b o : Nat) (ps : List Par) (pp : Option Addr) (cc : Nat) (hl : t.args.length ≤ 40000) (hsz : t.name.size ≤ 140737488351232) (hml : ps.length ≤ 4398046510976) (hmn : ∀ q ∈ ps, q.name.size ≤ 140737488351232) (w : World) (h : NodeA w anyH b o t) (hr : Row w pp ps) :
    Calls Tryd.prog 31 #[.pointer (some ⟨b, o, none⟩), .slice pp ps.length cc] w fun e w' => e = .returned (.int .i64 (judgeP ps t)) ∧ Below w.heap.size w w' := by
  obtain ⟨p, c, ⟨c0, c1, c4, c5, c6⟩, -⟩ := node_open h
  have HM : Hid (Calls Tryd.prog 38 #[.string t.name, .slice pp ps.length cc] w fun e w' => e = .returned (.bool (anyP ps t.name)) ∧ Below w.heap.size w w') := meansOne_any t.name (by omega) ps pp cc hml hmn w hr
  have HT : Hid (∀ v, Calls Tryd.prog 39 #[.string t.name, .int .i64 t.args.length] v fun e w' => e = .returned (.bool (okName t.name t.args.length)) ∧ w' = v) := takes_any t.name _ hl
  obtain ⟨K, hK⟩ : ∃ K, t.kind = K := ⟨_, rfl⟩
  obtain ⟨X, hX⟩ : ∃ X, t.name = X := ⟨_, rfl⟩
  obtain ⟨n, hn⟩ : ∃ n, t.args.length = n := ⟨_, rfl⟩
  obtain ⟨m, hm⟩ : ∃ m, ps.length = m := ⟨_, rfl⟩
  unfold judgeP
  rw [hK] at c0 ⊢
  rw [hX] at c1 HM HT ⊢
  rw [hn] at c5 HT ⊢
  rw [hm] at HM ⊢
  clear h hr hmn hK hX hn hm
  cases h5 : (K == 5)
  · by_cases hk1 : K = 1
    · subst hk1
      cases hO : okName X n
      · rw [hO] at HT
        have e110 : (if false = true then (if anyP ps X = true then (0 : Int) else 111) else if ((1 : Int) != 1 || !false) = true then 110 else 0) = 110 := by simp
        rw [e110]
        clear HM hO e110
        go_enter Tryd.func31, Tryd.ntmps31
        go_wp2
        go_quiet (first | (go_at_call 39; refine Calls.quiet_of_same (HT.out _)))
        go_wp2
        go_ret
        exact ⟨rfl, bel_dn _ _⟩
      · rw [hO] at HT
        have e110 : (if false = true then (if anyP ps X = true then (0 : Int) else 111) else if ((1 : Int) != 1 || !true) = true then 110 else 0) = 0 := by simp
        rw [e110]
        clear HM hO e110
        go_enter Tryd.func31, Tryd.ntmps31
        go_wp2
        go_quiet (first | (go_at_call 39; refine Calls.quiet_of_same (HT.out _)))
        go_wp2
        go_ret
        exact ⟨rfl, bel_dn _ _⟩
    · have hk2 : (K == 1) = false := by simpa using hk1
      have e110 : (if false = true then (if anyP ps X = true then (0 : Int) else 111) else if (K != 1 || !okName X n) = true then 110 else 0) = 110 := by simp [hk1]
      rw [e110]
      clear HM HT e110
      go_enter Tryd.func31, Tryd.ntmps31
      go_wp2
      go_ret
      exact ⟨rfl, Below.refl _ _⟩
  · have hk5 : K = 5 := by simpa using h5
    subst hk5
    clear HT
    cases hA : anyP ps X
    · rw [hA] at HM
      have e110 : (if true = true then (if false = true then (0 : Int) else 111) else if ((5 : Int) != 1 || !okName X n) = true then 110 else 0) = 111 := by simp
      rw [e110]
      clear hA e110
      go_enter Tryd.func31, Tryd.ntmps31
      go_wp2_with (go_at_call 38; (with_reducible refine HM.out.mono ?_); rintro e w3 ⟨rfl, hb3⟩)
      go_ret
      exact ⟨rfl, hb3⟩
    · rw [hA] at HM
      have e110 : (if true = true then (if true = true then (0 : Int) else 111) else if ((5 : Int) != 1 || !okName X n) = true then 110 else 0) = 0 := by simp
      rw [e110]
      clear hA e110
      go_enter Tryd.func31, Tryd.ntmps31
      go_wp2_with (go_at_call 38; (with_reducible refine HM.out.mono ?_); rintro e w3 ⟨rfl, hb3⟩)
      go_ret
      exact ⟨rfl, hb3⟩

end Go.Proofs.YtnhpnmilgcjeaaaDoor
