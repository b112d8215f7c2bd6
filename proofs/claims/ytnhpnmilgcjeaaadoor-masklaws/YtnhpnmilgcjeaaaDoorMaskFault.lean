import Derived.Test.YtnhpnmilgcjeaaaDoorMaskIn
/- The reference: fault. -/
namespace Go.Proofs.YtnhpnmilgcjeaaaDoor
open Go.RowKit
set_option linter.unusedVariables false
set_option linter.unusedSimpArgs false

theorem mnonempty (s : ByteArray) : (s.toList == []) = (s.size == 0) := by
  rw [Bool.eq_iff_iff]
  simp only [beq_iff_eq]
  constructor
  · intro h
    rw [ByteArray.toList_eq] at h
    show s.data.size = 0
    rw [← Array.length_toList, h]; rfl
  · intro h
    rw [ByteArray.toList_eq]
    exact List.eq_nil_of_length_eq_zero (by rw [Array.length_toList]; exact h)
theorem misEmpty (s : ByteArray) : s.toList.isEmpty = (s.size == 0) := by
  rw [← mnonempty, Bool.eq_iff_iff]
  simp
theorem ok_facts (X : ByteArray) (n : Nat) : ∃ bA bN bR bC bT bD bO : Bool, (X.toList == [97, 108, 108]) = bA ∧ (X.toList == [110, 111, 110, 101]) = bN ∧ (X.toList == [114, 101, 97, 108]) = bR ∧ (X.toList == [99, 111, 109, 112, 108, 101, 120]) = bC ∧ (X.toList == [110, 111, 116]) = bT ∧ (X.toList == [97, 110, 100]) = bD ∧ (X.toList == [111, 114]) = bO ∧
    okName X n = (if bA || bN || bR || bC then n == 0 else if bT then n == 1 else if bD || bO then decide (1 ≤ n) else false) :=
  ⟨_, _, _, _, _, _, _, rfl, rfl, rfl, rfl, rfl, rfl, rfl, by unfold okName; simp only [toList_gs]; rfl⟩

def FaultTo (N : Nat) : Prop := ∀ (t : Nd) (p : Option Addr) (c : Nat) (ps : List Par) (pp : Option Addr) (cc : Nat) (w : World), dep t ≤ N → cnt t ≤ 40000 → ok1 t → ps.length ≤ 4398046510976 → (∀ q ∈ ps, q.name.size ≤ 140737488351232) → Kids w anyH (.slice p t.args.length c) t.args → Row w pp ps →
  Calls Tryd.prog 26 #[nv t (.slice p t.args.length c), .slice pp ps.length cc] w fun e w' => e = .returned (.tuple #[.int .i64 (faultM ps t).1, .int .i64 (faultM ps t).2]) ∧ Below w.heap.size w w'
set_option maxRecDepth 100000 in
set_option maxHeartbeats 8000000 in
theorem rfault_to : ∀ N, FaultTo N := by
  intro N
  induction N with
  | zero => intro t p c ps pp cc w hd; unfold dep at hd; omega
  | succ N ih =>
    intro t p c ps pp cc w hd hc hok hml hmn hk hr
    have hlen : t.args.length ≤ 40000 := by have := cntL_len t.args; unfold cnt at hc; omega
    have hsz : t.name.size ≤ 140737488351232 := hok.1.1
    obtain ⟨n, hn⟩ : ∃ n, t.args.length = n := ⟨_, rfl⟩
    have HN : Hid (t.args.length = n) := hn
    obtain ⟨m, hm⟩ : ∃ m, ps.length = m := ⟨_, rfl⟩
    have HMM : Hid (ps.length = m) := hm
    have HK : Hid (Kids w anyH (.slice p t.args.length c) t.args) := hk
    have HR : Hid (Row w pp ps) := hr
    have hfm : faultM ps t = faultOne ps t.kind t.name t.args.length t.at_ (faultL ps t.args) := rfl
    have hsub : ∀ j (hj : j < t.args.length), dep t.args[j] ≤ N ∧ cnt t.args[j] ≤ 40000 ∧ ok1 t.args[j] := fun j hj =>
      ⟨by have := dep_get hj; unfold dep at hd ⊢; unfold dep at this; omega, by have := cnt_get hj; unfold cnt at hc; omega, okL_get hok.2 hj⟩
    have HIH : Hid (∀ j (hj : j < t.args.length) (q1 : Option Addr) (d1 : Nat) (v : World), Kids v anyH (.slice q1 t.args[j].args.length d1) t.args[j].args → Row v pp ps →
        Calls Tryd.prog 26 #[nv t.args[j] (.slice q1 t.args[j].args.length d1), .slice pp m cc] v fun e w' => e = .returned (.tuple #[.int .i64 (faultM ps t.args[j]).1, .int .i64 (faultM ps t.args[j]).2]) ∧ Below v.heap.size v w') := fun j hj q1 d1 v h1 h2 => by
      have := ih t.args[j] q1 d1 ps pp cc v (hsub j hj).1 (hsub j hj).2.1 (hsub j hj).2.2 hml hmn h1 h2
      rw [hm] at this
      exact this
    have KM : Hid (∀ (q : ByteArray) (v : World), q.size ≤ 140737488351232 → Calls Tryd.prog 9 #[.string t.name, .string q] v fun e w' => e = .returned (.bool (matchP (gs t.name) (gs q))) ∧ Below v.heap.size v w') := fun q v hq => rMatch_any t.name q (by omega) (by omega) v
    have HMN : Hid (∀ q ∈ ps, q.name.size ≤ 140737488351232) := hmn
    obtain ⟨K, hK⟩ : ∃ K, t.kind = K := ⟨_, rfl⟩
    obtain ⟨A, hA⟩ : ∃ A, t.at_ = A := ⟨_, rfl⟩
    unfold nv at HIH ⊢
    rw [hfm, hn, hK, hA, hm]
    rw [hm] at hml
    have HBX : Hid ((w.alloc (.cells #[.int .i64 K, .string t.name, .int .u32 t.num, .int .i64 t.int_, .string t.key, .slice p n c, .int .i64 A] 29)).heap[w.heap.size]? = some (.cells #[.int .i64 K, .string t.name, .int .u32 t.num, .int .i64 t.int_, .string t.key, .slice p n c, .int .i64 A] 29)) := box_heap w _
    have HB0 : Hid (Below w.heap.size w (w.alloc (.cells #[.int .i64 K, .string t.name, .int .u32 t.num, .int .i64 t.int_, .string t.key, .slice p n c, .int .i64 A] 29))) := bel_alloc _ _
    clear ih hfm hsub hk hn hK hA hm hmn hr hsz hok
    cases h5 : (K == 5)
    · obtain ⟨X, hX⟩ : ∃ X, t.name = X := ⟨_, rfl⟩
      have hfo : ∀ sub, faultOne ps K X n A sub = if K != 1 || !okName X n then (110, A) else sub := fun sub => by unfold faultOne; rw [h5]; rfl
      rw [hX] at HBX HB0 ⊢
      rw [hfo]
      obtain ⟨bA, bN, bR, bC, bT, bD, bO, eA, eN, eR, eC, eT, eD, eO, eok⟩ := ok_facts X n
      obtain ⟨OK, hOK⟩ : ∃ OK, okName X n = OK := ⟨_, rfl⟩
      rw [hOK] at eok ⊢
      have HEO : Hid (OK = (if bA || bN || bR || bC then n == 0 else if bT then n == 1 else if bD || bO then decide (1 ≤ n) else false)) := eok
      clear KM hfo hOK eok hX
      go_enter Tryd.func26, Tryd.ntmps26
      go_upto_region 9 with fail
      obtain ⟨W, hW⟩ : ∃ W, w.alloc (.cells #[.int .i64 K, .string X, .int .u32 t.num, .int .i64 t.int_, .string t.key, .slice p n c, .int .i64 A] 29) = W := ⟨_, rfl⟩
      rw [hW] at HBX HB0 ⊢
      clear hW
      obtain ⟨⟨g0, g1, g2, g3, g4, h5', g6⟩, -⟩ := seven HBX.out
      go_cut [8] (fun v wx => v = .bool false ∧ wx = W)
      case first =>
        go_wp2
        go_meet
        exact ⟨rfl, rfl⟩
      case rest =>
      obtain ⟨rfl, rfl⟩ := hcut
      go_step
      go_step
      go_cut [8] (fun v wx => v = .bool OK ∧ wx = wc)
      case first =>
        clear HIH HB0 HBX
        cases bA
        · cases bN
          · cases bR
            · cases bC
              · cases bT
                · cases bD
                  · cases bO
                    all_goals
                      go_wp2
                      go_meet
                      exact ⟨by rw [HEO.out]; first | rfl | (simp; done) | (congr 1; rw [Bool.eq_iff_iff]; simp; done) | (congr 1; rw [Bool.eq_iff_iff]; simp; omega), rfl⟩
                  · go_wp2
                    go_meet
                    exact ⟨by rw [HEO.out]; first | rfl | (simp; done) | (congr 1; rw [Bool.eq_iff_iff]; simp; done) | (congr 1; rw [Bool.eq_iff_iff]; simp; omega), rfl⟩
                · go_wp2
                  go_meet
                  exact ⟨by rw [HEO.out]; first | rfl | (simp; done) | (congr 1; rw [Bool.eq_iff_iff]; simp; done) | (congr 1; rw [Bool.eq_iff_iff]; simp; omega), rfl⟩
              · go_wp2
                go_meet
                exact ⟨by rw [HEO.out]; first | rfl | (simp; done) | (congr 1; rw [Bool.eq_iff_iff]; simp; done) | (congr 1; rw [Bool.eq_iff_iff]; simp; omega), rfl⟩
            · go_wp2
              go_meet
              exact ⟨by rw [HEO.out]; first | rfl | (simp; done) | (congr 1; rw [Bool.eq_iff_iff]; simp; done) | (congr 1; rw [Bool.eq_iff_iff]; simp; omega), rfl⟩
          · go_wp2
            go_meet
            exact ⟨by rw [HEO.out]; first | rfl | (simp; done) | (congr 1; rw [Bool.eq_iff_iff]; simp; done) | (congr 1; rw [Bool.eq_iff_iff]; simp; omega), rfl⟩
        · go_wp2
          go_meet
          exact ⟨by rw [HEO.out]; first | rfl | (simp; done) | (congr 1; rw [Bool.eq_iff_iff]; simp; done) | (congr 1; rw [Bool.eq_iff_iff]; simp; omega), rfl⟩
      case rest =>
      obtain ⟨rfl, rfl⟩ := hcut
      clear eA eN eR eC eT eD eO HEO
      rename World => W
      by_cases hk1 : K = 1
      · subst hk1
        cases OK
        · clear HIH
          go_wp2
          go_quiet (fail)
          go_wp2
          go_ret2
          exact ⟨rfl, bel HB0.out (bel_dn _ _)⟩
        · clear h5 g0 g1 g2 g3 g4 h5' g6
          obtain ⟨R, hR⟩ : ∃ R, faultL ps t.args = R := ⟨_, rfl⟩
          have HFK : Hid (∀ j (hj : j < t.args.length), (∀ i (h : i < t.args.length), i < j → t.args[i].key.size = 0 ∧ (faultM ps t.args[i]).1 = 0) → t.args[j].key.size ≠ 0 → R = (110, t.args[j].at_)) := fun j hj h1 h2 => by rw [← hR]; exact faultL_key hj h1 h2
          have HFE : Hid (∀ j (hj : j < t.args.length), (∀ i (h : i < t.args.length), i < j → t.args[i].key.size = 0 ∧ (faultM ps t.args[i]).1 = 0) → t.args[j].key.size = 0 → (faultM ps t.args[j]).1 ≠ 0 → R = faultM ps t.args[j]) := fun j hj h1 h2 h3 => by rw [← hR]; exact faultL_err hj h1 h2 h3
          have HFO : Hid ((∀ i (h : i < t.args.length), t.args[i].key.size = 0 ∧ (faultM ps t.args[i]).1 = 0) → R = (0, 0)) := fun h1 => by rw [← hR]; exact faultL_ok h1
          have HPOST : Hid (∀ x : Int × Int, R = x → (Ending.returned (.tuple #[.int .i64 x.1, .int .i64 x.2]) = Ending.returned (.tuple #[.int .i64 (if ((1 : Int) != 1 || !true) = true then ((110 : Int), A) else faultL ps t.args).1, .int .i64 (if ((1 : Int) != 1 || !true) = true then ((110 : Int), A) else faultL ps t.args).2]))) := fun x hx => by rw [hR, hx]; rfl
          clear hR
          obtain ⟨⟨g0, g1, g2, g3, g4, h5', g6⟩, -⟩ := seven HBX.out
          go_wp2
          go_loopw [9] (fun iv wr => Below w.heap.size w wr ∧ Hid (wr.heap[w.heap.size]? = some (.cells #[.int .i64 1, .string X, .int .u32 t.num, .int .i64 t.int_, .string t.key, .slice p n c, .int .i64 A] 29)) ∧ ∃ j : Nat, j ≤ n ∧ iv = .int .i64 j ∧ Hid (∀ i (h : i < t.args.length), i < j → t.args[i].key.size = 0 ∧ (faultM ps t.args[i]).1 = 0)) (fun iv _ => n - (intOf iv).toNat)
          case atStart => exact ⟨HB0.out, HBX.out, 0, Nat.zero_le _, rfl, fun i h hi => absurd hi (Nat.not_lt_zero _)⟩
          case round =>
            obtain ⟨hb, HBR, j, hj, rfl, hS⟩ := hrel
            clear HBX HB0 g0 g1 g2 g3 g4 h5' g6
            obtain ⟨⟨g0, g1, g2, g3, g4, h5', g6⟩, -⟩ := seven HBR.out
            by_cases hlt0 : j < n
            · have hll : j < t.args.length := by rw [HN.out]; exact hlt0
              obtain ⟨b1, o1, q1, d1, rfl, ⟨x0, x1, x2, x3, x4, x5, x6⟩, kx⟩ := kid_at HK.out hb hll
              have i1 : (0 : Int) ≤ (j : Int) := by omega
              have i2 : (j : Int) < (n : Int) := by omega
              by_cases hky : t.args[j].key.size = 0
              · have e1 : (t.args[j].key.toList == []) = true := by rw [mnonempty]; simp [hky]
                have e2 : t.args[j].key.toList.isEmpty = true := by rw [misEmpty]; simp [hky]
                obtain ⟨E, hE⟩ : ∃ E, (faultM ps t.args[j]).1 = E := ⟨_, rfl⟩
                obtain ⟨F, hF⟩ : ∃ F, (faultM ps t.args[j]).2 = F := ⟨_, rfl⟩
                have HW : Hid (Calls Tryd.prog 26 #[.agg #[.int .i64 t.args[j].kind, .string t.args[j].name, .int .u32 t.args[j].num, .int .i64 t.args[j].int_, .string t.args[j].key, .slice q1 t.args[j].args.length d1, .int .i64 t.args[j].at_], .slice pp m cc] wr fun e v' => e = .returned (.tuple #[.int .i64 E, .int .i64 F]) ∧ Below wr.heap.size wr v') := by
                  have := HIH.out j hll q1 d1 wr kx (HR.out.below hb)
                  rw [hE, hF] at this
                  exact this
                by_cases hE0 : E = 0
                · have HNX : Hid (∀ i (h : i < t.args.length), i < j + 1 → t.args[i].key.size = 0 ∧ (faultM ps t.args[i]).1 = 0) := fun i h hi => by
                    by_cases e : i = j
                    · subst e; exact ⟨hky, by rw [hE]; exact hE0⟩
                    · exact hS.out i h (by omega)
                  subst hE0
                  clear kx HIH hS hky hE hF HFK HFE HFO HPOST
                  go_wp2_with (go_at_call 26; (with_reducible refine HW.out.mono ?_); rintro e w3 ⟨rfl, hb3⟩)
                  go_roundw
                  case rel => exact ⟨bel hb hb3, by show _ = _; rw [hb3.block _ (hlt HBR.out)]; exact HBR.out, j + 1, by omega, by go_num, HNX.out⟩
                  case measure => simp [intOf]; omega
                · have hRe := HFE.out j hll hS.out hky (by rw [hE]; exact hE0)
                  have HP2 := HPOST.out (E, F) (by rw [hRe]; exact Prod.ext hE hF)
                  have HP3 : Hid (Ending.returned (.tuple #[.int .i64 E, .int .i64 F]) = Ending.returned (.tuple #[.int .i64 (if ((1 : Int) != 1 || !true) = true then ((110 : Int), A) else faultL ps t.args).1, .int .i64 (if ((1 : Int) != 1 || !true) = true then ((110 : Int), A) else faultL ps t.args).2])) := HP2
                  have z1 : (E == 0) = false := by simpa using hE0
                  have z2 : (E != 0) = true := by simpa using hE0
                  clear kx HIH hS hky hE hF HFK HFE HFO HPOST hRe HP2 hE0
                  go_wp2_with (go_at_call 26; (with_reducible refine HW.out.mono ?_); rintro e w3 ⟨rfl, hb3⟩)
                  go_ret2
                  exact ⟨HP3.out, bel hb hb3⟩
              · have e1 : (t.args[j].key.toList == []) = false := by rw [mnonempty]; simp [hky]
                have e2 : t.args[j].key.toList.isEmpty = false := by rw [misEmpty]; simp [hky]
                have hRe := HFK.out j hll hS.out hky
                have HP2 := HPOST.out _ hRe
                have HP3 : Hid (Ending.returned (.tuple #[.int .i64 110, .int .i64 t.args[j].at_]) = Ending.returned (.tuple #[.int .i64 (if ((1 : Int) != 1 || !true) = true then ((110 : Int), A) else faultL ps t.args).1, .int .i64 (if ((1 : Int) != 1 || !true) = true then ((110 : Int), A) else faultL ps t.args).2])) := HP2
                clear kx HIH hS hky HFK HFE HFO HPOST hRe HP2
                go_wp2
                go_quiet (fail)
                go_wp2
                go_ret2
                exact ⟨HP3.out, bel hb (bel_dn _ _)⟩
            · have : j = n := by omega
              subst this
              have hRe := HFO.out fun i h => hS.out i h (by rw [← HN.out]; exact h)
              have HP2 := HPOST.out _ hRe
              have HP3 : Hid (Ending.returned (.tuple #[.int .i64 0, .int .i64 0]) = Ending.returned (.tuple #[.int .i64 (if ((1 : Int) != 1 || !true) = true then ((110 : Int), A) else faultL ps t.args).1, .int .i64 (if ((1 : Int) != 1 || !true) = true then ((110 : Int), A) else faultL ps t.args).2])) := HP2
              clear HIH hS HFK HFE HFO HPOST hRe HP2
              go_wp2
              go_ret2
              exact ⟨HP3.out, hb⟩
      · have z1 : (K == 1) = false := by simpa using hk1
        have z2 : (K != 1) = true := by simpa using hk1
        have HZ : Hid ((K != 1) = true) := z2
        clear HIH hk1
        go_wp2
        go_quiet (fail)
        go_wp2
        all_goals
          go_ret2
          exact ⟨by first | rfl | (rw [HZ.out]; rfl), bel HB0.out (bel_dn _ _)⟩
    · have hK5 : K = 5 := by simpa using h5
      subst hK5
      have hfo : ∀ sub, faultOne ps 5 t.name n A sub = if (ps.any fun p => matchP (gs t.name) (gs p.name)) then (0, 0) else (111, A) := fun sub => rfl
      rw [hfo]
      obtain ⟨V, hV⟩ : ∃ V, (ps.any fun p => matchP (gs t.name) (gs p.name)) = V := ⟨_, rfl⟩
      rw [hV]
      have HB1 : Hid (∀ j (hj : j < ps.length), matchP (gs t.name) (gs ps[j].name) = true → V = true) := fun j hj h => by rw [← hV, List.any_eq_true]; exact ⟨ps[j], List.getElem_mem hj, h⟩
      have HG1 : Hid ((∀ j (hj : j < ps.length), matchP (gs t.name) (gs ps[j].name) = false) → V = false) := fun h => by rw [← hV, List.any_eq_false]; intro a ha; obtain ⟨j, hj, rfl⟩ := List.mem_iff_getElem.1 ha; rw [h j hj]; decide
      clear hfo hV HIH h5
      go_enter Tryd.func26, Tryd.ntmps26
      go_wp2
      go_loopw [6] (fun iv wr => Below w.heap.size w wr ∧ Hid (wr.heap[w.heap.size]? = some (.cells #[.int .i64 5, .string t.name, .int .u32 t.num, .int .i64 t.int_, .string t.key, .slice p n c, .int .i64 A] 29)) ∧ ∃ j : Nat, j ≤ m ∧ iv = .int .i64 j ∧ Hid (∀ i (h : i < ps.length), i < j → matchP (gs t.name) (gs ps[i].name) = false)) (fun iv _ => m - (intOf iv).toNat)
      case atStart => exact ⟨HB0.out, HBX.out, 0, Nat.zero_le _, rfl, fun i h hi => absurd hi (Nat.not_lt_zero _)⟩
      case round =>
        obtain ⟨hb, HBR, j, hj, rfl, hS⟩ := hrel
        clear HBX HB0
        obtain ⟨⟨g0, g1, g2, g3, g4, h5', g6⟩, -⟩ := seven HBR.out
        by_cases hlt0 : j < m
        · have hll : j < ps.length := by rw [HMM.out]; exact hlt0
          obtain ⟨b1, o1, rfl, hx⟩ := HR.out.at hll
          obtain ⟨x0, x1, x2⟩ := hx.below hb
          have i1 : (0 : Int) ≤ (j : Int) := by omega
          have i2 : (j : Int) < (m : Int) := by omega
          have hqs := HMN.out ps[j] (List.getElem_mem hll)
          obtain ⟨U, hU⟩ : ∃ U, matchP (gs t.name) (gs ps[j].name) = U := ⟨_, rfl⟩
          have HB2 := HB1.out j hll
          have HNX : Hid (U = false → ∀ i (h : i < ps.length), i < j + 1 → matchP (gs t.name) (gs ps[i].name) = false) := fun hu i h hi => by
            by_cases e : i = j
            · subst e; rw [hU, hu]
            · exact hS.out i h (by omega)
          rw [hU] at HB2
          have HB3 : Hid (U = true → V = true) := HB2
          have KM2 := KM.out ps[j].name
          rw [hU] at KM2
          have KM : Hid (∀ (q : ByteArray) (v : World), ps[j].name.size ≤ 140737488351232 → Calls Tryd.prog 9 #[.string t.name, .string ps[j].name] v fun e w' => e = .returned (.bool U) ∧ Below v.heap.size v w') := fun _ v h => KM2 v h
          clear hx hU hS HB1 HG1 HB2 KM2
          go_upto_region 5 with fail
          refine wp_region_held_drew (S := (fun w' => w'.cell? ⟨w.heap.size, 1, none⟩ = some (.string t.name) ∧ w'.cell? ⟨b1, o1 + j * 3, none⟩ = some (.string ps[j].name))) (by kernel_rfl) ?_ (fun hHeld => ?_)
          · ((try dsimp only); go_keep)
          refine wpAnyH_take (i := 0) (v := ?_) (by simp only [List.getElem?_toArray, List.getElem?_cons_succ, List.getElem?_cons_zero]; rfl) (by kernel_rfl) (by kernel_rfl) (by kernel_rfl) (by exact fun _ _ _ h => h) (Or.inl ⟨by rfl, ?_⟩) (by assumption) ?_
          rotate_left 1
          · (intro wS hSw; (try dsimp only at hSw); go_simp; try (with_reducible rfl))
          try simp only [Act.put, List.setIfInBounds_toArray, List.set_cons_zero, List.set_cons_succ]
          refine wpAnyH_take (i := 1) (v := ?_) (by simp only [List.getElem?_toArray, List.getElem?_cons_succ, List.getElem?_cons_zero]; rfl) (by kernel_rfl) (by kernel_rfl) (by kernel_rfl) (by exact fun _ _ _ h => h) (Or.inl ⟨by rfl, ?_⟩) (by assumption) ?_
          rotate_left 1
          · (intro wS hSw; (try dsimp only at hSw); go_simp; try (with_reducible rfl))
          try simp only [Act.put, List.setIfInBounds_toArray, List.set_cons_zero, List.set_cons_succ]
          refine wpAnyH_take (i := 2) (v := ?_) (by simp only [List.getElem?_toArray, List.getElem?_cons_succ, List.getElem?_cons_zero]; rfl) (by kernel_rfl) (by kernel_rfl) (by kernel_rfl) (by exact fun _ _ _ h => h) (Or.inl ⟨by rfl, ?_⟩) (by assumption) ?_
          rotate_left 1
          · (intro wS hSw; (try dsimp only at hSw); go_simp; try (with_reducible rfl))
          try simp only [Act.put, List.setIfInBounds_toArray, List.set_cons_zero, List.set_cons_succ]
          refine wpAnyH_take (i := 3) (v := ?_) (by simp only [List.getElem?_toArray, List.getElem?_cons_succ, List.getElem?_cons_zero]; rfl) (by kernel_rfl) (by kernel_rfl) (by kernel_rfl) (by exact fun _ _ _ h => h) (Or.inl ⟨by rfl, ?_⟩) (by assumption) ?_
          rotate_left 1
          · (intro wS hSw; (try dsimp only at hSw); go_simp; try (with_reducible rfl))
          try simp only [Act.put, List.setIfInBounds_toArray, List.set_cons_zero, List.set_cons_succ]
          refine wpAnyH_take (i := 4) (v := ?_) (by simp only [List.getElem?_toArray, List.getElem?_cons_succ, List.getElem?_cons_zero]; rfl) (by kernel_rfl) (by kernel_rfl) (by kernel_rfl) (by exact fun _ _ _ h => h) (Or.inl ⟨by rfl, ?_⟩) (by assumption) ?_
          rotate_left 1
          · (intro wS hSw; (try dsimp only at hSw); go_simp; try (with_reducible rfl))
          try simp only [Act.put, List.setIfInBounds_toArray, List.set_cons_zero, List.set_cons_succ]
          refine wpAnyH_take (i := 5) (v := ?_) (by simp only [List.getElem?_toArray, List.getElem?_cons_succ, List.getElem?_cons_zero]; rfl) (by kernel_rfl) (by kernel_rfl) (by kernel_rfl) (by exact fun _ _ _ h => h) (Or.inl ⟨by rfl, ?_⟩) (by assumption) ?_
          rotate_left 1
          · (intro wS hSw; (try dsimp only at hSw); go_simp; try (with_reducible rfl))
          try simp only [Act.put, List.setIfInBounds_toArray, List.set_cons_zero, List.set_cons_succ]
          refine wpAnyH_take (i := 6) (v := ?_) (by simp only [List.getElem?_toArray, List.getElem?_cons_succ, List.getElem?_cons_zero]; rfl) (by kernel_rfl) (by kernel_rfl) (by kernel_rfl) (by exact fun _ _ _ h => h) (Or.inl ⟨by rfl, ?_⟩) (by assumption) ?_
          rotate_left 1
          · (intro wS hSw; (try dsimp only at hSw); go_simp; try (with_reducible rfl))
          try simp only [Act.put, List.setIfInBounds_toArray, List.set_cons_zero, List.set_cons_succ]
          clear hHeld
          refine wpAnyH_ready (rs := [7]) (by kernel_rfl) (by simp) ?_
          refine AllReadyH.cons (i := 7) (by simp only [List.getElem?_toArray, List.getElem?_cons_succ, List.getElem?_cons_zero]; rfl) (fun K hK => ?_) AllReadyH.nil
          go_simp
          (go_at_call 9; (with_reducible refine (KM.out ⟨#[]⟩ _ hqs).mono ?_); rintro e w3 ⟨rfl, hb3⟩; have y1 := mkeep (bel (bel_d _) hb3) g1; have y2 := mkeep (bel (bel_d _) hb3) x0)
          try (go_wp2_with fail)
          refine hK.out _ _ ?_ (fun hHeld => ?_)
          · ((try dsimp only); go_keep)
          clear hK K
          try simp only [Act.put, List.setIfInBounds_toArray, List.set_cons_zero, List.set_cons_succ]
          refine wpAnyH_done (by kernel_rfl) ?_ _
          cases U
          · have HN2 := HNX.out rfl
            have HN3 : Hid (∀ i (h : i < ps.length), i < j + 1 → matchP (gs t.name) (gs ps[i].name) = false) := HN2
            clear HN2 HNX HB3 KM
            go_wp2
            go_roundw
            case rel => exact ⟨bel hb (bel (bel_d _) hb3), by show _ = _; rw [(bel (bel_d _) hb3).block _ (hlt HBR.out)]; exact HBR.out, j + 1, by omega, by go_num, HN3.out⟩
            case measure => simp [intOf]; omega
          · have HV2 : V = true := HB3.out rfl
            subst HV2
            clear HNX HB3 KM
            go_wp2
            go_ret2
            exact ⟨rfl, bel hb (bel (bel_d _) hb3)⟩
        · have : j = m := by omega
          subst this
          have HV2 : V = false := HG1.out fun i h => hS.out i h (by rw [← HMM.out]; exact h)
          subst HV2
          clear hS HB1 HG1 KM
          go_wp2
          go_quiet (fail)
          go_wp2
          go_ret2
          exact ⟨rfl, bel hb (bel_dn _ _)⟩

end Go.Proofs.YtnhpnmilgcjeaaaDoor
