import Derived.Test.YtnhpnmilgcjeaaaDoorMaskDeep
/- Package mask: fault. -/
namespace Go.Proofs.YtnhpnmilgcjeaaaDoor
open Go.RowKit
set_option linter.unusedVariables false
set_option linter.unusedSimpArgs false

theorem tup2 {a b c d : Int} (h : (a, b) = (c, d)) : Ending.returned (.tuple #[.int .i64 a, .int .i64 b]) = .returned (.tuple #[.int .i64 c, .int .i64 d]) := by
  obtain ⟨rfl, rfl⟩ := Prod.mk.inj h
  rfl

def FaultA (N : Nat) : Prop := ∀ (t : Nd) (b o : Nat) (ps : List Par) (pp : Option Addr) (cc : Nat) (w : World), dep t ≤ N → cnt t ≤ 40000 → ok1 t → ps.length ≤ 4398046510976 → (∀ q ∈ ps, q.name.size ≤ 140737488351232) → NodeA w anyH b o t → Row w pp ps →
  Calls Tryd.prog 24 #[.pointer (some ⟨b, o, none⟩), .slice pp ps.length cc] w fun e w' => e = .returned (.tuple #[.int .i64 (faultM ps t).1, .int .i64 (faultM ps t).2]) ∧ Below w.heap.size w w'
set_option maxRecDepth 100000 in
set_option maxHeartbeats 4000000 in
theorem fault_to : ∀ N, FaultA N := by
  intro N
  induction N with
  | zero => intro t b o ps pp cc w hd; unfold dep at hd; omega
  | succ N ih =>
    intro t b o ps pp cc w hd hc hok hml hmn h hr
    have hlen : t.args.length ≤ 40000 := by have := cntL_len t.args; unfold cnt at hc; omega
    have hsz : t.name.size ≤ 140737488351232 := hok.1.1
    have hsub : ∀ j (hj : j < t.args.length), dep t.args[j] ≤ N ∧ cnt t.args[j] ≤ 40000 ∧ ok1 t.args[j] := fun j hj =>
      ⟨by have := dep_get hj; unfold dep at hd ⊢; unfold dep at this; omega, by have := cnt_get hj; unfold cnt at hc; omega, okL_get hok.2 hj⟩
    have hjd := judge_any t b o ps pp cc hlen hsz hml hmn w h hr
    obtain ⟨hf1, hf0⟩ := fault_judge ps t
    obtain ⟨J, hJ⟩ : ∃ J, judgeP ps t = J := ⟨_, rfl⟩
    rw [hJ] at hjd hf1 hf0
    obtain ⟨n, hn⟩ : ∃ n, t.args.length = n := ⟨_, rfl⟩
    have HN : Hid (t.args.length = n) := hn
    obtain ⟨m, hm⟩ : ∃ m, ps.length = m := ⟨_, rfl⟩
    have HND : Hid (NodeA w anyH b o t) := h
    have HR : Hid (Row w pp ps) := hr
    have HIH : Hid (∀ j (hj : j < t.args.length) (b1 o1 : Nat) (v : World), NodeA v anyH b1 o1 t.args[j] → Row v pp ps →
        Calls Tryd.prog 24 #[.pointer (some ⟨b1, o1, none⟩), .slice pp m cc] v fun e w' => e = .returned (.tuple #[.int .i64 (faultM ps t.args[j]).1, .int .i64 (faultM ps t.args[j]).2]) ∧ Below v.heap.size v w') := fun j hj b1 o1 v h1 h2 => by
      have := ih t.args[j] b1 o1 ps pp cc v (hsub j hj).1 (hsub j hj).2.1 (hsub j hj).2.2 hml hmn h1 h2
      rw [hm] at this
      exact this
    rw [hm] at hjd ⊢
    have HJD : Hid (Calls Tryd.prog 31 #[.pointer (some ⟨b, o, none⟩), .slice pp m cc] w fun e w' => e = .returned (.int .i64 J) ∧ Below w.heap.size w w') := hjd
    obtain ⟨FM, hFM⟩ : ∃ FM, faultM ps t = FM := ⟨_, rfl⟩
    rw [hFM] at hf1 hf0 ⊢
    obtain ⟨E0, F0⟩ := FM
    simp only
    have HF1 : Hid (J ≠ 0 → (E0, F0) = (J, t.at_)) := hf1
    have HF0 : Hid (J = 0 → (E0, F0) = if (t.kind == 5) = true then (0, 0) else faultL ps t.args) := hf0
    have OPEN : Hid (∀ v, Below w.heap.size w v → ∃ p c, (v.cell? ⟨b, o, none⟩ = some (.int .i64 t.kind) ∧ v.cell? ⟨b, o + 5, none⟩ = some (.slice p n c) ∧ v.cell? ⟨b, o + 6, none⟩ = some (.int .i64 t.at_))
        ∧ ∀ j (hj : j < t.args.length), ∃ b1 o1, p = some ⟨b1, o1, none⟩ ∧ NodeA v anyH b1 (o1 + j * 7) t.args[j]) := fun v hv => by
      obtain ⟨p, c, ⟨h0, h1, h4, h5, h6⟩, hk⟩ := node_open (HND.out.below hv)
      rw [HN.out] at h5
      exact ⟨p, c, ⟨h0, h5, h6⟩, hk⟩
    clear ih hsub hjd hf1 hf0 hFM hn hm h hr hJ hmn
    by_cases hJ0 : J = 0
    · have hf := HF0.out hJ0
      subst hJ0
      clear HF1 HF0
      cases h5 : (t.kind == 5)
      · rw [h5] at hf
        have HF : Hid ((E0, F0) = faultL ps t.args) := hf
        have HK5 : Hid ((t.kind == 5) = false) := h5
        clear hf h5
        go_enter Tryd.func24, Tryd.ntmps24
        go_wp2_with (go_at_call 31; (with_reducible refine HJD.out.mono ?_); rintro e w1 ⟨rfl, hb1⟩; obtain ⟨p, c, ⟨c0, c5, c6⟩, hkid⟩ := OPEN.out w1 hb1; have hk5 := HK5.out)
        have C5 : Hid (w1.cell? ⟨b, o + 5, none⟩ = some (.slice p n c)) := c5
        have HKD : Hid (∀ j (hj : j < t.args.length), ∃ b1 o1, p = some ⟨b1, o1, none⟩ ∧ NodeA w1 anyH b1 (o1 + j * 7) t.args[j]) := hkid
        have HB1 : Hid (Below w.heap.size w w1) := hb1
        clear c0 c5 c6 hkid hb1 HJD OPEN HND hk5 HK5
        go_loopw [31] (fun iv wr => Below w1.heap.size w1 wr ∧ ∃ j : Nat, j ≤ n ∧ iv = .int .i64 j ∧ Hid (∀ i (h : i < t.args.length), i < j → t.args[i].key.size = 0 ∧ (faultM ps t.args[i]).1 = 0)) (fun iv _ => n - (intOf iv).toNat)
        case atStart => exact ⟨Below.refl _ _, 0, Nat.zero_le _, rfl, fun i h hi => absurd hi (Nat.not_lt_zero _)⟩
        case round =>
          obtain ⟨hb, j, hj, rfl, hS⟩ := hrel
          have e5 := (hb.cell (mcell_lt C5.out)).trans C5.out
          by_cases hlt0 : j < n
          · have hll : j < t.args.length := by rw [HN.out]; exact hlt0
            obtain ⟨b1, o1, rfl, hnd⟩ := HKD.out j hll
            have hnd1 := hnd.below hb
            have x4 := hnd1.2.2.2.2.1
            have x6 := hnd1.2.2.2.2.2.1
            have hcl := HIH.out j hll b1 (o1 + j * 7) wr hnd1 (HR.out.below (bel HB1.out hb))
            have i1 : (0 : Int) ≤ (j : Int) := by omega
            have i2 : (j : Int) < (n : Int) := by omega
            by_cases hky : t.args[j].key.size = 0
            · have e1 : (t.args[j].key.toList == []) = true := by rw [mnonempty]; simp [hky]
              have e2 : t.args[j].key.toList.isEmpty = true := by rw [misEmpty]; simp [hky]
              obtain ⟨E, hE⟩ : ∃ E, (faultM ps t.args[j]).1 = E := ⟨_, rfl⟩
              obtain ⟨F, hF⟩ : ∃ F, (faultM ps t.args[j]).2 = F := ⟨_, rfl⟩
              rw [hE, hF] at hcl
              have HW : Hid (Calls Tryd.prog 24 #[.pointer (some ⟨b1, o1 + j * 7, none⟩), .slice pp m cc] wr fun e w' => e = .returned (.tuple #[.int .i64 E, .int .i64 F]) ∧ Below wr.heap.size wr w') := hcl
              by_cases hE0 : E = 0
              · have HNX : Hid (∀ i (h : i < t.args.length), i < j + 1 → t.args[i].key.size = 0 ∧ (faultM ps t.args[i]).1 = 0) := fun i h hi => by
                  by_cases e : i = j
                  · subst e; exact ⟨hky, by rw [hE]; exact hE0⟩
                  · exact hS.out i h (by omega)
                subst hE0
                clear hcl hnd hnd1 HIH hS hky hE hF HKD HF HR
                go_wp2_with (go_at_call 24; (with_reducible refine HW.out.mono ?_); rintro e w3 ⟨rfl, hb3⟩)
                go_roundw
                case rel => exact ⟨bel hb hb3, j + 1, by omega, by go_num, HNX.out⟩
                case measure => simp [intOf]; omega
              · have HP3 : Hid ((E, F) = (E0, F0)) := by
                  show _ = _
                  rw [HF.out, faultL_err hll hS.out hky (by rw [hE]; exact hE0)]
                  exact (Prod.ext hE hF).symm
                have z1 : (E == 0) = false := by simpa using hE0
                have z2 : (E != 0) = true := by simpa using hE0
                clear hcl hnd hnd1 HIH hS hky hE hF HKD HF HR hE0
                go_wp2_with (go_at_call 24; (with_reducible refine HW.out.mono ?_); rintro e w3 ⟨rfl, hb3⟩)
                go_ret2
                exact ⟨tup2 HP3.out, bel HB1.out (bel hb hb3)⟩
            · have e1 : (t.args[j].key.toList == []) = false := by rw [mnonempty]; simp [hky]
              have e2 : t.args[j].key.toList.isEmpty = false := by rw [misEmpty]; simp [hky]
              have HP3 : Hid ((110, t.args[j].at_) = (E0, F0)) := by
                show _ = _
                rw [HF.out, faultL_key hll hS.out hky]
              clear hcl hnd hnd1 HIH hS hky HKD HF HR
              go_wp2
              go_quiet (fail)
              go_wp2
              go_ret2
              exact ⟨tup2 HP3.out, bel HB1.out (bel hb (bel_dn _ _))⟩
          · have : j = n := by omega
            subst this
            have HP3 : Hid ((0, 0) = (E0, F0)) := by
              show _ = _
              rw [HF.out, faultL_ok (fun i h => hS.out i h (by rw [← HN.out]; exact h))]
            clear HIH hS HKD HF HR
            go_wp2
            go_ret2
            exact ⟨tup2 HP3.out, bel HB1.out hb⟩
      · rw [h5] at hf
        have HF : Hid ((0, 0) = (E0, F0)) := hf.symm
        have HK5 : Hid (t.kind = 5) := by show t.kind = 5; simpa using h5
        clear hf h5 HIH
        go_enter Tryd.func24, Tryd.ntmps24
        go_wp2_with (go_at_call 31; (with_reducible refine HJD.out.mono ?_); rintro e w1 ⟨rfl, hb1⟩; obtain ⟨p, c, ⟨c0, c5, c6⟩, hkid⟩ := OPEN.out w1 hb1; rw [HK5.out] at c0; clear hkid)
        go_ret2
        exact ⟨tup2 HF.out, hb1⟩
    · have HF : Hid ((J, t.at_) = (E0, F0)) := (HF1.out hJ0).symm
      have z1 : (J == 0) = false := by simpa using hJ0
      have z2 : (J != 0) = true := by simpa using hJ0
      clear HIH HF1 HF0
      go_enter Tryd.func24, Tryd.ntmps24
      go_wp2_with (go_at_call 31; (with_reducible refine HJD.out.mono ?_); rintro e w1 ⟨rfl, hb1⟩; obtain ⟨p, c, ⟨c0, c5, c6⟩, hkid⟩ := OPEN.out w1 hb1; clear hkid)
      go_quiet (fail)
      go_wp2
      go_ret2
      exact ⟨tup2 HF.out, bel hb1 (bel_dn _ _)⟩

end Go.Proofs.YtnhpnmilgcjeaaaDoor
