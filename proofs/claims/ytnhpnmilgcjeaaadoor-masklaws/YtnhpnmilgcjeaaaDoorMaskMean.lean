import Derived.Test.YtnhpnmilgcjeaaaDoorMaskFaultM
/- Package mask: means, allMean, anyMeans. -/
namespace Go.Proofs.YtnhpnmilgcjeaaaDoor
open Go.RowKit
set_option linter.unusedVariables false
set_option linter.unusedSimpArgs false

def MeanTo (N : Nat) : Prop := ∀ (t : Nd) (b o bp op : Nat) (q : Par) (ps : List Par) (w : World), dep t ≤ N → cnt t ≤ 40000 → ok1 t → q.name.size ≤ 140737488351232 → (faultM ps t).1 = 0 → NodeA w anyH b o t → AtP w bp op q →
  Calls Tryd.prog 25 #[.pointer (some ⟨b, o, none⟩), .pointer (some ⟨bp, op, none⟩)] w fun e w' => e = .returned (.bool (inM q t)) ∧ Below w.heap.size w w'

/-- Masks that lie in a slice, each without a fault. -/
def Masks (N : Nat) (ps : List Par) (l : List Nd) : Prop := ∀ j (hj : j < l.length), dep l[j] ≤ N ∧ cnt l[j] ≤ 40000 ∧ ok1 l[j] ∧ (faultM ps l[j]).1 = 0

set_option maxHeartbeats 2000000 in
theorem allMean_of {N : Nat} (ih : MeanTo N) (l : List Nd) (p : Option Addr) (c bp op : Nat) (q : Par) (ps : List Par) (w : World) (hl : l.length ≤ 40000) (hm : Masks N ps l) (hq : q.name.size ≤ 140737488351232)
    (hk : ∀ j (hj : j < l.length), ∃ b1 o1, p = some ⟨b1, o1, none⟩ ∧ NodeA w anyH b1 (o1 + j * 7) l[j]) (hp : AtP w bp op q) :
    Calls Tryd.prog 32 #[.slice p l.length c, .pointer (some ⟨bp, op, none⟩)] w fun e w' => e = .returned (.bool ((l.map (inM q)).all id)) ∧ Below w.heap.size w w' := by
  obtain ⟨n, hn⟩ : ∃ n, l.length = n := ⟨_, rfl⟩
  have HN : Hid (l.length = n) := hn
  obtain ⟨D, hD⟩ : ∃ D, (l.map (inM q)).all id = D := ⟨_, rfl⟩
  have HT1 : Hid ((∀ i (h : i < l.length), inM q l[i] = true) → D = true) := fun h => by
    rw [← hD, List.all_map, List.all_eq_true]
    intro x hx
    obtain ⟨i, hi, rfl⟩ := List.mem_iff_getElem.1 hx
    exact h i hi
  have HF1 : Hid (∀ i (h : i < l.length), inM q l[i] = false → D = false) := fun i hi h => by
    rw [← hD, List.all_map, List.all_eq_false]
    exact ⟨l[i], List.getElem_mem hi, by simp [h]⟩
  rw [hD, hn]
  have HCL : Hid (∀ (v : World) j (hj : j < l.length) b1 o1, Below w.heap.size w v → NodeA w anyH b1 (o1 + j * 7) l[j] → Calls Tryd.prog 25 #[.pointer (some ⟨b1, o1 + j * 7, none⟩), .pointer (some ⟨bp, op, none⟩)] v fun e w' => e = .returned (.bool (inM q l[j])) ∧ Below v.heap.size v w') := fun v j hj b1 o1 hv h =>
    ih l[j] b1 (o1 + j * 7) bp op q ps v (hm j hj).1 (hm j hj).2.1 (hm j hj).2.2.1 hq (hm j hj).2.2.2 (h.below hv) (hp.below hv)
  have HKD : Hid (∀ j (hj : j < l.length), ∃ b1 o1, p = some ⟨b1, o1, none⟩ ∧ NodeA w anyH b1 (o1 + j * 7) l[j]) := hk
  clear hD hn hm hk hp ih
  go_enter Tryd.func32, Tryd.ntmps32
  go_wp2
  go_loopw [8] (fun iv wr => Below w.heap.size w wr ∧ ∃ j : Nat, j ≤ n ∧ iv = .int .i64 j ∧ Hid (∀ i (h : i < l.length), i < j → inM q l[i] = true)) (fun iv _ => n - (intOf iv).toNat)
  case atStart => exact ⟨Below.refl _ _, 0, Nat.zero_le _, rfl, fun i h hi => absurd hi (Nat.not_lt_zero _)⟩
  case round =>
    obtain ⟨hb, j, hj, rfl, hS⟩ := hrel
    by_cases hlt0 : j < n
    · have hll : j < l.length := by rw [HN.out]; exact hlt0
      obtain ⟨b1, o1, rfl, hnd⟩ := HKD.out j hll
      have hcl := HCL.out wr j hll b1 o1 hb hnd
      have i1 : (0 : Int) ≤ (j : Int) := by omega
      have i2 : (j : Int) < (n : Int) := by omega
      cases hI : inM q l[j]
      · rw [hI] at hcl
        have HW : Hid (Calls Tryd.prog 25 #[.pointer (some ⟨b1, o1 + j * 7, none⟩), .pointer (some ⟨bp, op, none⟩)] wr fun e w' => e = .returned (.bool false) ∧ Below wr.heap.size wr w') := hcl
        have HD : Hid (D = false) := HF1.out j hll hI
        clear hcl hnd HCL HKD HT1 HF1 hS hI
        go_wp2_with (go_at_call 25; (with_reducible refine HW.out.mono ?_); rintro e w3 ⟨rfl, hb3⟩)
        go_ret
        exact ⟨ret_bool HD.out.symm, bel hb hb3⟩
      · rw [hI] at hcl
        have HW : Hid (Calls Tryd.prog 25 #[.pointer (some ⟨b1, o1 + j * 7, none⟩), .pointer (some ⟨bp, op, none⟩)] wr fun e w' => e = .returned (.bool true) ∧ Below wr.heap.size wr w') := hcl
        have HNX : Hid (∀ i (h : i < l.length), i < j + 1 → inM q l[i] = true) := fun i h hi => by
          by_cases e : i = j
          · subst e; exact hI
          · exact hS.out i h (by omega)
        clear hcl hnd HCL HKD HT1 HF1 hS hI
        go_wp2_with (go_at_call 25; (with_reducible refine HW.out.mono ?_); rintro e w3 ⟨rfl, hb3⟩)
        go_roundw
        case rel => exact ⟨bel hb hb3, j + 1, by omega, by go_num, HNX.out⟩
        case measure => simp [intOf]; omega
    · have : j = n := by omega
      subst this
      have HD : Hid (D = true) := HT1.out fun i h => hS.out i h (by rw [← HN.out]; exact h)
      clear HCL HKD HT1 HF1 hS
      go_wp2
      go_ret
      exact ⟨ret_bool HD.out.symm, hb⟩

set_option maxHeartbeats 2000000 in
theorem anyMean_of {N : Nat} (ih : MeanTo N) (l : List Nd) (p : Option Addr) (c bp op : Nat) (q : Par) (ps : List Par) (w : World) (hl : l.length ≤ 40000) (hm : Masks N ps l) (hq : q.name.size ≤ 140737488351232)
    (hk : ∀ j (hj : j < l.length), ∃ b1 o1, p = some ⟨b1, o1, none⟩ ∧ NodeA w anyH b1 (o1 + j * 7) l[j]) (hp : AtP w bp op q) :
    Calls Tryd.prog 33 #[.slice p l.length c, .pointer (some ⟨bp, op, none⟩)] w fun e w' => e = .returned (.bool ((l.map (inM q)).any id)) ∧ Below w.heap.size w w' := by
  obtain ⟨n, hn⟩ : ∃ n, l.length = n := ⟨_, rfl⟩
  have HN : Hid (l.length = n) := hn
  obtain ⟨D, hD⟩ : ∃ D, (l.map (inM q)).any id = D := ⟨_, rfl⟩
  have HT1 : Hid ((∀ i (h : i < l.length), inM q l[i] = false) → D = false) := fun h => by
    rw [← hD, List.any_map, List.any_eq_false]
    intro x hx
    obtain ⟨i, hi, rfl⟩ := List.mem_iff_getElem.1 hx
    simp [h i hi]
  have HF1 : Hid (∀ i (h : i < l.length), inM q l[i] = true → D = true) := fun i hi h => by
    rw [← hD, List.any_map, List.any_eq_true]
    exact ⟨l[i], List.getElem_mem hi, by simp [h]⟩
  rw [hD, hn]
  have HCL : Hid (∀ (v : World) j (hj : j < l.length) b1 o1, Below w.heap.size w v → NodeA w anyH b1 (o1 + j * 7) l[j] → Calls Tryd.prog 25 #[.pointer (some ⟨b1, o1 + j * 7, none⟩), .pointer (some ⟨bp, op, none⟩)] v fun e w' => e = .returned (.bool (inM q l[j])) ∧ Below v.heap.size v w') := fun v j hj b1 o1 hv h =>
    ih l[j] b1 (o1 + j * 7) bp op q ps v (hm j hj).1 (hm j hj).2.1 (hm j hj).2.2.1 hq (hm j hj).2.2.2 (h.below hv) (hp.below hv)
  have HKD : Hid (∀ j (hj : j < l.length), ∃ b1 o1, p = some ⟨b1, o1, none⟩ ∧ NodeA w anyH b1 (o1 + j * 7) l[j]) := hk
  clear hD hn hm hk hp ih
  go_enter Tryd.func33, Tryd.ntmps33
  go_wp2
  go_loopw [8] (fun iv wr => Below w.heap.size w wr ∧ ∃ j : Nat, j ≤ n ∧ iv = .int .i64 j ∧ Hid (∀ i (h : i < l.length), i < j → inM q l[i] = false)) (fun iv _ => n - (intOf iv).toNat)
  case atStart => exact ⟨Below.refl _ _, 0, Nat.zero_le _, rfl, fun i h hi => absurd hi (Nat.not_lt_zero _)⟩
  case round =>
    obtain ⟨hb, j, hj, rfl, hS⟩ := hrel
    by_cases hlt0 : j < n
    · have hll : j < l.length := by rw [HN.out]; exact hlt0
      obtain ⟨b1, o1, rfl, hnd⟩ := HKD.out j hll
      have hcl := HCL.out wr j hll b1 o1 hb hnd
      have i1 : (0 : Int) ≤ (j : Int) := by omega
      have i2 : (j : Int) < (n : Int) := by omega
      cases hI : inM q l[j]
      · rw [hI] at hcl
        have HW : Hid (Calls Tryd.prog 25 #[.pointer (some ⟨b1, o1 + j * 7, none⟩), .pointer (some ⟨bp, op, none⟩)] wr fun e w' => e = .returned (.bool false) ∧ Below wr.heap.size wr w') := hcl
        have HNX : Hid (∀ i (h : i < l.length), i < j + 1 → inM q l[i] = false) := fun i h hi => by
          by_cases e : i = j
          · subst e; exact hI
          · exact hS.out i h (by omega)
        clear hcl hnd HCL HKD HT1 HF1 hS hI
        go_wp2_with (go_at_call 25; (with_reducible refine HW.out.mono ?_); rintro e w3 ⟨rfl, hb3⟩)
        go_roundw
        case rel => exact ⟨bel hb hb3, j + 1, by omega, by go_num, HNX.out⟩
        case measure => simp [intOf]; omega
      · rw [hI] at hcl
        have HW : Hid (Calls Tryd.prog 25 #[.pointer (some ⟨b1, o1 + j * 7, none⟩), .pointer (some ⟨bp, op, none⟩)] wr fun e w' => e = .returned (.bool true) ∧ Below wr.heap.size wr w') := hcl
        have HD : Hid (D = true) := HF1.out j hll hI
        clear hcl hnd HCL HKD HT1 HF1 hS hI
        go_wp2_with (go_at_call 25; (with_reducible refine HW.out.mono ?_); rintro e w3 ⟨rfl, hb3⟩)
        go_ret
        exact ⟨ret_bool HD.out.symm, bel hb hb3⟩
    · have : j = n := by omega
      subst this
      have HD : Hid (D = false) := HT1.out fun i h => hS.out i h (by rw [← HN.out]; exact h)
      clear HCL HKD HT1 HF1 hS
      go_wp2
      go_ret
      exact ⟨ret_bool HD.out.symm, hb⟩

set_option maxRecDepth 100000 in
set_option maxHeartbeats 4000000 in
theorem mean_to : ∀ N, MeanTo N := by
  intro N
  induction N with
  | zero => intro t b o bp op q ps w hd; unfold dep at hd; omega
  | succ N ih =>
    intro t b o bp op q ps w hd hc hok hq hf h hp
    have hlen : t.args.length ≤ 40000 := by have := cntL_len t.args; unfold cnt at hc; omega
    have hsz : t.name.size ≤ 140737488351232 := hok.1.1
    have hcall := fault_call hf
    obtain ⟨p, c, ⟨c0, c1, c4, c5, c6⟩, hkid⟩ := node_open h
    obtain ⟨p0, p1, p2⟩ := id hp
    have hin : inM q t = inOne t.kind t.name q (inL q t.args) := rfl
    rw [hin, inL_map]
    cases h5 : (t.kind == 5)
    · obtain ⟨hk1, hokn, hkf⟩ := hcall h5
      have hm : Masks N ps t.args := fun j hj => ⟨by have := dep_get hj; unfold dep at hd ⊢; unfold dep at this; omega, by have := cnt_get hj; unfold cnt at hc; omega, okL_get hok.2 hj, (hkf j hj).2⟩
      have HAL : Hid (Calls Tryd.prog 32 #[.slice p t.args.length c, .pointer (some ⟨bp, op, none⟩)] w fun e w' => e = .returned (.bool ((t.args.map (inM q)).all id)) ∧ Below w.heap.size w w') := allMean_of ih t.args p c bp op q ps w hlen hm hq hkid hp
      have HAN : Hid (Calls Tryd.prog 33 #[.slice p t.args.length c, .pointer (some ⟨bp, op, none⟩)] w fun e w' => e = .returned (.bool ((t.args.map (inM q)).any id)) ∧ Below w.heap.size w w') := anyMean_of ih t.args p c bp op q ps w hlen hm hq hkid hp
      have HNT : Hid (t.args.length = 1 → ∃ b1 o1, p = some ⟨b1, o1, none⟩ ∧ Calls Tryd.prog 25 #[.pointer (some ⟨b1, o1, none⟩), .pointer (some ⟨bp, op, none⟩)] w fun e w' => e = .returned (.bool ((t.args.map (inM q)).headD false)) ∧ Below w.heap.size w w') := fun h1 => by
        have h0 : 0 < t.args.length := by omega
        obtain ⟨b1, o1, hpp, hnd⟩ := hkid 0 h0
        rw [Nat.zero_mul, Nat.add_zero] at hnd
        refine ⟨b1, o1, hpp, ?_⟩
        rw [headD_map _ _ h0]
        exact ih t.args[0] b1 o1 bp op q ps w (hm 0 h0).1 (hm 0 h0).2.1 (hm 0 h0).2.2.1 hq (hm 0 h0).2.2.2 hnd hp
      obtain ⟨bA, bN, bR, bC, bT, bD, bO, eA, eN, eR, eC, eT, eD, eO, eok⟩ := ok_facts t.name t.args.length
      rw [hokn] at eok
      obtain ⟨X, hX⟩ : ∃ X, t.name = X := ⟨_, rfl⟩
      obtain ⟨s, hs⟩ : ∃ s, t.args.map (inM q) = s := ⟨_, rfl⟩
      obtain ⟨n, hn⟩ : ∃ n, t.args.length = n := ⟨_, rfl⟩
      obtain ⟨K, hK⟩ : ∃ K, t.kind = K := ⟨_, rfl⟩
      have hio : inOne K X q s = (if bA then true else if bR then q.kind == 1 else if bC then q.kind == 2 else if bT then !(s.headD false) else if bD then s.all id else if bO then s.any id else false) := by
        unfold inOne
        rw [hK] at h5
        rw [h5]
        rw [hX, toList_gs] at eA eR eC eT eD eO
        rw [show nAll = [97, 108, 108] from rfl, show nReal = [114, 101, 97, 108] from rfl, show nComplex = [99, 111, 109, 112, 108, 101, 120] from rfl, show nNot = [110, 111, 116] from rfl, show nAnd = [97, 110, 100] from rfl, show nOr = [111, 114] from rfl, eA, eR, eC, eT, eD, eO]
        rfl
      rw [hX] at c1 eA eN eR eC eT eD eO ⊢
      rw [hs] at HAL HAN HNT ⊢
      rw [hn] at c5 HAL HAN HNT eok
      rw [hK] at c0 h5 ⊢
      rw [hio]
      have hk5 := h5
      have HQ : Hid (q.kind = q.kind) := rfl
      obtain ⟨Q, hQ⟩ : ∃ Q, q.kind = Q := ⟨_, rfl⟩
      rw [hQ] at p1 ⊢
      have HEOK : Hid (true = (if bA || bN || bR || bC then n == 0 else if bT then n == 1 else if bD || bO then decide (1 ≤ n) else false)) := eok
      have HEN : Hid ((X.toList == [110, 111, 110, 101]) = bN) := eN
      clear ih hin hio hX hs hn hK hQ HQ eok hkid hp h hm hkf hcall hf hokn eN hk1 c4 c6 p0 p2
      cases bA
      · cases bR
        · cases bC
          · cases bT
            · cases bD
              · cases bO
                · clear HAL HAN HNT HEOK HEN
                  go_enter Tryd.func25, Tryd.ntmps25
                  go_wp2
                  go_ret
                  exact ⟨rfl, Below.refl _ _⟩
                · clear HAL HNT HEOK HEN
                  go_enter Tryd.func25, Tryd.ntmps25
                  go_wp2_with (go_at_call 33; (with_reducible refine HAN.out.mono ?_); rintro e w3 ⟨rfl, hb3⟩)
                  go_ret
                  exact ⟨rfl, hb3⟩
              · clear HAN HNT HEOK HEN
                go_enter Tryd.func25, Tryd.ntmps25
                go_wp2_with (go_at_call 32; (with_reducible refine HAL.out.mono ?_); rintro e w3 ⟨rfl, hb3⟩)
                go_ret
                exact ⟨rfl, hb3⟩
            · have hn1 : n = 1 := by
                have := HEOK.out
                cases bN
                · simpa using this
                · exfalso
                  have h1 := beq_iff_eq.1 HEN.out
                  have h2 := beq_iff_eq.1 eT
                  rw [h1] at h2
                  simp at h2
              obtain ⟨b1, o1, rfl, hcl⟩ := HNT.out hn1
              have HW : Hid (Calls Tryd.prog 25 #[.pointer (some ⟨b1, o1, none⟩), .pointer (some ⟨bp, op, none⟩)] w fun e w' => e = .returned (.bool (s.headD false)) ∧ Below w.heap.size w w') := hcl
              subst hn1
              clear HAL HAN HNT HEOK HEN hcl
              go_enter Tryd.func25, Tryd.ntmps25
              go_wp2_with (go_at_call 25; (with_reducible refine HW.out.mono ?_); rintro e w3 ⟨rfl, hb3⟩)
              go_ret
              exact ⟨rfl, hb3⟩
          · clear HAL HAN HNT HEOK HEN
            go_enter Tryd.func25, Tryd.ntmps25
            go_wp2
            go_ret
            exact ⟨rfl, Below.refl _ _⟩
        · clear HAL HAN HNT HEOK HEN
          go_enter Tryd.func25, Tryd.ntmps25
          go_wp2
          go_ret
          exact ⟨rfl, Below.refl _ _⟩
      · clear HAL HAN HNT HEOK HEN
        go_enter Tryd.func25, Tryd.ntmps25
        go_wp2
        go_ret
        exact ⟨rfl, Below.refl _ _⟩
    · have hk5 : t.kind = 5 := by simpa using h5
      have hio : inOne t.kind t.name q (t.args.map (inM q)) = matchP (gs t.name) (gs q.name) := by unfold inOne; rw [h5]; rfl
      rw [hio]
      rw [hk5] at c0
      have KM : Hid (∀ v, Calls Tryd.prog 8 #[.string t.name, .string q.name] v fun e w' => e = .returned (.bool (matchP (gs t.name) (gs q.name))) ∧ Below v.heap.size v w') := fun v => mMatch_any _ _ (by omega) (by omega) v
      obtain ⟨X, hX⟩ : ∃ X, t.name = X := ⟨_, rfl⟩
      obtain ⟨Y, hY⟩ : ∃ Y, q.name = Y := ⟨_, rfl⟩
      rw [hX] at KM c1 ⊢
      rw [hY] at KM p0 ⊢
      clear ih hin hio hX hY hkid hp h hcall hf h5 hk5 c4 c5 c6 p1 p2
      go_enter Tryd.func25, Tryd.ntmps25
      go_wp2
      go_region_held3 (fun w' => w'.cell? ⟨b, o + 1, none⟩ = some (.string X) ∧ w'.cell? ⟨bp, op, none⟩ = some (.string Y)) (go_keep) (first | (go_at_call 8; (with_reducible refine (KM.out _).mono ?_); rintro e w3 ⟨rfl, hb3⟩; have y1 := (bel (bel_d _) hb3).cell (mcell_lt c1) |>.trans c1; have y2 := (bel (bel_d _) hb3).cell (mcell_lt p0) |>.trans p0))
      all_goals go_wp2
      go_ret
      exact ⟨rfl, bel (bel_d _) hb3⟩

end Go.Proofs.YtnhpnmilgcjeaaaDoor
