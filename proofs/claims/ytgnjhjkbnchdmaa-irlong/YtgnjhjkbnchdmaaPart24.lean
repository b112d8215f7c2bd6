import Derived.Test.YtgnjhjkbnchdmaaPart23
/- IrLong (by program, tool/layer18/genlong.py). -/
namespace Go.Proofs.Ytgnjhjkbnchdmaa
open Go.RowKit
set_option linter.unusedVariables false
set_option linter.unusedSimpArgs false

theorem und_I7 : Try.prog.underlying 27 = some (.slice (Try.prog.elem 27)) := by kernel_rfl
theorem elem_I7 : Try.prog.elem 27 = 34 := by kernel_rfl
theorem size_I7 (w : World) : (sizeOf (Try.prog.elem 27)).run Try.prog w = .ok 7 w := by rw [elem_I7]; exact Try.sizeOf34 w

set_option maxRecDepth 100000 in
set_option maxHeartbeats 16000000 in
theorem walk_IrLong (V0 : Int) (l0 : -9223372036854775808 ≤ V0) (u0 : V0 ≤ 9223372036854775807) (V1 : Int) (l1 : -9223372036854775808 ≤ V1) (u1 : V1 ≤ 9223372036854775807) (V2 : Int) (l2 : -9223372036854775808 ≤ V2) (u2 : V2 ≤ 9223372036854775807) (w : World) :
    Calls Try.prog 3 #[.agg #[.int .i64 V0, .int .i64 V1, .int .i64 V2]] w fun e w' => e = .returned (.bool true) ∧ Below w.heap.size w w' := by
  obtain ⟨a, ha⟩ : ∃ a : Nat, max 0 (min V0 200) = (a : Int) := ⟨(max 0 (min V0 200)).toNat, by omega⟩
  obtain ⟨b, hb⟩ : ∃ b : Nat, max 0 (min V1 40000) = (b : Int) := ⟨(max 0 (min V1 40000)).toNat, by omega⟩
  have a1 : a ≤ 200 := by omega
  have b1 : b ≤ 40000 := by omega
  have HWK : Hid (∀ v, Calls Try.prog 7 #[] v fun e w' => e = .returned (.bool true) ∧ Below v.heap.size v w') := works_any
  have hrow : RowG 7 inC ((w.alloc (.cells #[.int .i64 V0, .int .i64 V1, .int .i64 V2] 23)).alloc (.cells #[.int .i64 2, .int .i64 2, .int .i64 0, .int .i64 0, .int .i64 0, .int .i64 1, .int .u32 0] 34)) (.slice (some ⟨w.heap.size + 1, 0, none⟩) 1 1) [⟨2, 2, 0, 0, 0, 1, 0⟩] := by
    have h9 := rowG_lit (w.alloc (.cells #[.int .i64 V0, .int .i64 V1, .int .i64 V2] 23)) #[.int .i64 2, .int .i64 2, .int .i64 0, .int .i64 0, .int .i64 0, .int .i64 1, .int .u32 0] [⟨2, 2, 0, 0, 0, 1, 0⟩] rfl
    rw [show (w.alloc (.cells #[.int .i64 V0, .int .i64 V1, .int .i64 V2] 23)).heap.size = w.heap.size + 1 by simp] at h9
    exact h9
  have KS := small_blk [⟨2, 2, 0, 0, 0, 1, 0⟩] (by decide) _ _ hrow
  have z0 : ((w.alloc (.cells #[.int .i64 V0, .int .i64 V1, .int .i64 V2] 23)).alloc (.cells #[.int .i64 2, .int .i64 2, .int .i64 0, .int .i64 0, .int .i64 0, .int .i64 1, .int .u32 0] 34)).cell? ⟨w.heap.size, 0, none⟩ = some (.int .i64 V0) := kc (bel_alloc _ _) (by simp [go_sem])
  have z1 : ((w.alloc (.cells #[.int .i64 V0, .int .i64 V1, .int .i64 V2] 23)).alloc (.cells #[.int .i64 2, .int .i64 2, .int .i64 0, .int .i64 0, .int .i64 0, .int .i64 1, .int .u32 0] 34)).cell? ⟨w.heap.size, 1, none⟩ = some (.int .i64 V1) := kc (bel_alloc _ _) (by simp [go_sem])
  have z2 : ((w.alloc (.cells #[.int .i64 V0, .int .i64 V1, .int .i64 V2] 23)).alloc (.cells #[.int .i64 2, .int .i64 2, .int .i64 0, .int .i64 0, .int .i64 0, .int .i64 1, .int .u32 0] 34)).cell? ⟨w.heap.size, 2, none⟩ = some (.int .i64 V2) := kc (bel_alloc _ _) (by simp [go_sem])
  have HS0 : Hid (((w.alloc (.cells #[.int .i64 V0, .int .i64 V1, .int .i64 V2] 23)).alloc (.cells #[.int .i64 2, .int .i64 2, .int .i64 0, .int .i64 0, .int .i64 0, .int .i64 1, .int .u32 0] 34)).heap.size = w.heap.size + 1 + 1) := by show _ = _; simp
  have HKS : Hid (Calls Try.prog 4 #[.slice (some ⟨w.heap.size + 1, 0, none⟩) 1 1] ((w.alloc (.cells #[.int .i64 V0, .int .i64 V1, .int .i64 V2] 23)).alloc (.cells #[.int .i64 2, .int .i64 2, .int .i64 0, .int .i64 0, .int .i64 0, .int .i64 1, .int .u32 0] 34)) _) := KS
  have HZ : Hid (((w.alloc (.cells #[.int .i64 V0, .int .i64 V1, .int .i64 V2] 23)).alloc (.cells #[.int .i64 2, .int .i64 2, .int .i64 0, .int .i64 0, .int .i64 0, .int .i64 1, .int .u32 0] 34)).cell? ⟨w.heap.size, 0, none⟩ = some (.int .i64 V0) ∧ ((w.alloc (.cells #[.int .i64 V0, .int .i64 V1, .int .i64 V2] 23)).alloc (.cells #[.int .i64 2, .int .i64 2, .int .i64 0, .int .i64 0, .int .i64 0, .int .i64 1, .int .u32 0] 34)).cell? ⟨w.heap.size, 1, none⟩ = some (.int .i64 V1) ∧ ((w.alloc (.cells #[.int .i64 V0, .int .i64 V1, .int .i64 V2] 23)).alloc (.cells #[.int .i64 2, .int .i64 2, .int .i64 0, .int .i64 0, .int .i64 0, .int .i64 1, .int .u32 0] 34)).cell? ⟨w.heap.size, 2, none⟩ = some (.int .i64 V2)) := ⟨z0, z1, z2⟩
  clear KS hrow z0 z1 z2
  go_enter Try.func3, Try.ntmps3
  go_wp2_with (go_at_call 4; (with_reducible refine HKS.out.mono ?_); rintro e w1 ⟨s, v3, rfl, hcd, hown, hb1, hsg, hrg, hss⟩; obtain ⟨p, q, rfl⟩ := own_len hown; have HLG : Hid (LG w V0 V1 V2 w1.heap.size s p q [⟨2, 2, 0, 0, 0, 1, 0⟩] (w1.alloc (.cells #[.slice (some ⟨s, 0, none⟩) 1 1, .slice (some ⟨s + 1, 0, none⟩) 3 3, .slice none 0 0, .slice p 1 q] 29))) := long_start w V0 V1 V2 _ w1 s p q HS0.out hb1 (bel (bel_alloc _ _) (bel_alloc _ _)) HZ.out.1 HZ.out.2.1 HZ.out.2.2 hown hsg hrg; clear hcd hown hb1 hsg hrg hss)
  obtain ⟨D, hD⟩ : ∃ D, w1.heap.size = D := ⟨_, rfl⟩
  obtain ⟨W1, hW1⟩ : ∃ W, w1.alloc (.cells #[.slice (some ⟨s, 0, none⟩) 1 1, .slice (some ⟨s + 1, 0, none⟩) 3 3, .slice none 0 0, .slice p 1 q] 29) = W := ⟨_, rfl⟩
  rw [hW1, hD] at HLG
  try rw [hW1]
  try rw [hD]
  clear hW1 hD HKS HZ HS0
  go_loopw [6] (fun iv wr => ∃ (j : Nat) (l : List Ins) (p : Option Addr) (q : Nat), j ≤ a ∧ iv = .int .i64 (j : Int) ∧ Hid (LG w V0 V1 V2 D s p q l wr) ∧ Hid (l.length ≤ 1 + j) ∧ Hid (∀ i ∈ l, 0 ≤ i.bits ∧ i.bits < 4294967296)) (fun iv _ => a - (intOf iv).toNat)
  case atStart => exact ⟨0, _, p, q, Nat.zero_le _, rfl, HLG.out, by show _ ≤ _; simp, fun i hi => by simp at hi; subst hi; exact ⟨by decide, by decide⟩⟩
  case round =>
    obtain ⟨j, l, p, q, hj, rfl, hlg, hq1, hq2⟩ := hrel
    by_cases hlt : j < a
    · have i2 : (j : Int) < (a : Int) := by omega
      have wi : IntKind.i64.wrap ((j : Int) + 1) = ((j + 1 : Nat) : Int) := by rw [IntKind.wrap_i64]; omega
      have hmore := hlg.out.more ([⟨34, 0, 2, 0, 0, 0, 0⟩] : List Ins) #[.int .i64 34, .int .i64 0, .int .i64 2, .int .i64 0, .int .i64 0, .int .i64 0, .int .u32 0] (by rfl) (by have := hq1.out; simp; omega)
      obtain ⟨p2, c2, w2, hap, hc3, hz3, hlg2⟩ := hmore
      have hap' : (Builtin.append_ #[27, 27] 27 #[.slice p l.length q, .slice (some ⟨wr.heap.size, 0, none⟩) 1 1]).run Try.prog (wr.alloc (.cells #[.int .i64 34, .int .i64 0, .int .i64 2, .int .i64 0, .int .i64 0, .int .i64 0, .int .u32 0] 34)) = .ok (.slice p2 (l.length + 1) c2) w2 := hap
      have hlg2' : LG w V0 V1 V2 D s p2 c2 (l ++ ([⟨34, 0, 2, 0, 0, 0, 0⟩] : List Ins)) (w2.setCell ⟨D, 3, none⟩ (.slice p2 (l.length + 1) c2)) := hlg2
      have c3 := hlg.out.box.cell (i := 3) (by decide)
      have c3' : wr.cell? ⟨D, 3, none⟩ = some (.slice p l.length q) := c3
      obtain ⟨n, hn⟩ : ∃ n, l.length = n := ⟨_, rfl⟩
      have HNL : Hid (l.length = n) := hn
      rw [hn] at hap' hlg2' c3' hc3
      have a2 := hlg.out.a2
      have c3a : ∀ o, (wr.alloc o).cell? ⟨D, 3, none⟩ = some (.slice p n q) := fun o => kc (bel_alloc _ _) c3'
      have HAP : Hid ((Builtin.append_ #[27, 27] 27 #[.slice p n q, .slice (some ⟨wr.heap.size, 0, none⟩) 1 1]).run Try.prog (wr.alloc (.cells #[.int .i64 34, .int .i64 0, .int .i64 2, .int .i64 0, .int .i64 0, .int .i64 0, .int .u32 0] 34)) = .ok (.slice p2 (n + 1) c2) w2) := hap'
      have HLG2 : Hid (LG w V0 V1 V2 D s p2 c2 (l ++ ([⟨34, 0, 2, 0, 0, 0, 0⟩] : List Ins)) (w2.setCell ⟨D, 3, none⟩ (.slice p2 (n + 1) c2))) := hlg2'
      have HQ2 : Hid ((l ++ ([⟨34, 0, 2, 0, 0, 0, 0⟩] : List Ins)).length ≤ l.length + 1 ∧ ∀ i ∈ l ++ ([⟨34, 0, 2, 0, 0, 0, 0⟩] : List Ins), 0 ≤ i.bits ∧ i.bits < 4294967296) := ⟨by simp, fun i hi => by
        rcases List.mem_append.1 hi with h | h
        · exact hq2.out i h
        · simp at h
          first | (subst h; exact ⟨by decide, by decide⟩) | (rcases h with rfl | rfl | rfl <;> exact ⟨by decide, by decide⟩)⟩
      clear hap hap' hlg2 hlg2' c3 hn
      go_wp2_with (at_builtin; refine wpList_app (by rfl) _ _ _ (by rfl) _ _ _ (by rfl) (by rfl) HAP.out ?_)
      go_roundw
      case rel => exact ⟨j + 1, _, _, _, by omega, by go_num, HLG2.out, by show _ ≤ _; have h1 := HQ2.out.1; have h2 := hq1.out; omega, HQ2.out.2⟩
      case measure => simp [intOf]; omega
    have hjn : j = a := by omega
    have e1 : ¬ (j : Int) < (a : Int) := by omega
    clear hlt
    go_wp2
    clear e1
    go_loopw [7] (fun iv wr => ∃ (j : Nat) (l : List Ins) (p : Option Addr) (q : Nat), j ≤ b ∧ iv = .int .i64 (j : Int) ∧ Hid (LG w V0 V1 V2 D s p q l wr) ∧ Hid (l.length ≤ 1 + a + j) ∧ Hid (∀ i ∈ l, 0 ≤ i.bits ∧ i.bits < 4294967296)) (fun iv _ => b - (intOf iv).toNat)
    case atStart => exact ⟨0, l, p, q, Nat.zero_le _, rfl, hlg.out, by show _ ≤ _; have h2 := hq1.out; omega, hq2.out⟩
    case round =>
      obtain ⟨j, l, p, q, hj, rfl, hlg, hq1, hq2⟩ := hrel
      by_cases hlt : j < b
      · have i2 : (j : Int) < (b : Int) := by omega
        have wi : IntKind.i64.wrap ((j : Int) + 1) = ((j + 1 : Nat) : Int) := by rw [IntKind.wrap_i64]; omega
        have hmore := hlg.out.more ([⟨21, 2, 2, 0, 0, 0, 0⟩] : List Ins) #[.int .i64 21, .int .i64 2, .int .i64 2, .int .i64 0, .int .i64 0, .int .i64 0, .int .u32 0] (by rfl) (by have := hq1.out; simp; omega)
        obtain ⟨p2, c2, w2, hap, hc3, hz3, hlg2⟩ := hmore
        have hap' : (Builtin.append_ #[27, 27] 27 #[.slice p l.length q, .slice (some ⟨wr.heap.size, 0, none⟩) 1 1]).run Try.prog (wr.alloc (.cells #[.int .i64 21, .int .i64 2, .int .i64 2, .int .i64 0, .int .i64 0, .int .i64 0, .int .u32 0] 34)) = .ok (.slice p2 (l.length + 1) c2) w2 := hap
        have hlg2' : LG w V0 V1 V2 D s p2 c2 (l ++ ([⟨21, 2, 2, 0, 0, 0, 0⟩] : List Ins)) (w2.setCell ⟨D, 3, none⟩ (.slice p2 (l.length + 1) c2)) := hlg2
        have c3 := hlg.out.box.cell (i := 3) (by decide)
        have c3' : wr.cell? ⟨D, 3, none⟩ = some (.slice p l.length q) := c3
        obtain ⟨n, hn⟩ : ∃ n, l.length = n := ⟨_, rfl⟩
        have HNL : Hid (l.length = n) := hn
        rw [hn] at hap' hlg2' c3' hc3
        have a2 := hlg.out.a2
        have c3a : ∀ o, (wr.alloc o).cell? ⟨D, 3, none⟩ = some (.slice p n q) := fun o => kc (bel_alloc _ _) c3'
        have HAP : Hid ((Builtin.append_ #[27, 27] 27 #[.slice p n q, .slice (some ⟨wr.heap.size, 0, none⟩) 1 1]).run Try.prog (wr.alloc (.cells #[.int .i64 21, .int .i64 2, .int .i64 2, .int .i64 0, .int .i64 0, .int .i64 0, .int .u32 0] 34)) = .ok (.slice p2 (n + 1) c2) w2) := hap'
        have HLG2 : Hid (LG w V0 V1 V2 D s p2 c2 (l ++ ([⟨21, 2, 2, 0, 0, 0, 0⟩] : List Ins)) (w2.setCell ⟨D, 3, none⟩ (.slice p2 (n + 1) c2))) := hlg2'
        have HQ2 : Hid ((l ++ ([⟨21, 2, 2, 0, 0, 0, 0⟩] : List Ins)).length ≤ l.length + 1 ∧ ∀ i ∈ l ++ ([⟨21, 2, 2, 0, 0, 0, 0⟩] : List Ins), 0 ≤ i.bits ∧ i.bits < 4294967296) := ⟨by simp, fun i hi => by
          rcases List.mem_append.1 hi with h | h
          · exact hq2.out i h
          · simp at h
            first | (subst h; exact ⟨by decide, by decide⟩) | (rcases h with rfl | rfl | rfl <;> exact ⟨by decide, by decide⟩)⟩
        clear hap hap' hlg2 hlg2' c3 hn
        go_wp2_with (at_builtin; refine wpList_app (by rfl) _ _ _ (by rfl) _ _ _ (by rfl) (by rfl) HAP.out ?_)
        go_roundw
        case rel => exact ⟨j + 1, _, _, _, by omega, by go_num, HLG2.out, by show _ ≤ _; have h1 := HQ2.out.1; have h2 := hq1.out; omega, HQ2.out.2⟩
        case measure => simp [intOf]; omega
      have hjn : j = b := by omega
      have e1 : ¬ (j : Int) < (b : Int) := by omega
      clear hlt
      by_cases hV1 : V2 = 1
      · have HV2 : Hid (V2 = 1) := hV1
        have r0 : (V2 == 1) = true := by simpa using hV1
        clear hV1
        have hmore := hlg.out.more ([⟨36, 0, 0, 0, 0, 0, 0⟩, ⟨29, 1, 0, 0, 0, 0, 0⟩, ⟨37, 0, 0, 0, 0, 0, 0⟩] : List Ins) #[.int .i64 36, .int .i64 0, .int .i64 0, .int .i64 0, .int .i64 0, .int .i64 0, .int .u32 0, .int .i64 29, .int .i64 1, .int .i64 0, .int .i64 0, .int .i64 0, .int .i64 0, .int .u32 0, .int .i64 37, .int .i64 0, .int .i64 0, .int .i64 0, .int .i64 0, .int .i64 0, .int .u32 0] (by rfl) (by have := hq1.out; simp; omega)
        obtain ⟨p2, c2, w2, hap, hc3, hz3, hlg2⟩ := hmore
        have hap' : (Builtin.append_ #[27, 27] 27 #[.slice p l.length q, .slice (some ⟨wr.heap.size, 0, none⟩) 3 3]).run Try.prog (wr.alloc (.cells #[.int .i64 36, .int .i64 0, .int .i64 0, .int .i64 0, .int .i64 0, .int .i64 0, .int .u32 0, .int .i64 29, .int .i64 1, .int .i64 0, .int .i64 0, .int .i64 0, .int .i64 0, .int .u32 0, .int .i64 37, .int .i64 0, .int .i64 0, .int .i64 0, .int .i64 0, .int .i64 0, .int .u32 0] 34)) = .ok (.slice p2 (l.length + 3) c2) w2 := hap
        have hlg2' : LG w V0 V1 V2 D s p2 c2 (l ++ ([⟨36, 0, 0, 0, 0, 0, 0⟩, ⟨29, 1, 0, 0, 0, 0, 0⟩, ⟨37, 0, 0, 0, 0, 0, 0⟩] : List Ins)) (w2.setCell ⟨D, 3, none⟩ (.slice p2 (l.length + 3) c2)) := hlg2
        have c3 := hlg.out.box.cell (i := 3) (by decide)
        have c3' : wr.cell? ⟨D, 3, none⟩ = some (.slice p l.length q) := c3
        obtain ⟨n, hn⟩ : ∃ n, l.length = n := ⟨_, rfl⟩
        have HNL : Hid (l.length = n) := hn
        rw [hn] at hap' hlg2' c3' hc3
        have a2 := hlg.out.a2
        have c3a : ∀ o, (wr.alloc o).cell? ⟨D, 3, none⟩ = some (.slice p n q) := fun o => kc (bel_alloc _ _) c3'
        have HAP : Hid ((Builtin.append_ #[27, 27] 27 #[.slice p n q, .slice (some ⟨wr.heap.size, 0, none⟩) 3 3]).run Try.prog (wr.alloc (.cells #[.int .i64 36, .int .i64 0, .int .i64 0, .int .i64 0, .int .i64 0, .int .i64 0, .int .u32 0, .int .i64 29, .int .i64 1, .int .i64 0, .int .i64 0, .int .i64 0, .int .i64 0, .int .u32 0, .int .i64 37, .int .i64 0, .int .i64 0, .int .i64 0, .int .i64 0, .int .i64 0, .int .u32 0] 34)) = .ok (.slice p2 (n + 3) c2) w2) := hap'
        have HLG2 : Hid (LG w V0 V1 V2 D s p2 c2 (l ++ ([⟨36, 0, 0, 0, 0, 0, 0⟩, ⟨29, 1, 0, 0, 0, 0, 0⟩, ⟨37, 0, 0, 0, 0, 0, 0⟩] : List Ins)) (w2.setCell ⟨D, 3, none⟩ (.slice p2 (n + 3) c2))) := hlg2'
        have HQ2 : Hid ((l ++ ([⟨36, 0, 0, 0, 0, 0, 0⟩, ⟨29, 1, 0, 0, 0, 0, 0⟩, ⟨37, 0, 0, 0, 0, 0, 0⟩] : List Ins)).length ≤ l.length + 3 ∧ ∀ i ∈ l ++ ([⟨36, 0, 0, 0, 0, 0, 0⟩, ⟨29, 1, 0, 0, 0, 0, 0⟩, ⟨37, 0, 0, 0, 0, 0, 0⟩] : List Ins), 0 ≤ i.bits ∧ i.bits < 4294967296) := ⟨by simp, fun i hi => by
          rcases List.mem_append.1 hi with h | h
          · exact hq2.out i h
          · simp at h
            first | (subst h; exact ⟨by decide, by decide⟩) | (rcases h with rfl | rfl | rfl <;> exact ⟨by decide, by decide⟩)⟩
        clear hap hap' hlg2 hlg2' c3 hn
        go_wp2_with (at_builtin; refine wpList_app (by rfl) _ _ _ (by rfl) _ _ _ (by rfl) (by rfl) HAP.out ?_)
        obtain ⟨W5, hW5⟩ : ∃ W, w2.setCell ⟨D, 3, none⟩ (.slice p2 (n + 3) c2) = W := ⟨_, rfl⟩
        rw [hW5] at HLG2
        try rw [hW5]
        clear hW5
        go_loopw [8] (fun iv wr => ∃ (j : Nat) (l : List Ins) (p : Option Addr) (q : Nat), j ≤ a ∧ iv = .int .i64 (j : Int) ∧ Hid (LG w V0 V1 V2 D s p q l wr) ∧ Hid (l.length ≤ 5 + a + b + j) ∧ Hid (∀ i ∈ l, 0 ≤ i.bits ∧ i.bits < 4294967296)) (fun iv _ => a - (intOf iv).toNat)
        case atStart => exact ⟨0, _, _, _, Nat.zero_le _, rfl, HLG2.out, by show _ ≤ _; have h1 := HQ2.out.1; have h2 := hq1.out; omega, HQ2.out.2⟩
        case round =>
          obtain ⟨j, l, p, q, hj, rfl, hlg, hq1, hq2⟩ := hrel
          by_cases hlt : j < a
          · have i2 : (j : Int) < (a : Int) := by omega
            have wi : IntKind.i64.wrap ((j : Int) + 1) = ((j + 1 : Nat) : Int) := by rw [IntKind.wrap_i64]; omega
            have hmore := hlg.out.more ([⟨35, 0, 0, 0, 0, 0, 0⟩] : List Ins) #[.int .i64 35, .int .i64 0, .int .i64 0, .int .i64 0, .int .i64 0, .int .i64 0, .int .u32 0] (by rfl) (by have := hq1.out; simp; omega)
            obtain ⟨p2, c2, w2, hap, hc3, hz3, hlg2⟩ := hmore
            have hap' : (Builtin.append_ #[27, 27] 27 #[.slice p l.length q, .slice (some ⟨wr.heap.size, 0, none⟩) 1 1]).run Try.prog (wr.alloc (.cells #[.int .i64 35, .int .i64 0, .int .i64 0, .int .i64 0, .int .i64 0, .int .i64 0, .int .u32 0] 34)) = .ok (.slice p2 (l.length + 1) c2) w2 := hap
            have hlg2' : LG w V0 V1 V2 D s p2 c2 (l ++ ([⟨35, 0, 0, 0, 0, 0, 0⟩] : List Ins)) (w2.setCell ⟨D, 3, none⟩ (.slice p2 (l.length + 1) c2)) := hlg2
            have c3 := hlg.out.box.cell (i := 3) (by decide)
            have c3' : wr.cell? ⟨D, 3, none⟩ = some (.slice p l.length q) := c3
            obtain ⟨n, hn⟩ : ∃ n, l.length = n := ⟨_, rfl⟩
            have HNL : Hid (l.length = n) := hn
            rw [hn] at hap' hlg2' c3' hc3
            have a2 := hlg.out.a2
            have c3a : ∀ o, (wr.alloc o).cell? ⟨D, 3, none⟩ = some (.slice p n q) := fun o => kc (bel_alloc _ _) c3'
            have HAP : Hid ((Builtin.append_ #[27, 27] 27 #[.slice p n q, .slice (some ⟨wr.heap.size, 0, none⟩) 1 1]).run Try.prog (wr.alloc (.cells #[.int .i64 35, .int .i64 0, .int .i64 0, .int .i64 0, .int .i64 0, .int .i64 0, .int .u32 0] 34)) = .ok (.slice p2 (n + 1) c2) w2) := hap'
            have HLG2 : Hid (LG w V0 V1 V2 D s p2 c2 (l ++ ([⟨35, 0, 0, 0, 0, 0, 0⟩] : List Ins)) (w2.setCell ⟨D, 3, none⟩ (.slice p2 (n + 1) c2))) := hlg2'
            have HQ2 : Hid ((l ++ ([⟨35, 0, 0, 0, 0, 0, 0⟩] : List Ins)).length ≤ l.length + 1 ∧ ∀ i ∈ l ++ ([⟨35, 0, 0, 0, 0, 0, 0⟩] : List Ins), 0 ≤ i.bits ∧ i.bits < 4294967296) := ⟨by simp, fun i hi => by
              rcases List.mem_append.1 hi with h | h
              · exact hq2.out i h
              · simp at h
                first | (subst h; exact ⟨by decide, by decide⟩) | (rcases h with rfl | rfl | rfl <;> exact ⟨by decide, by decide⟩)⟩
            clear hap hap' hlg2 hlg2' c3 hn
            go_wp2_with (at_builtin; refine wpList_app (by rfl) _ _ _ (by rfl) _ _ _ (by rfl) (by rfl) HAP.out ?_)
            go_roundw
            case rel => exact ⟨j + 1, _, _, _, by omega, by go_num, HLG2.out, by show _ ≤ _; have h1 := HQ2.out.1; have h2 := hq1.out; omega, HQ2.out.2⟩
            case measure => simp [intOf]; omega
          have hjn : j = a := by omega
          have e1 : ¬ (j : Int) < (a : Int) := by omega
          clear hlt
          have r1 : (V2 == 2) = false := by rw [HV2.out]; decide
          have r2 : (V2 == 3) = false := by rw [HV2.out]; decide
          obtain ⟨n, hn⟩ : ∃ n, l.length = n := ⟨_, rfl⟩
          have KC := fun x0 x1 x2 x3 => check_any x0 x1 x2 x3 (smallC (l)) (smallC_ok (by have := hq1.out; omega) hq2.out)
          have KR := fun x0 x1 x2 x3 => rcheck16_any x0 x1 x2 x3 (smallC (l)) (smallC_ok (by have := hq1.out; omega) hq2.out)
          have c0 : (wr).cell? ⟨D, 0, none⟩ = some (.slice (some ⟨s, 0, none⟩) 1 1) := hlg.out.box.cell (i := 0) (by decide)
          have c1 : (wr).cell? ⟨D, 1, none⟩ = some (.slice (some ⟨s + 1, 0, none⟩) 3 3) := hlg.out.box.cell (i := 1) (by decide)
          have c2x : (wr).cell? ⟨D, 2, none⟩ = some (.slice none 0 0) := hlg.out.box.cell (i := 2) (by decide)
          have c3x : (wr).cell? ⟨D, 3, none⟩ = some (.slice p (l).length q) := hlg.out.box.cell (i := 3) (by decide)
          have a2x := hlg.out.a2
          have HCD : Hid (CdV (wr) (.slice (some ⟨s, 0, none⟩) 1 1) (.slice (some ⟨s + 1, 0, none⟩) 3 3) (.slice none 0 0) (.slice p (l).length q) (smallC (l))) := hlg.out.cdv
          obtain ⟨PE, hPE⟩ : ∃ x, (checkC (smallC (l))).1 = x := ⟨_, rfl⟩
          obtain ⟨PP, hPP⟩ : ∃ x, (checkC (smallC (l))).2 = x := ⟨_, rfl⟩
          have hn9 : (l).length = n := hn
          have HKC : Hid (∀ v, Below (wr).heap.size (wr) v → Calls Try.prog 5 #[.agg #[.slice (some ⟨s, 0, none⟩) 1 1, .slice (some ⟨s + 1, 0, none⟩) 3 3, .slice none 0 0, .slice p (n) q]] v fun e w' => e = .returned (.tuple #[.int .i64 PE, .int .i64 PP]) ∧ Below v.heap.size v w') := fun v hb => by rw [← hn9, ← hPE, ← hPP]; exact KC _ _ _ _ v (HCD.out.below hb)
          have HKR : Hid (∀ v, Below (wr).heap.size (wr) v → Calls Try.prog 6 #[.agg #[.slice (some ⟨s, 0, none⟩) 1 1, .slice (some ⟨s + 1, 0, none⟩) 3 3, .slice none 0 0, .slice p (n) q]] v fun e w' => e = .returned (.tuple #[.int .i64 PE, .int .i64 PP]) ∧ Below v.heap.size v w') := fun v hb => by rw [← hn9, ← hPE, ← hPP]; exact KR _ _ _ _ v (HCD.out.below hb)
          rw [hn9] at c3x
          clear hPE hPP hn9 KC KR
          go_wp2_with (first
            | (go_at_call 5; (with_reducible refine (HKC.out _ (bel0 _)).mono ?_); rintro e w6 ⟨rfl, hb6⟩; have HB6 : Hid (Below (wr).heap.size (wr) w6) := hb6; have c0 := kc hb6 c0; have c1 := kc hb6 c1; have c2y := kc hb6 c2x; have c3y := kc hb6 c3x; clear hb6)
            | (go_at_call 6; (with_reducible refine (HKR.out _ HB6.out).mono ?_); rintro e w7 ⟨rfl, hb7⟩; have HB7 : Hid (Below w6.heap.size w6 w7) := hb7; clear hb7)
            | (go_at_call 7; (with_reducible refine (HWK.out _).mono ?_); rintro e w8 ⟨rfl, hb8⟩; have HB8 : Hid (Below w7.heap.size w7 w8) := hb8; clear hb8))
          go_ret
          exact ⟨rfl, bel hlg.out.bel (bel HB6.out (bel HB7.out HB8.out))⟩
      · have r0 : (V2 == 1) = false := by simpa using hV1
        have a2 := hlg.out.a2
        go_wp2
        clear e1
        go_loopw [8] (fun iv wr => ∃ (j : Nat) (l : List Ins) (p : Option Addr) (q : Nat), j ≤ a ∧ iv = .int .i64 (j : Int) ∧ Hid (LG w V0 V1 V2 D s p q l wr) ∧ Hid (l.length ≤ 5 + a + b + j) ∧ Hid (∀ i ∈ l, 0 ≤ i.bits ∧ i.bits < 4294967296)) (fun iv _ => a - (intOf iv).toNat)
        case atStart => exact ⟨0, l, p, q, Nat.zero_le _, rfl, hlg.out, by show _ ≤ _; have h2 := hq1.out; omega, hq2.out⟩
        case round =>
          obtain ⟨j, l, p, q, hj, rfl, hlg, hq1, hq2⟩ := hrel
          by_cases hlt : j < a
          · have i2 : (j : Int) < (a : Int) := by omega
            have wi : IntKind.i64.wrap ((j : Int) + 1) = ((j + 1 : Nat) : Int) := by rw [IntKind.wrap_i64]; omega
            have hmore := hlg.out.more ([⟨35, 0, 0, 0, 0, 0, 0⟩] : List Ins) #[.int .i64 35, .int .i64 0, .int .i64 0, .int .i64 0, .int .i64 0, .int .i64 0, .int .u32 0] (by rfl) (by have := hq1.out; simp; omega)
            obtain ⟨p2, c2, w2, hap, hc3, hz3, hlg2⟩ := hmore
            have hap' : (Builtin.append_ #[27, 27] 27 #[.slice p l.length q, .slice (some ⟨wr.heap.size, 0, none⟩) 1 1]).run Try.prog (wr.alloc (.cells #[.int .i64 35, .int .i64 0, .int .i64 0, .int .i64 0, .int .i64 0, .int .i64 0, .int .u32 0] 34)) = .ok (.slice p2 (l.length + 1) c2) w2 := hap
            have hlg2' : LG w V0 V1 V2 D s p2 c2 (l ++ ([⟨35, 0, 0, 0, 0, 0, 0⟩] : List Ins)) (w2.setCell ⟨D, 3, none⟩ (.slice p2 (l.length + 1) c2)) := hlg2
            have c3 := hlg.out.box.cell (i := 3) (by decide)
            have c3' : wr.cell? ⟨D, 3, none⟩ = some (.slice p l.length q) := c3
            obtain ⟨n, hn⟩ : ∃ n, l.length = n := ⟨_, rfl⟩
            have HNL : Hid (l.length = n) := hn
            rw [hn] at hap' hlg2' c3' hc3
            have a2 := hlg.out.a2
            have c3a : ∀ o, (wr.alloc o).cell? ⟨D, 3, none⟩ = some (.slice p n q) := fun o => kc (bel_alloc _ _) c3'
            have HAP : Hid ((Builtin.append_ #[27, 27] 27 #[.slice p n q, .slice (some ⟨wr.heap.size, 0, none⟩) 1 1]).run Try.prog (wr.alloc (.cells #[.int .i64 35, .int .i64 0, .int .i64 0, .int .i64 0, .int .i64 0, .int .i64 0, .int .u32 0] 34)) = .ok (.slice p2 (n + 1) c2) w2) := hap'
            have HLG2 : Hid (LG w V0 V1 V2 D s p2 c2 (l ++ ([⟨35, 0, 0, 0, 0, 0, 0⟩] : List Ins)) (w2.setCell ⟨D, 3, none⟩ (.slice p2 (n + 1) c2))) := hlg2'
            have HQ2 : Hid ((l ++ ([⟨35, 0, 0, 0, 0, 0, 0⟩] : List Ins)).length ≤ l.length + 1 ∧ ∀ i ∈ l ++ ([⟨35, 0, 0, 0, 0, 0, 0⟩] : List Ins), 0 ≤ i.bits ∧ i.bits < 4294967296) := ⟨by simp, fun i hi => by
              rcases List.mem_append.1 hi with h | h
              · exact hq2.out i h
              · simp at h
                first | (subst h; exact ⟨by decide, by decide⟩) | (rcases h with rfl | rfl | rfl <;> exact ⟨by decide, by decide⟩)⟩
            clear hap hap' hlg2 hlg2' c3 hn
            go_wp2_with (at_builtin; refine wpList_app (by rfl) _ _ _ (by rfl) _ _ _ (by rfl) (by rfl) HAP.out ?_)
            go_roundw
            case rel => exact ⟨j + 1, _, _, _, by omega, by go_num, HLG2.out, by show _ ≤ _; have h1 := HQ2.out.1; have h2 := hq1.out; omega, HQ2.out.2⟩
            case measure => simp [intOf]; omega
          have hjn : j = a := by omega
          have e1 : ¬ (j : Int) < (a : Int) := by omega
          clear hlt
          by_cases hV2 : V2 = 2
          · have r1 : (V2 == 2) = true := by simpa using hV2
            have r2 : (V2 == 3) = false := by rw [hV2]; decide
            clear hV2
            have hmore := hlg.out.more ([⟨35, 0, 0, 0, 0, 0, 0⟩] : List Ins) #[.int .i64 35, .int .i64 0, .int .i64 0, .int .i64 0, .int .i64 0, .int .i64 0, .int .u32 0] (by rfl) (by have := hq1.out; simp; omega)
            obtain ⟨p2, c2, w2, hap, hc3, hz3, hlg2⟩ := hmore
            have hap' : (Builtin.append_ #[27, 27] 27 #[.slice p l.length q, .slice (some ⟨wr.heap.size, 0, none⟩) 1 1]).run Try.prog (wr.alloc (.cells #[.int .i64 35, .int .i64 0, .int .i64 0, .int .i64 0, .int .i64 0, .int .i64 0, .int .u32 0] 34)) = .ok (.slice p2 (l.length + 1) c2) w2 := hap
            have hlg2' : LG w V0 V1 V2 D s p2 c2 (l ++ ([⟨35, 0, 0, 0, 0, 0, 0⟩] : List Ins)) (w2.setCell ⟨D, 3, none⟩ (.slice p2 (l.length + 1) c2)) := hlg2
            have c3 := hlg.out.box.cell (i := 3) (by decide)
            have c3' : wr.cell? ⟨D, 3, none⟩ = some (.slice p l.length q) := c3
            obtain ⟨n, hn⟩ : ∃ n, l.length = n := ⟨_, rfl⟩
            have HNL : Hid (l.length = n) := hn
            rw [hn] at hap' hlg2' c3' hc3
            have a2 := hlg.out.a2
            have c3a : ∀ o, (wr.alloc o).cell? ⟨D, 3, none⟩ = some (.slice p n q) := fun o => kc (bel_alloc _ _) c3'
            have HAP : Hid ((Builtin.append_ #[27, 27] 27 #[.slice p n q, .slice (some ⟨wr.heap.size, 0, none⟩) 1 1]).run Try.prog (wr.alloc (.cells #[.int .i64 35, .int .i64 0, .int .i64 0, .int .i64 0, .int .i64 0, .int .i64 0, .int .u32 0] 34)) = .ok (.slice p2 (n + 1) c2) w2) := hap'
            have HLG2 : Hid (LG w V0 V1 V2 D s p2 c2 (l ++ ([⟨35, 0, 0, 0, 0, 0, 0⟩] : List Ins)) (w2.setCell ⟨D, 3, none⟩ (.slice p2 (n + 1) c2))) := hlg2'
            have HQ2 : Hid ((l ++ ([⟨35, 0, 0, 0, 0, 0, 0⟩] : List Ins)).length ≤ l.length + 1 ∧ ∀ i ∈ l ++ ([⟨35, 0, 0, 0, 0, 0, 0⟩] : List Ins), 0 ≤ i.bits ∧ i.bits < 4294967296) := ⟨by simp, fun i hi => by
              rcases List.mem_append.1 hi with h | h
              · exact hq2.out i h
              · simp at h
                first | (subst h; exact ⟨by decide, by decide⟩) | (rcases h with rfl | rfl | rfl <;> exact ⟨by decide, by decide⟩)⟩
            clear hap hap' hlg2 hlg2' c3 hn
            have KC := fun x0 x1 x2 x3 => check_any x0 x1 x2 x3 (smallC (l ++ ([⟨35, 0, 0, 0, 0, 0, 0⟩] : List Ins))) (smallC_ok (by have h1 := HQ2.out.1; have h2 := hq1.out; omega) HQ2.out.2)
            have KR := fun x0 x1 x2 x3 => rcheck16_any x0 x1 x2 x3 (smallC (l ++ ([⟨35, 0, 0, 0, 0, 0, 0⟩] : List Ins))) (smallC_ok (by have h1 := HQ2.out.1; have h2 := hq1.out; omega) HQ2.out.2)
            have c0 : (w2.setCell ⟨D, 3, none⟩ (.slice p2 (n + 1) c2)).cell? ⟨D, 0, none⟩ = some (.slice (some ⟨s, 0, none⟩) 1 1) := HLG2.out.box.cell (i := 0) (by decide)
            have c1 : (w2.setCell ⟨D, 3, none⟩ (.slice p2 (n + 1) c2)).cell? ⟨D, 1, none⟩ = some (.slice (some ⟨s + 1, 0, none⟩) 3 3) := HLG2.out.box.cell (i := 1) (by decide)
            have c2x : (w2.setCell ⟨D, 3, none⟩ (.slice p2 (n + 1) c2)).cell? ⟨D, 2, none⟩ = some (.slice none 0 0) := HLG2.out.box.cell (i := 2) (by decide)
            have c3x : (w2.setCell ⟨D, 3, none⟩ (.slice p2 (n + 1) c2)).cell? ⟨D, 3, none⟩ = some (.slice p2 (l ++ ([⟨35, 0, 0, 0, 0, 0, 0⟩] : List Ins)).length c2) := HLG2.out.box.cell (i := 3) (by decide)
            have a2x := HLG2.out.a2
            have HCD : Hid (CdV (w2.setCell ⟨D, 3, none⟩ (.slice p2 (n + 1) c2)) (.slice (some ⟨s, 0, none⟩) 1 1) (.slice (some ⟨s + 1, 0, none⟩) 3 3) (.slice none 0 0) (.slice p2 (l ++ ([⟨35, 0, 0, 0, 0, 0, 0⟩] : List Ins)).length c2) (smallC (l ++ ([⟨35, 0, 0, 0, 0, 0, 0⟩] : List Ins)))) := HLG2.out.cdv
            obtain ⟨PE, hPE⟩ : ∃ x, (checkC (smallC (l ++ ([⟨35, 0, 0, 0, 0, 0, 0⟩] : List Ins)))).1 = x := ⟨_, rfl⟩
            obtain ⟨PP, hPP⟩ : ∃ x, (checkC (smallC (l ++ ([⟨35, 0, 0, 0, 0, 0, 0⟩] : List Ins)))).2 = x := ⟨_, rfl⟩
            have hn9 : (l ++ ([⟨35, 0, 0, 0, 0, 0, 0⟩] : List Ins)).length = n + 1 := by rw [List.length_append, HNL.out]; rfl
            have HKC : Hid (∀ v, Below (w2.setCell ⟨D, 3, none⟩ (.slice p2 (n + 1) c2)).heap.size (w2.setCell ⟨D, 3, none⟩ (.slice p2 (n + 1) c2)) v → Calls Try.prog 5 #[.agg #[.slice (some ⟨s, 0, none⟩) 1 1, .slice (some ⟨s + 1, 0, none⟩) 3 3, .slice none 0 0, .slice p2 (n + 1) c2]] v fun e w' => e = .returned (.tuple #[.int .i64 PE, .int .i64 PP]) ∧ Below v.heap.size v w') := fun v hb => by rw [← hn9, ← hPE, ← hPP]; exact KC _ _ _ _ v (HCD.out.below hb)
            have HKR : Hid (∀ v, Below (w2.setCell ⟨D, 3, none⟩ (.slice p2 (n + 1) c2)).heap.size (w2.setCell ⟨D, 3, none⟩ (.slice p2 (n + 1) c2)) v → Calls Try.prog 6 #[.agg #[.slice (some ⟨s, 0, none⟩) 1 1, .slice (some ⟨s + 1, 0, none⟩) 3 3, .slice none 0 0, .slice p2 (n + 1) c2]] v fun e w' => e = .returned (.tuple #[.int .i64 PE, .int .i64 PP]) ∧ Below v.heap.size v w') := fun v hb => by rw [← hn9, ← hPE, ← hPP]; exact KR _ _ _ _ v (HCD.out.below hb)
            rw [hn9] at c3x
            clear hPE hPP hn9 KC KR
            go_wp2_with (first
              | (at_builtin; refine wpList_app (by rfl) _ _ _ (by rfl) _ _ _ (by rfl) (by rfl) HAP.out ?_)
              | (go_at_call 5; (with_reducible refine (HKC.out _ (bel0 _)).mono ?_); rintro e w6 ⟨rfl, hb6⟩; have HB6 : Hid (Below (w2.setCell ⟨D, 3, none⟩ (.slice p2 (n + 1) c2)).heap.size (w2.setCell ⟨D, 3, none⟩ (.slice p2 (n + 1) c2)) w6) := hb6; have c0 := kc hb6 c0; have c1 := kc hb6 c1; have c2y := kc hb6 c2x; have c3y := kc hb6 c3x; clear hb6)
              | (go_at_call 6; (with_reducible refine (HKR.out _ HB6.out).mono ?_); rintro e w7 ⟨rfl, hb7⟩; have HB7 : Hid (Below w6.heap.size w6 w7) := hb7; clear hb7)
              | (go_at_call 7; (with_reducible refine (HWK.out _).mono ?_); rintro e w8 ⟨rfl, hb8⟩; have HB8 : Hid (Below w7.heap.size w7 w8) := hb8; clear hb8))
            go_ret
            exact ⟨rfl, bel HLG2.out.bel (bel HB6.out (bel HB7.out HB8.out))⟩
          · have r1 : (V2 == 2) = false := by simpa using hV2
            by_cases hV3 : V2 = 3
            · have r2 : (V2 == 3) = true := by simpa using hV3
              clear hV2 hV3
              by_cases hl1 : 1 < l.length
              · obtain ⟨n, hn⟩ : ∃ n, l.length = n := ⟨_, rfl⟩
                obtain ⟨m, hm⟩ : ∃ m, n - 1 = m := ⟨_, rfl⟩
                have HNL : Hid (l.length = n) := hn
                have hcap := own_cap hlg.out.own
                have hmn : m + 1 = n := by omega
                have hml : (l.take m).length = m := by rw [List.length_take]; omega
                have hput := hlg.out.put (p' := p) (q' := q) (l' := l.take m) (Below.refl _ _) (by rw [hml, ← flat_take inC_len l m (by omega)]; exact own_take hlg.out.own (by omega)) (fun b _ _ => rfl)
                rw [hml] at hput
                obtain ⟨hc3, hz3, hlg3⟩ := hput
                have HLG3 : Hid (LG w V0 V1 V2 D s p q (l.take m) (wr.setCell ⟨D, 3, none⟩ (.slice p m q))) := hlg3
                have s1 := fun w => slice_toG und_I7 size_I7 p n q m (by omega) w
                have hw : IntKind.i64.wrap ((n : Int) - 1) = (m : Int) := by rw [IntKind.wrap_i64]; have := hq1.out; omega
                have i0 : (1 : Int) < (n : Int) := by omega
                have a2 := hlg.out.a2
                rw [hn] at hc3
                clear hlg3 hn hm hml
                have KC := fun x0 x1 x2 x3 => check_any x0 x1 x2 x3 (smallC (l.take m)) (smallC_ok (by have h2 := hq1.out; have h3 := List.length_take_le m l; have h4 := HNL.out; omega) (fun i hi => hq2.out i (List.mem_of_mem_take hi)))
                have KR := fun x0 x1 x2 x3 => rcheck16_any x0 x1 x2 x3 (smallC (l.take m)) (smallC_ok (by have h2 := hq1.out; have h3 := List.length_take_le m l; have h4 := HNL.out; omega) (fun i hi => hq2.out i (List.mem_of_mem_take hi)))
                have c0 : (wr.setCell ⟨D, 3, none⟩ (.slice p m q)).cell? ⟨D, 0, none⟩ = some (.slice (some ⟨s, 0, none⟩) 1 1) := HLG3.out.box.cell (i := 0) (by decide)
                have c1 : (wr.setCell ⟨D, 3, none⟩ (.slice p m q)).cell? ⟨D, 1, none⟩ = some (.slice (some ⟨s + 1, 0, none⟩) 3 3) := HLG3.out.box.cell (i := 1) (by decide)
                have c2x : (wr.setCell ⟨D, 3, none⟩ (.slice p m q)).cell? ⟨D, 2, none⟩ = some (.slice none 0 0) := HLG3.out.box.cell (i := 2) (by decide)
                have c3x : (wr.setCell ⟨D, 3, none⟩ (.slice p m q)).cell? ⟨D, 3, none⟩ = some (.slice p (l.take m).length q) := HLG3.out.box.cell (i := 3) (by decide)
                have a2x := HLG3.out.a2
                have HCD : Hid (CdV (wr.setCell ⟨D, 3, none⟩ (.slice p m q)) (.slice (some ⟨s, 0, none⟩) 1 1) (.slice (some ⟨s + 1, 0, none⟩) 3 3) (.slice none 0 0) (.slice p (l.take m).length q) (smallC (l.take m))) := HLG3.out.cdv
                obtain ⟨PE, hPE⟩ : ∃ x, (checkC (smallC (l.take m))).1 = x := ⟨_, rfl⟩
                obtain ⟨PP, hPP⟩ : ∃ x, (checkC (smallC (l.take m))).2 = x := ⟨_, rfl⟩
                have hn9 : (l.take m).length = m := by rw [List.length_take, HNL.out]; omega
                have HKC : Hid (∀ v, Below (wr.setCell ⟨D, 3, none⟩ (.slice p m q)).heap.size (wr.setCell ⟨D, 3, none⟩ (.slice p m q)) v → Calls Try.prog 5 #[.agg #[.slice (some ⟨s, 0, none⟩) 1 1, .slice (some ⟨s + 1, 0, none⟩) 3 3, .slice none 0 0, .slice p (m) q]] v fun e w' => e = .returned (.tuple #[.int .i64 PE, .int .i64 PP]) ∧ Below v.heap.size v w') := fun v hb => by rw [← hn9, ← hPE, ← hPP]; exact KC _ _ _ _ v (HCD.out.below hb)
                have HKR : Hid (∀ v, Below (wr.setCell ⟨D, 3, none⟩ (.slice p m q)).heap.size (wr.setCell ⟨D, 3, none⟩ (.slice p m q)) v → Calls Try.prog 6 #[.agg #[.slice (some ⟨s, 0, none⟩) 1 1, .slice (some ⟨s + 1, 0, none⟩) 3 3, .slice none 0 0, .slice p (m) q]] v fun e w' => e = .returned (.tuple #[.int .i64 PE, .int .i64 PP]) ∧ Below v.heap.size v w') := fun v hb => by rw [← hn9, ← hPE, ← hPP]; exact KR _ _ _ _ v (HCD.out.below hb)
                rw [hn9] at c3x
                clear hPE hPP hn9 KC KR
                go_wp2_with (first
                  | (go_at_call 5; (with_reducible refine (HKC.out _ (bel0 _)).mono ?_); rintro e w6 ⟨rfl, hb6⟩; have HB6 : Hid (Below (wr.setCell ⟨D, 3, none⟩ (.slice p m q)).heap.size (wr.setCell ⟨D, 3, none⟩ (.slice p m q)) w6) := hb6; have c0 := kc hb6 c0; have c1 := kc hb6 c1; have c2y := kc hb6 c2x; have c3y := kc hb6 c3x; clear hb6)
                  | (go_at_call 6; (with_reducible refine (HKR.out _ HB6.out).mono ?_); rintro e w7 ⟨rfl, hb7⟩; have HB7 : Hid (Below w6.heap.size w6 w7) := hb7; clear hb7)
                  | (go_at_call 7; (with_reducible refine (HWK.out _).mono ?_); rintro e w8 ⟨rfl, hb8⟩; have HB8 : Hid (Below w7.heap.size w7 w8) := hb8; clear hb8))
                go_ret
                exact ⟨rfl, bel HLG3.out.bel (bel HB6.out (bel HB7.out HB8.out))⟩
              · have i0 : ¬ (1 : Int) < (l.length : Int) := by omega
                obtain ⟨n, hn⟩ : ∃ n, l.length = n := ⟨_, rfl⟩
                rw [hn] at i0
                have KC := fun x0 x1 x2 x3 => check_any x0 x1 x2 x3 (smallC (l)) (smallC_ok (by have := hq1.out; omega) hq2.out)
                have KR := fun x0 x1 x2 x3 => rcheck16_any x0 x1 x2 x3 (smallC (l)) (smallC_ok (by have := hq1.out; omega) hq2.out)
                have c0 : (wr).cell? ⟨D, 0, none⟩ = some (.slice (some ⟨s, 0, none⟩) 1 1) := hlg.out.box.cell (i := 0) (by decide)
                have c1 : (wr).cell? ⟨D, 1, none⟩ = some (.slice (some ⟨s + 1, 0, none⟩) 3 3) := hlg.out.box.cell (i := 1) (by decide)
                have c2x : (wr).cell? ⟨D, 2, none⟩ = some (.slice none 0 0) := hlg.out.box.cell (i := 2) (by decide)
                have c3x : (wr).cell? ⟨D, 3, none⟩ = some (.slice p (l).length q) := hlg.out.box.cell (i := 3) (by decide)
                have a2x := hlg.out.a2
                have HCD : Hid (CdV (wr) (.slice (some ⟨s, 0, none⟩) 1 1) (.slice (some ⟨s + 1, 0, none⟩) 3 3) (.slice none 0 0) (.slice p (l).length q) (smallC (l))) := hlg.out.cdv
                obtain ⟨PE, hPE⟩ : ∃ x, (checkC (smallC (l))).1 = x := ⟨_, rfl⟩
                obtain ⟨PP, hPP⟩ : ∃ x, (checkC (smallC (l))).2 = x := ⟨_, rfl⟩
                have hn9 : (l).length = n := hn
                have HKC : Hid (∀ v, Below (wr).heap.size (wr) v → Calls Try.prog 5 #[.agg #[.slice (some ⟨s, 0, none⟩) 1 1, .slice (some ⟨s + 1, 0, none⟩) 3 3, .slice none 0 0, .slice p (n) q]] v fun e w' => e = .returned (.tuple #[.int .i64 PE, .int .i64 PP]) ∧ Below v.heap.size v w') := fun v hb => by rw [← hn9, ← hPE, ← hPP]; exact KC _ _ _ _ v (HCD.out.below hb)
                have HKR : Hid (∀ v, Below (wr).heap.size (wr) v → Calls Try.prog 6 #[.agg #[.slice (some ⟨s, 0, none⟩) 1 1, .slice (some ⟨s + 1, 0, none⟩) 3 3, .slice none 0 0, .slice p (n) q]] v fun e w' => e = .returned (.tuple #[.int .i64 PE, .int .i64 PP]) ∧ Below v.heap.size v w') := fun v hb => by rw [← hn9, ← hPE, ← hPP]; exact KR _ _ _ _ v (HCD.out.below hb)
                rw [hn9] at c3x
                clear hPE hPP hn9 KC KR
                go_wp2_with (first
                  | (go_at_call 5; (with_reducible refine (HKC.out _ (bel0 _)).mono ?_); rintro e w6 ⟨rfl, hb6⟩; have HB6 : Hid (Below (wr).heap.size (wr) w6) := hb6; have c0 := kc hb6 c0; have c1 := kc hb6 c1; have c2y := kc hb6 c2x; have c3y := kc hb6 c3x; clear hb6)
                  | (go_at_call 6; (with_reducible refine (HKR.out _ HB6.out).mono ?_); rintro e w7 ⟨rfl, hb7⟩; have HB7 : Hid (Below w6.heap.size w6 w7) := hb7; clear hb7)
                  | (go_at_call 7; (with_reducible refine (HWK.out _).mono ?_); rintro e w8 ⟨rfl, hb8⟩; have HB8 : Hid (Below w7.heap.size w7 w8) := hb8; clear hb8))
                go_ret
                exact ⟨rfl, bel hlg.out.bel (bel HB6.out (bel HB7.out HB8.out))⟩
            · have r2 : (V2 == 3) = false := by simpa using hV3
              clear hV2 hV3
              obtain ⟨n, hn⟩ : ∃ n, l.length = n := ⟨_, rfl⟩
              have KC := fun x0 x1 x2 x3 => check_any x0 x1 x2 x3 (smallC (l)) (smallC_ok (by have := hq1.out; omega) hq2.out)
              have KR := fun x0 x1 x2 x3 => rcheck16_any x0 x1 x2 x3 (smallC (l)) (smallC_ok (by have := hq1.out; omega) hq2.out)
              have c0 : (wr).cell? ⟨D, 0, none⟩ = some (.slice (some ⟨s, 0, none⟩) 1 1) := hlg.out.box.cell (i := 0) (by decide)
              have c1 : (wr).cell? ⟨D, 1, none⟩ = some (.slice (some ⟨s + 1, 0, none⟩) 3 3) := hlg.out.box.cell (i := 1) (by decide)
              have c2x : (wr).cell? ⟨D, 2, none⟩ = some (.slice none 0 0) := hlg.out.box.cell (i := 2) (by decide)
              have c3x : (wr).cell? ⟨D, 3, none⟩ = some (.slice p (l).length q) := hlg.out.box.cell (i := 3) (by decide)
              have a2x := hlg.out.a2
              have HCD : Hid (CdV (wr) (.slice (some ⟨s, 0, none⟩) 1 1) (.slice (some ⟨s + 1, 0, none⟩) 3 3) (.slice none 0 0) (.slice p (l).length q) (smallC (l))) := hlg.out.cdv
              obtain ⟨PE, hPE⟩ : ∃ x, (checkC (smallC (l))).1 = x := ⟨_, rfl⟩
              obtain ⟨PP, hPP⟩ : ∃ x, (checkC (smallC (l))).2 = x := ⟨_, rfl⟩
              have hn9 : (l).length = n := hn
              have HKC : Hid (∀ v, Below (wr).heap.size (wr) v → Calls Try.prog 5 #[.agg #[.slice (some ⟨s, 0, none⟩) 1 1, .slice (some ⟨s + 1, 0, none⟩) 3 3, .slice none 0 0, .slice p (n) q]] v fun e w' => e = .returned (.tuple #[.int .i64 PE, .int .i64 PP]) ∧ Below v.heap.size v w') := fun v hb => by rw [← hn9, ← hPE, ← hPP]; exact KC _ _ _ _ v (HCD.out.below hb)
              have HKR : Hid (∀ v, Below (wr).heap.size (wr) v → Calls Try.prog 6 #[.agg #[.slice (some ⟨s, 0, none⟩) 1 1, .slice (some ⟨s + 1, 0, none⟩) 3 3, .slice none 0 0, .slice p (n) q]] v fun e w' => e = .returned (.tuple #[.int .i64 PE, .int .i64 PP]) ∧ Below v.heap.size v w') := fun v hb => by rw [← hn9, ← hPE, ← hPP]; exact KR _ _ _ _ v (HCD.out.below hb)
              rw [hn9] at c3x
              clear hPE hPP hn9 KC KR
              go_wp2_with (first
                | (go_at_call 5; (with_reducible refine (HKC.out _ (bel0 _)).mono ?_); rintro e w6 ⟨rfl, hb6⟩; have HB6 : Hid (Below (wr).heap.size (wr) w6) := hb6; have c0 := kc hb6 c0; have c1 := kc hb6 c1; have c2y := kc hb6 c2x; have c3y := kc hb6 c3x; clear hb6)
                | (go_at_call 6; (with_reducible refine (HKR.out _ HB6.out).mono ?_); rintro e w7 ⟨rfl, hb7⟩; have HB7 : Hid (Below w6.heap.size w6 w7) := hb7; clear hb7)
                | (go_at_call 7; (with_reducible refine (HWK.out _).mono ?_); rintro e w8 ⟨rfl, hb8⟩; have HB8 : Hid (Below w7.heap.size w7 w8) := hb8; clear hb8))
              go_ret
              exact ⟨rfl, bel hlg.out.bel (bel HB6.out (bel HB7.out HB8.out))⟩

end Go.Proofs.Ytgnjhjkbnchdmaa
