import Derived.Test.YtnhpnmilgcjeaaaDoorMaskMean
/- Package mask: its calls' contracts Set. -/
namespace Go.Proofs.YtnhpnmilgcjeaaaDoor
open Go.RowKit
set_option linter.unusedVariables false
set_option linter.unusedSimpArgs false

theorem faultL_bounds (ps : List Par) : ∀ l : List Nd, 0 ≤ (faultL ps l).1 ∧ (faultL ps l).1 ≤ 111 := by
  apply forest (P := fun l => 0 ≤ (faultL ps l).1 ∧ (faultL ps l).1 ≤ 111)
  · rw [faultL_nil]; decide
  · intro t r h1 h2
    rw [faultL_cons]
    split
    · simp
    · split
      · unfold faultM faultOne
        repeat' split
        all_goals first | exact h1 | simp
      · exact h2
theorem set_bounds (ps : List Par) (t : Nd) : 0 ≤ (setP ps t).err ∧ (setP ps t).err ≤ 111 := by
  unfold setP
  split
  · simp
  · split
    · show 0 ≤ (faultM ps t).1 ∧ (faultM ps t).1 ≤ 111
      unfold faultM faultOne
      repeat' split
      all_goals first | exact faultL_bounds ps _ | simp
    · simp

theorem node_box {w : World} {t : Nd} {p : Option Addr} {c : Nat} {G : Nat} {y : TypeId} (h : w.heap[G]? = some (.cells #[.int .i64 t.kind, .string t.name, .int .u32 t.num, .int .i64 t.int_, .string t.key, .slice p t.args.length c, .int .i64 t.at_] y)) (hk : Kids w anyH (.slice p t.args.length c) t.args) : NodeA w anyH G 0 t :=
  ⟨cell_heap h 0, cell_heap h 1, cell_heap h 2, cell_heap h 3, cell_heap h 4, cell_heap h 6, _, cell_heap h 5, hk⟩

set_option maxRecDepth 100000 in
set_option maxHeartbeats 8000000 in
theorem mSet_any (t : Nd) (p : Option Addr) (c : Nat) (ps : List Par) (pp : Option Addr) (cc : Nat) (w : World) (hc : cnt t ≤ 40000) (hok : ok1 t) (hml : ps.length ≤ 4398046510976) (hmn : ∀ q ∈ ps, q.name.size ≤ 140737488351232) (hk : Kids w anyH (.slice p t.args.length c) t.args) (hr : Row w pp ps) :
    Calls Tryd.prog 12 #[nv t (.slice p t.args.length c), .slice pp ps.length cc] w fun e w' => ∃ v, e = .returned (.tuple #[v, .int .i64 (setP ps t).err, .int .i64 (setP ps t).place]) ∧ OwnI w' w.heap.size v (setP ps t).list ∧ Below w.heap.size w w' := by
  obtain ⟨i0, hi0, hz0, hz1, hz2⟩ := info_parts info_int
  have hlen : t.args.length ≤ 40000 := by have := cntL_len t.args; unfold cnt at hc; omega
  obtain ⟨n, hn⟩ : ∃ n, t.args.length = n := ⟨_, rfl⟩
  obtain ⟨m, hm⟩ : ∃ m, ps.length = m := ⟨_, rfl⟩
  have HMM : Hid (ps.length = m) := hm
  have HR : Hid (Row w pp ps) := hr
  have hb0 := bel_alloc w (.cells #[.int .i64 t.kind, .string t.name, .int .u32 t.num, .int .i64 t.int_, .string t.key, .slice p t.args.length c, .int .i64 t.at_] 29)
  have hnd := node_box (box_heap w (.cells #[.int .i64 t.kind, .string t.name, .int .u32 t.num, .int .i64 t.int_, .string t.key, .slice p t.args.length c, .int .i64 t.at_] 29)) (hk.below hb0)
  have hsz0 : (w.alloc (.cells #[.int .i64 t.kind, .string t.name, .int .u32 t.num, .int .i64 t.int_, .string t.key, .slice p t.args.length c, .int .i64 t.at_] 29)).heap.size = w.heap.size + 1 := by simp
  obtain ⟨W0, hW0⟩ : ∃ W0, w.alloc (.cells #[.int .i64 t.kind, .string t.name, .int .u32 t.num, .int .i64 t.int_, .string t.key, .slice p t.args.length c, .int .i64 t.at_] 29) = W0 := ⟨_, rfl⟩
  rw [hW0] at hb0 hnd hsz0
  have KD : Hid (∀ v, Below W0.heap.size W0 v → Calls Tryd.prog 23 #[.pointer (some ⟨w.heap.size, 0, none⟩), .int .i64 64] v fun e w' => e = .returned (.bool (decide (64 < dep t))) ∧ Below v.heap.size v w') := fun v hv =>
    deep_to 64 (Nat.le_refl _) t w.heap.size 0 v hlen (fun j hj => by have := cnt_get hj; unfold cnt at hc; omega) (hnd.below hv)
  have KF : Hid (∀ v, Below W0.heap.size W0 v → Calls Tryd.prog 24 #[.pointer (some ⟨w.heap.size, 0, none⟩), .slice pp m cc] v fun e w' => e = .returned (.tuple #[.int .i64 (faultM ps t).1, .int .i64 (faultM ps t).2]) ∧ Below v.heap.size v w') := fun v hv => by
    have := fault_to (dep t) t w.heap.size 0 ps pp cc v (Nat.le_refl _) hc hok hml hmn (hnd.below hv) (hr.below (bel hb0 hv))
    rw [hm] at this
    exact this
  have KI : Hid ((faultM ps t).1 = 0 → ∀ j (hj : j < ps.length) b1 o1 v, AtP W0 b1 o1 ps[j] → Below W0.heap.size W0 v → Calls Tryd.prog 25 #[.pointer (some ⟨w.heap.size, 0, none⟩), .pointer (some ⟨b1, o1, none⟩)] v fun e w' => e = .returned (.bool (inM ps[j] t)) ∧ Below v.heap.size v w') := fun hf j hj b1 o1 v ha hv =>
    mean_to (dep t) t w.heap.size 0 b1 o1 ps[j] ps v (Nat.le_refl _) hc hok (hmn _ (List.getElem_mem hj)) hf (hnd.below hv) (ha.below hv)
  have C6 : Hid (∀ v, Below W0.heap.size W0 v → v.cell? ⟨w.heap.size, 6, none⟩ = some (.int .i64 t.at_)) := fun v hv => (hnd.below hv).2.2.2.2.2.1
  have P1 : Hid (64 < dep t → setP ps t = ⟨[], 81, t.at_⟩) := fun h => set_deep h
  have P2 : Hid (¬ 64 < dep t → (faultM ps t).1 ≠ 0 → setP ps t = ⟨[], (faultM ps t).1, (faultM ps t).2⟩) := fun h h2 => set_fault h h2
  have P3 : Hid (¬ 64 < dep t → (faultM ps t).1 = 0 → setP ps t = ⟨indP ps t, 0, 0⟩) := fun h h2 => set_ok h h2
  have HR0 : Hid (Row W0 pp ps) := hr.below hb0
  unfold nv
  rw [hm]
  rw [hm] at hml
  obtain ⟨A, hA⟩ : ∃ A, t.at_ = A := ⟨_, rfl⟩
  have hW0' : w.alloc (.cells #[.int .i64 t.kind, .string t.name, .int .u32 t.num, .int .i64 t.int_, .string t.key, .slice p t.args.length c, .int .i64 A] 29) = W0 := by rw [← hA]; exact hW0
  rw [hA] at C6 P1 ⊢
  obtain ⟨E, hE⟩ : ∃ E, (faultM ps t).1 = E := ⟨_, rfl⟩
  obtain ⟨F, hF⟩ : ∃ F, (faultM ps t).2 = F := ⟨_, rfl⟩
  rw [hE, hF] at KF P2
  rw [hE] at KI P3
  have HB0 : Hid (Below w.heap.size w W0) := hb0
  clear hE hF hk hr hn hmn hok hc hnd hA hW0 hb0 hlen HR
  have HB00 : Hid (Below W0.heap.size W0 W0) := Below.refl _ _
  by_cases hdp : 64 < dep t
  · rw [P1.out hdp]
    rw [decide_eq_true hdp] at KD
    clear P1 P2 P3 KF KI
    go_enter Tryd.func12, Tryd.ntmps12
    go_upto_region 2 with (go_at_call 23; (with_reducible refine (KD.out _ HB00.out).mono ?_); rintro e w1 ⟨rfl, hb1⟩; have g6 := C6.out w1 hb1)
    go_quiet (fail)
    go_wp2
    go_ret3
    exact ⟨_, rfl, ownI_nil _ _, bel (bel HB0.out hb1) (bel_dn _ _)⟩
  · rw [decide_eq_false hdp] at KD
    by_cases hE0 : E = 0
    · have hs := P3.out hdp hE0
      rw [hs, indU_all, HMM.out]
      have KI2 : Hid (∀ j (hj : j < ps.length) b1 o1 v, AtP W0 b1 o1 ps[j] → Below W0.heap.size W0 v → Calls Tryd.prog 25 #[.pointer (some ⟨w.heap.size, 0, none⟩), .pointer (some ⟨b1, o1, none⟩)] v fun e w' => e = .returned (.bool (inM ps[j] t)) ∧ Below v.heap.size v w') := KI.out hE0
      subst hE0
      clear P1 P2 P3 hs KI C6
      go_enter Tryd.func12, Tryd.ntmps12
      go_wp2_with (first
        | (go_at_call 23; (with_reducible refine (KD.out _ HB00.out).mono ?_); rintro e w1 ⟨rfl, hb1⟩)
        | (go_at_call 24; (with_reducible refine (KF.out _ hb1).mono ?_); rintro e w2 ⟨rfl, hb2⟩))
      have HB2 : Hid (Below W0.heap.size W0 w2) := bel hb1 hb2
      clear hb1 hb2 KD KF hW0'
      go_loopw [9, 25] (fun lv iv wr => Below W0.heap.size W0 wr ∧ ∃ (j : Nat) (ov : Value), ov = lv ∧ j ≤ m ∧ iv = .int .i64 j ∧ Hid (OwnI wr (w.heap.size + 1) ov (indU ps t j))) (fun _ iv _ => m - (intOf iv).toNat)
      case atStart => exact ⟨HB2.out, 0, _, rfl, Nat.zero_le _, rfl, ownI_nil _ _⟩
      case round =>
        obtain ⟨hb, j, ov, rfl, hj, rfl, HO⟩ := hrel
        clear HB2
        have szr : w.heap.size + 1 ≤ wr.heap.size := by have := hb.size; omega
        by_cases hlt0 : j < m
        · have hll : j < ps.length := by rw [HMM.out]; exact hlt0
          obtain ⟨b1, o1, rfl, hx⟩ := HR0.out.at hll
          have i1 : (0 : Int) ≤ (j : Int) := by omega
          have i2 : (j : Int) < (m : Int) := by omega
          have hil := indU_len ps t j
          have IY := indU_yes (t := t) hll
          have IN := indU_no (t := t) hll
          obtain ⟨U, hU⟩ : ∃ U, inM ps[j] t = U := ⟨_, rfl⟩
          have hcl := KI2.out j hll b1 (o1 + j * 3) wr hx hb
          rw [hU] at IY IN hcl
          have HW : Hid (Calls Tryd.prog 25 #[.pointer (some ⟨w.heap.size, 0, none⟩), .pointer (some ⟨b1, o1 + j * 3, none⟩)] wr fun e w' => e = .returned (.bool U) ∧ Below wr.heap.size wr w') := hcl
          obtain ⟨acc, hacc⟩ : ∃ acc, indU ps t j = acc := ⟨_, rfl⟩
          rw [hacc] at IY IN hil HO
          clear hx hU KI2 hacc hcl
          cases U
          · have HN3 : Hid (indU ps t (j + 1) = acc) := IN rfl
            clear IY IN
            go_wp2_with (go_at_call 25; (with_reducible refine HW.out.mono ?_); rintro e w3 ⟨rfl, hb3⟩)
            have HO3 : Hid (OwnI w3 (w.heap.size + 1) ov acc) := HO.out.below hb3
            go_roundw
            case rel => exact ⟨bel hb hb3, j + 1, _, rfl, by omega, by go_num, by rw [HN3.out]; exact HO3.out⟩
            case measure => simp [intOf]; omega
          · have HN3 : Hid (indU ps t (j + 1) = acc ++ [j]) := IY rfl
            clear IY IN
            go_wp2_with (first
              | (go_at_call 25; (with_reducible refine HW.out.mono ?_); rintro e w3 ⟨rfl, hb3⟩; have HO3 : Hid (OwnI w3 (w.heap.size + 1) ov acc) := HO.out.below hb3; have sz3 := hb3.size)
              | (at_builtin; refine wpList_append_own_at _ rfl _ _ 32 rfl (w.heap.size + 1) 3 i0 _ 1 8 Tryd.underlying32 hi0 hz0 hz1 hz2 rfl (by decide) ov acc.length (ints acc) rfl (World.ownsRow.alloc HO3.out _) ⟨w3.heap.size, 0, none⟩ 1 1 [.int .i64 (j : Int)] rfl rfl (World.news_of_block (cs := #[.int .i64 (j : Int)]) (t := 3) (fr := (0, 0)) (box_heap w3 _)) (by simp [Value.oneCell']) (by unfold maxLen; omega) (by omega) (by simp; omega) ?_; intro v' w4 hown4 hgrow hnil hat; have HO4 : Hid (w4.ownsRow (w.heap.size + 1) 3 1 v' (acc.length + 1) (ints acc ++ [.int .i64 (j : Int)]) ∧ (w3.alloc (.cells #[.int .i64 (j : Int)] 3)).grownBy w4 ov.ownBlock) := ⟨hown4, hgrow⟩; clear hown4 hgrow hnil hat))
            go_roundw
            case rel =>
              obtain ⟨ho4, hgrow⟩ := HO4.out
              have hob := HO3.out.lt
              have hbz := hb.size
              refine ⟨Below.grown ((bel hb hb3).alloc (by omega) _) hgrow (by simp; omega) (fun q e => by have := (hob q e).1; omega), j + 1, _, rfl, by omega, by go_num, ?_⟩
              rw [HN3.out]
              exact ownI_snoc ho4
            case measure => simp [intOf]; omega
        · have : j = m := by omega
          subst this
          clear KI2
          go_wp2
          go_ret3
          exact ⟨_, rfl, HO.out.mono1, bel HB0.out hb⟩
    · have hs := P2.out hdp hE0
      rw [hs]
      have z1 : (E == 0) = false := by simpa using hE0
      have z2 : (E != 0) = true := by simpa using hE0
      clear P1 P2 P3 KI hs hE0
      go_enter Tryd.func12, Tryd.ntmps12
      go_wp2_with (first
        | (go_at_call 23; (with_reducible refine (KD.out _ HB00.out).mono ?_); rintro e w1 ⟨rfl, hb1⟩)
        | (go_at_call 24; (with_reducible refine (KF.out _ hb1).mono ?_); rintro e w2 ⟨rfl, hb2⟩))
      go_ret3
      exact ⟨_, rfl, ownI_nil _ _, bel HB0.out (bel hb1 hb2)⟩

end Go.Proofs.YtnhpnmilgcjeaaaDoor
