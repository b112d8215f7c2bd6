import Derived.Test.YtbmkddmmclndcaaPart24
import Derived.Test.YtbmkddmmclndcaaPart1
import Derived.Test.YtbmkddmmclndcaaRows
import Derived.WalkKit
import Derived.ProofKit
import Derived.OpenShut
import Derived.JoinedCond
import Derived.Deep.Slices
import Derived.Deep.Strs
import Derived.SizedLaws
/- The statement AliasParts. (tool/layer12/genpartsw.py) -/
namespace Go.Proofs.Ytbmkddmmclndcaa
open Go.RowKit
set_option linter.unusedVariables false
set_option linter.unusedSimpArgs false

theorem ok_key {t : Nd} (h : ok1 t) : ok1 (keyN t ⟨#[]⟩) := ⟨⟨h.1.1, by show (⟨#[]⟩ : ByteArray).size ≤ _; decide, h.1.2.2⟩, h.2⟩

set_option maxRecDepth 100000 in
set_option maxHeartbeats 4000000 in
theorem walk_AliasParts (t : Nd) (p : Option Addr) (c : Nat) (hok : ok1 t) (w : World) (hk : Kids w anyH (.slice p t.args.length c) t.args) :
    Calls Try.prog 4 #[nv t (.slice p t.args.length c)] w fun e w' => e = .returned (.bool true) ∧ Below w.heap.size w w' := by
  have HWK : Hid (∀ x : World, Calls Try.prog 8 #[] x fun e w' => e = .returned (.bool true) ∧ Below x.heap.size x w') := works_any
  have HGR : Hid (∀ x : World, Below w.heap.size w x → Calls Try.prog 7 #[nv t (.slice p t.args.length c)] x fun e w' => e = .returned (.bool (decide (9000 < cnt t))) ∧ Below x.heap.size x w') := fun x k => great_any t p c x (hk.below k)
  have HTW0 : Hid (cnt t ≤ 40000 → ∀ x : World, Below w.heap.size w x → Calls Try.prog 10 #[.agg #[.int .i64 t.kind, .string t.name, .int .u32 t.num, .int .i64 t.int_, .string t.key, .slice p t.args.length c, .int .i64 t.at_]] x fun r w' => ∃ p' c', r = .returned (.agg #[.int .i64 t.kind, .string t.name, .int .u32 t.num, .int .i64 t.int_, .string t.key, .slice p' t.args.length c', .int .i64 t.at_]) ∧ Kids w' anyH (.slice p' t.args.length c') t.args ∧ Below x.heap.size x w') := fun hc x k => twin_to t p c x hc (hk.below k)
  have HLB : Hid (∀ x : World, Calls Try.prog 12 #[.agg #[.int .i64 t.kind, .string t.name, .int .u32 t.num, .int .i64 t.int_, .string t.key, .slice none 0 0, .int .i64 t.at_]] x fun e w' => e = .returned (.bool (lfQ t.kind t.name)) ∧ Below x.heap.size x w') := fun x => by
    have := leftm_to 1 (argsN t []) none 0 x (by show depL [] + 1 ≤ 1; rw [depL_nil]; exact Nat.le_refl _) (by show 1 + cntL [] ≤ _; rw [cntL_nil]; decide) ⟨none, 0, rfl, trivial, .inl rfl⟩
    have e : leftP (argsN t []) = lfQ t.kind t.name := by show (lfQ t.kind t.name || leftL []) = _; rw [leftL_nil, Bool.or_false]
    rw [e] at this
    exact this
  have HKD : Hid (Kids w anyH (.slice p t.args.length c) t.args) := hk
  obtain ⟨n, hnn⟩ : ∃ n, t.args.length = n := ⟨_, rfl⟩
  have HN : Hid (t.args.length = n) := hnn
  have HOK : Hid (ok1 t) := hok
  rw [hnn] at HGR HTW0 HKD ⊢
  unfold nv at HGR ⊢
  obtain ⟨W, hW⟩ : ∃ W, w.alloc (.cells #[.int .i64 t.kind, .string t.name, .int .u32 t.num, .int .i64 t.int_, .string t.key, .slice p n c, .int .i64 t.at_] 26) = W := ⟨_, rfl⟩
  have hbx : Below w.heap.size w W := by rw [← hW]; exact bel_alloc _ _
  have hxx : W.heap[w.heap.size]? = some (.cells #[.int .i64 t.kind, .string t.name, .int .u32 t.num, .int .i64 t.int_, .string t.key, .slice p n c, .int .i64 t.at_] 26) := by rw [← hW]; exact box_heapA _ _
  have HB0 := hidM hbx
  have HX0 := hidM hxx
  obtain ⟨⟨a0, a1, a2, a3, a4, a5, a6⟩, -⟩ := sevenA hxx
  clear hbx hxx hk hok hnn
  by_cases hgr : 9000 < cnt t
  · rw [show decide (9000 < cnt t) = true from decide_eq_true hgr] at HGR
    clear HTW0 hgr
    go_enter Try.func4, Try.ntmps4
    go_wp2_with (first
      | (go_at_call 7; (with_reducible refine (HGR.out _ HB0.out).mono ?_); rintro e v1 ⟨rfl, hb1⟩; have HB1 := hidM (bel HB0.out hb1); have HX1 := hidM ((hb1.block _ (hlt HX0.out)).trans HX0.out); obtain ⟨⟨b0, b1, b2, b3, b4, b5, b6⟩, -⟩ := sevenA HX1.out; clear hb1)
      | (go_at_call 8; (with_reducible refine (HWK.out _).mono ?_); rintro e vk ⟨rfl, hbk⟩; have HBK := hidM (bel HB1.out hbk); clear hbk))
    refine bodyPost_ret (by simp [results, Try.results4, go_sem]; try rfl) rfl ?_
    exact ⟨rfl, HBK.out⟩
  · rw [show decide (9000 < cnt t) = false from decide_eq_false hgr] at HGR
    have hc9 : cnt t ≤ 9000 := by omega
    have HTW := hidM (HTW0.out (by omega))
    clear HTW0 hgr
    rcases exp_cases t with ⟨he, htr⟩ | ⟨hck, hoe, hfa, hcx, hex⟩
    · obtain ⟨EX, hEX⟩ : ∃ E, expP t = E := ⟨_, rfl⟩
      rw [hEX] at he htr
      obtain ⟨X, er, ea⟩ := EX
      simp only at he htr
      subst htr
      have e1 : (er == 0) = false := by simpa using he
      have HEX : Hid (∀ (p' : Option Addr) (c' : Nat) (x : World), Kids x anyH (.slice p' n c') t.args → Calls Try.prog 9 #[.agg #[.int .i64 t.kind, .string t.name, .int .u32 t.num, .int .i64 t.int_, .string t.key, .slice p' n c', .int .i64 t.at_]] x fun r w' => ∃ p' c', r = .returned (.tuple #[.agg #[.int .i64 0, .string ⟨#[]⟩, .int .u32 0, .int .i64 0, .string ⟨#[]⟩, .slice p' 0 c', .int .i64 0], .int .i64 er, .int .i64 ea]) ∧ Kids w' anyH (.slice p' 0 c') [] ∧ Below x.heap.size x w') := fun p' c' x hx => by
        have := expand_to t p' c' x (by omega) HOK.out (by rw [HN.out]; exact hx) hEX
        rw [HN.out] at this
        exact this
      have he2 : ¬ (er = 0) := he
      clear hEX hc9
      go_enter Try.func4, Try.ntmps4
      go_upto_region 4 with (first
        | (go_at_call 7; (with_reducible refine (HGR.out _ HB0.out).mono ?_); rintro e v1 ⟨rfl, hb1⟩; have HB1 := hidM (bel HB0.out hb1); have HX1 := hidM ((hb1.block _ (hlt HX0.out)).trans HX0.out); obtain ⟨⟨b0, b1, b2, b3, b4, b5, b6⟩, -⟩ := sevenA HX1.out; clear hb1)
        | (go_at_call 10; (with_reducible refine (HTW.out _ HB1.out).mono ?_); rintro e v2 ⟨p2, c2, rfl, hk2, hb2⟩; have HK2 := hidM hk2; have HB2 := hidM (bel HB1.out hb2); have HX2 := hidM ((hb2.block _ (hlt HX1.out)).trans HX1.out); clear hk2 hb2)
        | (go_at_call 9; (with_reducible refine (HEX.out _ _ _ HK2.out).mono ?_); rintro e v3 ⟨p3, c3, rfl, hk3, hb3⟩; have HK3 := hidM hk3; have HB3 := hidM (bel HB2.out hb3); have HX3 := hidM ((hb3.block _ (hlt HX2.out)).trans HX2.out); clear hk3 hb3; obtain ⟨W4, hW4, hX4, hB4, -⟩ := new_box v3; obtain ⟨⟨q0, q1, q2, q3, q4, q5, q6⟩, r0, r1, r2, r3, r4, r5, r6⟩ := sevenA hX4; have HXB4 := hidM hX4; have HBB4 := hidM hB4; clear hX4 hB4))
      have hx4 := put_sevenA HXB4.out (.int .i64 0) (.string ⟨#[]⟩) (.int .u32 0) (.int .i64 0) (.string ⟨#[]⟩) (.slice p3 0 c3) (.int .i64 0)
      have hb4 := below_seven HBB4.out (.int .i64 0) (.string ⟨#[]⟩) (.int .u32 0) (.int .i64 0) (.string ⟨#[]⟩) (.slice p3 0 c3) (.int .i64 0)
      obtain ⟨U3, hU3⟩ : ∃ UU, (((((((W4.setCell ⟨v3.heap.size, 0, none⟩ (.int .i64 0)).setCell ⟨v3.heap.size, 1, none⟩ (.string ⟨#[]⟩)).setCell ⟨v3.heap.size, 2, none⟩ (.int .u32 0)).setCell ⟨v3.heap.size, 3, none⟩ (.int .i64 0)).setCell ⟨v3.heap.size, 4, none⟩ (.string ⟨#[]⟩)).setCell ⟨v3.heap.size, 5, none⟩ (.slice p3 0 c3)).setCell ⟨v3.heap.size, 6, none⟩ (.int .i64 0)) = UU := ⟨_, rfl⟩
      rw [hU3] at hx4 hb4 ⊢
      have HK4 := hidM (HK3.out.below hb4)
      have HB4 := hidM (bel HB3.out hb4)
      have HX4 := hidM ((hb4.block _ (hlt HX3.out)).trans HX3.out)
      obtain ⟨O3, hO3⟩ : ∃ O, v3.heap.size = O := ⟨_, rfl⟩
      rw [hO3] at hx4 ⊢
      have HA4 := hidM hx4
      clear q0 q1 q2 q3 q4 q5 q6 r0 r1 r2 r3 r4 r5 r6 hU3 hW4 hb4 hx4 a0 a1 a2 a3 a4 a5 a6 b0 b1 b2 b3 b4 b5 b6 HEX HGR HK2 HK3 HXB4 HBB4 hO3 HB3 HX3 HX2 HX1
      obtain ⟨⟨b0, b1, b2, b3, b4, b5, b6⟩, -⟩ := sevenA HX4.out
      obtain ⟨W5, hW5, hX5, hB5, -⟩ := new_box U3
      obtain ⟨⟨q0, q1, q2, q3, q4, q5, q6⟩, r0, r1, r2, r3, r4, r5, r6⟩ := sevenA hX5
      have HXB5 := hidM hX5
      have HBB5 := hidM hB5
      clear hX5 hB5
      go_upto_region 5 with fail
      have hx5 := put_sevenA HXB5.out (.int .i64 t.kind) (.string t.name) (.int .u32 t.num) (.int .i64 t.int_) (.string t.key) (.slice p n c) (.int .i64 t.at_)
      have hb5 := below_seven HBB5.out (.int .i64 t.kind) (.string t.name) (.int .u32 t.num) (.int .i64 t.int_) (.string t.key) (.slice p n c) (.int .i64 t.at_)
      obtain ⟨U4, hU4⟩ : ∃ UU, (((((((W5.setCell ⟨U3.heap.size, 0, none⟩ (.int .i64 t.kind)).setCell ⟨U3.heap.size, 1, none⟩ (.string t.name)).setCell ⟨U3.heap.size, 2, none⟩ (.int .u32 t.num)).setCell ⟨U3.heap.size, 3, none⟩ (.int .i64 t.int_)).setCell ⟨U3.heap.size, 4, none⟩ (.string t.key)).setCell ⟨U3.heap.size, 5, none⟩ (.slice p n c)).setCell ⟨U3.heap.size, 6, none⟩ (.int .i64 t.at_)) = UU := ⟨_, rfl⟩
      rw [hU4] at hx5 hb5 ⊢
      obtain ⟨O4, hO4⟩ : ∃ O, U3.heap.size = O := ⟨_, rfl⟩
      have HO4 : Hid (U3.heap.size = O4) := hO4
      rw [hO4] at hx5 ⊢
      have HA5 := hidM hx5
      have HBU4 := hidM hb5
      clear q0 q1 q2 q3 q4 q5 q6 r0 r1 r2 r3 r4 r5 r6 b0 b1 b2 b3 b4 b5 b6 hU4 hW5 hb5 hO4
      obtain ⟨⟨q0, q1, q2, q3, q4, q5, q6⟩, r0, r1, r2, r3, r4, r5, r6⟩ := sevenA hx5
      clear hx5
      go_upto_region 6 with fail
      have hx6 := put_oneA HA5.out 5 (.slice none 0 0)
      simp only [List.setIfInBounds_toArray, List.set_cons_zero, List.set_cons_succ] at hx6
      have hb6 := below_at HBU4.out (Nat.le_of_eq HO4.out) 5 (.slice none 0 0)
      obtain ⟨U, hU⟩ : ∃ UU, U4.setCell ⟨O4, 5, none⟩ (.slice none 0 0) = UU := ⟨_, rfl⟩
      rw [hU] at hx6 hb6 ⊢
      have HKU := hidM (HK4.out.below hb6)
      have HBU := hidM (bel HB4.out hb6)
      have HXU := hidM ((hb6.block _ (hlt HX4.out)).trans HX4.out)
      have HAU := hidM ((hb6.block _ (hlt HA4.out)).trans HA4.out)
      clear q0 q1 q2 q3 q4 q5 q6 r0 r1 r2 r3 r4 r5 r6 hU hb6 HA5 HBU4 HO4 HXB5 HBB5 HK4 HB4 HX4 HA4
      obtain ⟨⟨q0, q1, q2, q3, q4, q5, q6⟩, -⟩ := sevenA hx6
      clear hx6
      go_wp2_with (go_at_call 8; (with_reducible refine (HWK.out _).mono ?_); rintro e vk ⟨rfl, hbk⟩; have HBK := hidM (bel HBU.out hbk); clear hbk)
      refine bodyPost_ret (by simp [results, Try.results4, go_sem]; try rfl) rfl ?_
      exact ⟨rfl, HBK.out⟩
    · have HPX : Hid (lfQ t.kind t.name = false → wholeN (writtenA t) = argsN t (wholeL t.args) ∧ ∀ i (h : i < t.args.length), expP (keyN t.args[i] ⟨#[]⟩) = ⟨keyN (wholeN t.args[i]) ⟨#[]⟩, 0, 0⟩) := fun hl => parts_exp hl hck hfa hcx
      cases hlf : lfQ t.kind t.name
      · obtain ⟨hwh, hpx⟩ := HPX.out hlf
        rw [hlf] at HLB
        rw [hwh] at hex
        have hcX : cntL (wholeL t.args) + 1 ≤ 4096 := by
          obtain ⟨hm, -⟩ := (check_iff _).1 hcx
          have := ((meas_iff _).1 hm).2
          rw [hwh] at this
          have e : cnt (argsN t (wholeL t.args)) = 1 + cntL (wholeL t.args) := rfl
          omega
        have HEX : Hid (∀ (p' : Option Addr) (c' : Nat) (x : World), Kids x anyH (.slice p' n c') t.args → Calls Try.prog 9 #[.agg #[.int .i64 t.kind, .string t.name, .int .u32 t.num, .int .i64 t.int_, .string t.key, .slice p' n c', .int .i64 t.at_]] x fun r w' => ∃ p' c', r = .returned (.tuple #[.agg #[.int .i64 t.kind, .string t.name, .int .u32 t.num, .int .i64 t.int_, .string t.key, .slice p' n c', .int .i64 t.at_], .int .i64 0, .int .i64 0]) ∧ Kids w' anyH (.slice p' n c') (wholeL t.args) ∧ Below x.heap.size x w') := fun p' c' x hx => by
          have := expand_to t p' c' x (by omega) HOK.out (by rw [HN.out]; exact hx) hex
          have e : (argsN t (wholeL t.args)).args.length = n := (wholeL_len t.args).trans HN.out
          rw [e, HN.out] at this
          exact this
        have HPX2 : Hid (∀ i (h : i < t.args.length), expP (keyN t.args[i] ⟨#[]⟩) = ⟨keyN (wholeN t.args[i]) ⟨#[]⟩, 0, 0⟩) := hpx
        have HCX : Hid (cntL (wholeL t.args) + 1 ≤ 4096 ∧ cnt t ≤ 9000) := ⟨hcX, hc9⟩
        have hlen : n ≤ 9000 := by have h1 := cntL_len t.args; have h2 := HCX.out.2; unfold cnt at h2; have := HN.out; omega
        clear hck hoe hfa hcx hex hwh hpx hlf hc9 hcX HPX
        go_enter Try.func4, Try.ntmps4
        go_upto_region 4 with (first
          | (go_at_call 7; (with_reducible refine (HGR.out _ HB0.out).mono ?_); rintro e v1 ⟨rfl, hb1⟩; have HB1 := hidM (bel HB0.out hb1); have HX1 := hidM ((hb1.block _ (hlt HX0.out)).trans HX0.out); obtain ⟨⟨b0, b1, b2, b3, b4, b5, b6⟩, -⟩ := sevenA HX1.out; clear hb1)
          | (go_at_call 10; (with_reducible refine (HTW.out _ HB1.out).mono ?_); rintro e v2 ⟨p2, c2, rfl, hk2, hb2⟩; have HK2 := hidM hk2; have HB2 := hidM (bel HB1.out hb2); have HX2 := hidM ((hb2.block _ (hlt HX1.out)).trans HX1.out); clear hk2 hb2)
          | (go_at_call 9; (with_reducible refine (HEX.out _ _ _ HK2.out).mono ?_); rintro e v3 ⟨p3, c3, rfl, hk3, hb3⟩; have HK3 := hidM hk3; have HB3 := hidM (bel HB2.out hb3); have HX3 := hidM ((hb3.block _ (hlt HX2.out)).trans HX2.out); clear hk3 hb3; obtain ⟨W4, hW4, hX4, hB4, -⟩ := new_box v3; obtain ⟨⟨q0, q1, q2, q3, q4, q5, q6⟩, r0, r1, r2, r3, r4, r5, r6⟩ := sevenA hX4; have HXB4 := hidM hX4; have HBB4 := hidM hB4; clear hX4 hB4))
        have hx4 := put_sevenA HXB4.out (.int .i64 t.kind) (.string t.name) (.int .u32 t.num) (.int .i64 t.int_) (.string t.key) (.slice p3 n c3) (.int .i64 t.at_)
        have hb4 := below_seven HBB4.out (.int .i64 t.kind) (.string t.name) (.int .u32 t.num) (.int .i64 t.int_) (.string t.key) (.slice p3 n c3) (.int .i64 t.at_)
        obtain ⟨U3, hU3⟩ : ∃ UU, (((((((W4.setCell ⟨v3.heap.size, 0, none⟩ (.int .i64 t.kind)).setCell ⟨v3.heap.size, 1, none⟩ (.string t.name)).setCell ⟨v3.heap.size, 2, none⟩ (.int .u32 t.num)).setCell ⟨v3.heap.size, 3, none⟩ (.int .i64 t.int_)).setCell ⟨v3.heap.size, 4, none⟩ (.string t.key)).setCell ⟨v3.heap.size, 5, none⟩ (.slice p3 n c3)).setCell ⟨v3.heap.size, 6, none⟩ (.int .i64 t.at_)) = UU := ⟨_, rfl⟩
        rw [hU3] at hx4 hb4 ⊢
        have HK4 := hidM (HK3.out.below hb4)
        have HB4 := hidM (bel HB3.out hb4)
        have HX4 := hidM ((hb4.block _ (hlt HX3.out)).trans HX3.out)
        obtain ⟨O3, hO3⟩ : ∃ O, v3.heap.size = O := ⟨_, rfl⟩
        rw [hO3] at hx4 ⊢
        have HA4 := hidM hx4
        clear q0 q1 q2 q3 q4 q5 q6 r0 r1 r2 r3 r4 r5 r6 hU3 hW4 hb4 hx4 a0 a1 a2 a3 a4 a5 a6 b0 b1 b2 b3 b4 b5 b6 HEX HGR HK2 HK3 HXB4 HBB4 hO3 HB3 HX3 HX2 HX1
        obtain ⟨⟨b0, b1, b2, b3, b4, b5, b6⟩, -⟩ := sevenA HX4.out
        obtain ⟨W5, hW5, hX5, hB5, -⟩ := new_box U3
        obtain ⟨⟨q0, q1, q2, q3, q4, q5, q6⟩, r0, r1, r2, r3, r4, r5, r6⟩ := sevenA hX5
        have HXB5 := hidM hX5
        have HBB5 := hidM hB5
        clear hX5 hB5
        go_upto_region 5 with fail
        have hx5 := put_sevenA HXB5.out (.int .i64 t.kind) (.string t.name) (.int .u32 t.num) (.int .i64 t.int_) (.string t.key) (.slice p n c) (.int .i64 t.at_)
        have hb5 := below_seven HBB5.out (.int .i64 t.kind) (.string t.name) (.int .u32 t.num) (.int .i64 t.int_) (.string t.key) (.slice p n c) (.int .i64 t.at_)
        obtain ⟨U4, hU4⟩ : ∃ UU, (((((((W5.setCell ⟨U3.heap.size, 0, none⟩ (.int .i64 t.kind)).setCell ⟨U3.heap.size, 1, none⟩ (.string t.name)).setCell ⟨U3.heap.size, 2, none⟩ (.int .u32 t.num)).setCell ⟨U3.heap.size, 3, none⟩ (.int .i64 t.int_)).setCell ⟨U3.heap.size, 4, none⟩ (.string t.key)).setCell ⟨U3.heap.size, 5, none⟩ (.slice p n c)).setCell ⟨U3.heap.size, 6, none⟩ (.int .i64 t.at_)) = UU := ⟨_, rfl⟩
        rw [hU4] at hx5 hb5 ⊢
        obtain ⟨O4, hO4⟩ : ∃ O, U3.heap.size = O := ⟨_, rfl⟩
        have HO4 : Hid (U3.heap.size = O4) := hO4
        rw [hO4] at hx5 ⊢
        have HA5 := hidM hx5
        have HBU4 := hidM hb5
        clear q0 q1 q2 q3 q4 q5 q6 r0 r1 r2 r3 r4 r5 r6 b0 b1 b2 b3 b4 b5 b6 hU4 hW5 hb5 hO4
        obtain ⟨⟨q0, q1, q2, q3, q4, q5, q6⟩, r0, r1, r2, r3, r4, r5, r6⟩ := sevenA hx5
        clear hx5
        go_upto_region 6 with fail
        have hx6 := put_oneA HA5.out 5 (.slice none 0 0)
        simp only [List.setIfInBounds_toArray, List.set_cons_zero, List.set_cons_succ] at hx6
        have hb6 := below_at HBU4.out (Nat.le_of_eq HO4.out) 5 (.slice none 0 0)
        obtain ⟨U, hU⟩ : ∃ UU, U4.setCell ⟨O4, 5, none⟩ (.slice none 0 0) = UU := ⟨_, rfl⟩
        rw [hU] at hx6 hb6 ⊢
        have HKU := hidM (HK4.out.below hb6)
        have HBU := hidM (bel HB4.out hb6)
        have HXU := hidM ((hb6.block _ (hlt HX4.out)).trans HX4.out)
        have HAU := hidM ((hb6.block _ (hlt HA4.out)).trans HA4.out)
        clear q0 q1 q2 q3 q4 q5 q6 r0 r1 r2 r3 r4 r5 r6 hU hb6 HA5 HBU4 HO4 HXB5 HBB5 HK4 HB4 HX4 HA4
        obtain ⟨⟨q0, q1, q2, q3, q4, q5, q6⟩, -⟩ := sevenA hx6
        clear hx6
        go_upto_region 8 with (go_at_call 12; (with_reducible refine (HLB.out _).mono ?_); rintro e v4 ⟨rfl, hb4⟩; have HB4 := hidM (bel HBU.out hb4); have HX4 := hidM ((hb4.block _ (hlt HXU.out)).trans HXU.out); have HA4 := hidM ((hb4.block _ (hlt HAU.out)).trans HAU.out); have HK4 := hidM (HKU.out.below hb4); clear hb4)
        clear q0 q1 q2 q3 q4 q5 q6 HKU HBU HXU HAU HLB HTW
        obtain ⟨⟨b0, b1, b2, b3, b4, b5, b6⟩, -⟩ := sevenA HX4.out
        obtain ⟨⟨q0, q1, q2, q3, q4, q5, q6⟩, -⟩ := sevenA HA4.out
        go_wp2
        go_loopw [7] (fun iv wr => ∃ j : Nat, j ≤ n ∧ iv = .int .i64 j ∧ Hid (Below v4.heap.size v4 wr)) (fun iv _ => n - (intOf iv).toNat)
        case atStart => exact ⟨0, Nat.zero_le _, rfl, Below.refl _ _⟩
        case round =>
          obtain ⟨j, hj, rfl, HS⟩ := hrel
          clear b0 b1 b2 b3 b4 b5 b6 q0 q1 q2 q3 q4 q5 q6
          have hb := HS.out
          have HB6 := hidM (bel HB4.out hb)
          obtain ⟨⟨b0, b1, b2, b3, b4, b5, b6⟩, -⟩ := sevenA ((hb.block _ (hlt HX4.out)).trans HX4.out)
          by_cases hlt0 : j < n
          · have hll : j < t.args.length := by rw [HN.out]; exact hlt0
            obtain ⟨q, d, hpq, -, hka⟩ := HKD.out
            simp only [Value.slice.injEq] at hpq
            obtain ⟨rfl, -, rfl⟩ := hpq
            obtain ⟨b', o', rfl, hka2⟩ : ∃ b' o', p = some ⟨b', o', none⟩ ∧ KA w anyH b' o' t.args := by
              rcases hka with e | e
              · rw [e] at hll; exact absurd hll (Nat.not_lt_zero _)
              · exact e
            have hnj := (KA_get hka2 hll).below HB6.out
            have hll2 : j < (wholeL t.args).length := by rw [wholeL_len]; exact hll
            have eY : (wholeL t.args)[j] = wholeN t.args[j] := by
              have := List.getElem_map wholeN (l := t.args) (i := j) (h := by simpa using hll)
              rw [← this]
              congr 1
              exact wholeL_map t.args
            obtain ⟨qa, da, hqa, -, hkb⟩ := HK4.out
            simp only [Value.slice.injEq] at hqa
            obtain ⟨rfl, -, rfl⟩ := hqa
            obtain ⟨ba, oa, rfl, hkb2⟩ : ∃ b' o', p3 = some ⟨b', o', none⟩ ∧ KA v4 anyH b' o' (wholeL t.args) := by
              rcases hkb with e | e
              · rw [e] at hll2; exact absurd hll2 (Nat.not_lt_zero _)
              · exact e
            have hna := KA_get hkb2 hll2
            rw [eY] at hna
            have hex := HPX2.out j hll
            have hcx2 := cnt_get hll2
            rw [eY] at hcx2
            have hct2 := cnt_get hll
            have hokx := okL_get HOK.out.2 hll
            have hwk : (wholeN t.args[j]).key = t.args[j].key := whole_key _
            obtain ⟨Y, hY⟩ : ∃ Y, wholeN t.args[j] = Y := ⟨_, rfl⟩
            obtain ⟨X, hX⟩ : ∃ X, t.args[j] = X := ⟨_, rfl⟩
            rw [hY] at hna hex hcx2 hwk
            rw [hX] at hnj hex hct2 hokx hwk
            have hcX : cnt X ≤ 40000 := by have := HCX.out.2; unfold cnt at this hct2 ⊢; omega
            have hcY : cnt Y ≤ 40000 := by have := HCX.out.1; omega
            obtain ⟨x0, x1, x2, x3, x4, x6, svx, x5, hkx⟩ := hnj
            obtain ⟨px, cx, rfl, -⟩ := id hkx
            obtain ⟨g0, g1, g2, g3, g4, g6, svy, g5, hky⟩ := hna
            obtain ⟨py, cy, rfl, -⟩ := id hky
            rw [hwk] at g4
            have HTX : Hid (Calls Try.prog 10 #[.agg #[.int .i64 X.kind, .string X.name, .int .u32 X.num, .int .i64 X.int_, .string X.key, .slice px X.args.length cx, .int .i64 X.at_]] wr fun r w' => ∃ p2 c2, r = .returned (.agg #[.int .i64 X.kind, .string X.name, .int .u32 X.num, .int .i64 X.int_, .string X.key, .slice p2 X.args.length c2, .int .i64 X.at_]) ∧ Kids w' anyH (.slice p2 X.args.length c2) X.args ∧ Below wr.heap.size wr w') := twin_to X px cx wr hcX hkx
            have HEXj : Hid (∀ (p' : Option Addr) (c' : Nat) (x : World), Kids x anyH (.slice p' X.args.length c') X.args → Calls Try.prog 9 #[.agg #[.int .i64 X.kind, .string X.name, .int .u32 X.num, .int .i64 X.int_, .string ⟨#[]⟩, .slice p' X.args.length c', .int .i64 X.at_]] x fun r w' => ∃ p2 c2, r = .returned (.tuple #[.agg #[.int .i64 Y.kind, .string Y.name, .int .u32 Y.num, .int .i64 Y.int_, .string ⟨#[]⟩, .slice p2 Y.args.length c2, .int .i64 Y.at_], .int .i64 0, .int .i64 0]) ∧ Kids w' anyH (.slice p2 Y.args.length c2) Y.args ∧ Below x.heap.size x w') := fun p' c' x hx => expand_to (keyN X ⟨#[]⟩) p' c' x hcX (ok_key hokx) hx hex
            have HYY : Hid (Y.key = X.key ∧ cnt Y ≤ 40000) := ⟨hwk, hcY⟩
            have HKY : Hid (Kids v4 anyH (.slice py Y.args.length cy) Y.args) := hky
            have HG : Hid (v4.cell? ⟨ba, oa + j * 7, none⟩ = some (.int .i64 Y.kind) ∧ v4.cell? ⟨ba, oa + j * 7 + 1, none⟩ = some (.string Y.name) ∧ v4.cell? ⟨ba, oa + j * 7 + 2, none⟩ = some (.int .u32 Y.num) ∧ v4.cell? ⟨ba, oa + j * 7 + 3, none⟩ = some (.int .i64 Y.int_) ∧ v4.cell? ⟨ba, oa + j * 7 + 4, none⟩ = some (.string X.key) ∧ v4.cell? ⟨ba, oa + j * 7 + 5, none⟩ = some (.slice py Y.args.length cy) ∧ v4.cell? ⟨ba, oa + j * 7 + 6, none⟩ = some (.int .i64 Y.at_)) := ⟨g0, g1, g2, g3, g4, g5, g6⟩
            have HX4k : Hid (wr.cell? ⟨b', o' + j * 7 + 4, none⟩ = some (.string X.key)) := x4
            have i1 : (0 : Int) ≤ (j : Int) := by omega
            have i2 : (j : Int) < (n : Int) := by omega
            clear hka hka2 hkb hkb2 hex hcx2 hct2 hokx hwk hY hX hcX hcY hkx hky g0 g1 g2 g3 g4 g5 g6 eY hb
            go_upto_region 14 with (go_at_call 10; (with_reducible refine HTX.out.mono ?_); rintro e v5 ⟨p5, c5, rfl, hk5, hb5⟩; have HK5 := hidM hk5; have HB5 := hidM hb5; clear hk5 hb5; obtain ⟨W7, hW7, hX7, hB7, -⟩ := new_box v5; obtain ⟨⟨q0, q1, q2, q3, q4, q5, q6⟩, r0, r1, r2, r3, r4, r5, r6⟩ := sevenA hX7; have HXB7 := hidM hX7; have HBB7 := hidM hB7; clear hX7 hB7)
            have hx7 := put_sevenA HXB7.out (.int .i64 X.kind) (.string X.name) (.int .u32 X.num) (.int .i64 X.int_) (.string X.key) (.slice p5 X.args.length c5) (.int .i64 X.at_)
            have hb7 := below_seven HBB7.out (.int .i64 X.kind) (.string X.name) (.int .u32 X.num) (.int .i64 X.int_) (.string X.key) (.slice p5 X.args.length c5) (.int .i64 X.at_)
            obtain ⟨U6, hU6⟩ : ∃ UU, (((((((W7.setCell ⟨v5.heap.size, 0, none⟩ (.int .i64 X.kind)).setCell ⟨v5.heap.size, 1, none⟩ (.string X.name)).setCell ⟨v5.heap.size, 2, none⟩ (.int .u32 X.num)).setCell ⟨v5.heap.size, 3, none⟩ (.int .i64 X.int_)).setCell ⟨v5.heap.size, 4, none⟩ (.string X.key)).setCell ⟨v5.heap.size, 5, none⟩ (.slice p5 X.args.length c5)).setCell ⟨v5.heap.size, 6, none⟩ (.int .i64 X.at_)) = UU := ⟨_, rfl⟩
            rw [hU6] at hx7 hb7 ⊢
            obtain ⟨O6, hO6⟩ : ∃ O, v5.heap.size = O := ⟨_, rfl⟩
            have HO6 : Hid (v5.heap.size = O6) := hO6
            rw [hO6] at hx7 ⊢
            have HA7 := hidM hx7
            have HB7 := hidM hb7
            clear q0 q1 q2 q3 q4 q5 q6 r0 r1 r2 r3 r4 r5 r6 hU6 hW7 hO6 hb7 x0 x1 x2 x3 x4 x5 x6 b0 b1 b2 b3 b4 b5 b6
            obtain ⟨⟨q0, q1, q2, q3, q4, q5, q6⟩, r0, r1, r2, r3, r4, r5, r6⟩ := sevenA hx7
            clear hx7
            go_upto_region 15 with fail
            have hx8 := put_oneA HA7.out 4 (.string ⟨#[]⟩)
            simp only [List.setIfInBounds_toArray, List.set_cons_zero, List.set_cons_succ] at hx8
            have hb8 := below_at HB7.out (Nat.le_of_eq HO6.out) 4 (.string ⟨#[]⟩)
            obtain ⟨U7, hU7⟩ : ∃ UU, U6.setCell ⟨O6, 4, none⟩ (.string ⟨#[]⟩) = UU := ⟨_, rfl⟩
            rw [hU7] at hx8 hb8 ⊢
            have HK7 := hidM (HK5.out.below hb8)
            have HB8 : Hid (Below wr.heap.size wr U7) := bel HB5.out hb8
            clear q0 q1 q2 q3 q4 q5 q6 r0 r1 r2 r3 r4 r5 r6 hU7 hb8 HA7 HB7 HO6 HK5 HB5
            obtain ⟨⟨q0, q1, q2, q3, q4, q5, q6⟩, -⟩ := sevenA hx8
            clear hx8
            go_upto_region 16 with (go_at_call 9; (with_reducible refine (HEXj.out _ _ _ HK7.out).mono ?_); rintro e v6 ⟨p8, c8, rfl, hk8, hb8⟩; have HK8 := hidM hk8; have HB9 : Hid (Below wr.heap.size wr v6) := bel HB8.out hb8; clear hk8 hb8; obtain ⟨W9, hW9, hX9, hB9, -⟩ := new_box v6; obtain ⟨⟨s0, s1, s2, s3, s4, s5, s6⟩, r0, r1, r2, r3, r4, r5, r6⟩ := sevenA hX9; have HXB9 := hidM hX9; have HBB9 := hidM hB9; clear hX9 hB9)
            have hx9 := put_sevenA HXB9.out (.int .i64 Y.kind) (.string Y.name) (.int .u32 Y.num) (.int .i64 Y.int_) (.string ⟨#[]⟩) (.slice p8 Y.args.length c8) (.int .i64 Y.at_)
            have hb9 := below_seven HBB9.out (.int .i64 Y.kind) (.string Y.name) (.int .u32 Y.num) (.int .i64 Y.int_) (.string ⟨#[]⟩) (.slice p8 Y.args.length c8) (.int .i64 Y.at_)
            obtain ⟨U9, hU9⟩ : ∃ UU, (((((((W9.setCell ⟨v6.heap.size, 0, none⟩ (.int .i64 Y.kind)).setCell ⟨v6.heap.size, 1, none⟩ (.string Y.name)).setCell ⟨v6.heap.size, 2, none⟩ (.int .u32 Y.num)).setCell ⟨v6.heap.size, 3, none⟩ (.int .i64 Y.int_)).setCell ⟨v6.heap.size, 4, none⟩ (.string ⟨#[]⟩)).setCell ⟨v6.heap.size, 5, none⟩ (.slice p8 Y.args.length c8)).setCell ⟨v6.heap.size, 6, none⟩ (.int .i64 Y.at_)) = UU := ⟨_, rfl⟩
            rw [hU9] at hx9 hb9 ⊢
            obtain ⟨O8, hO8⟩ : ∃ O, v6.heap.size = O := ⟨_, rfl⟩
            have HO8 : Hid (v6.heap.size = O8) := hO8
            rw [hO8] at hx9 ⊢
            have HA9 := hidM hx9
            have HBA9 := hidM hb9
            have hw9 := bel HB9.out hb9
            have k4 := (hw9.cell (mcell_lt HX4k.out)).trans HX4k.out
            obtain ⟨⟨b0, b1, b2, b3, b4, b5, b6⟩, -⟩ := sevenA (((bel HS.out hw9).block _ (hlt HX4.out)).trans HX4.out)
            clear q0 q1 q2 q3 q4 q5 q6 s0 s1 s2 s3 s4 s5 s6 r0 r1 r2 r3 r4 r5 r6 hU9 hW9 hO8 hb9 hw9
            obtain ⟨⟨q0, q1, q2, q3, q4, q5, q6⟩, r0, r1, r2, r3, r4, r5, r6⟩ := sevenA hx9
            clear hx9
            go_upto_region 17 with fail
            have hx10 := put_oneA HA9.out 4 (.string X.key)
            simp only [List.setIfInBounds_toArray, List.set_cons_zero, List.set_cons_succ] at hx10
            have hb10 := below_at HBA9.out (Nat.le_of_eq HO8.out) 4 (.string X.key)
            obtain ⟨U8, hU8⟩ : ∃ UU, U9.setCell ⟨O8, 4, none⟩ (.string X.key) = UU := ⟨_, rfl⟩
            rw [hU8] at hx10 hb10 ⊢
            have hw10 := bel HB9.out hb10
            have hv10 := bel HS.out hw10
            have HK10 := hidM (HK8.out.below hb10)
            have HKY10 := hidM (HKY.out.below hv10)
            have HBW10 : Hid (Below v4.heap.size v4 U8) := hv10
            obtain ⟨⟨-, -, -, -, -, m5, -⟩, -⟩ := sevenA ((hv10.block _ (hlt HA4.out)).trans HA4.out)
            clear q0 q1 q2 q3 q4 q5 q6 r0 r1 r2 r3 r4 r5 r6 b0 b1 b2 b3 b4 b5 b6 k4 hU8 hb10 HA9 HBA9 HO8 HK8 HB9 hw10
            obtain ⟨⟨z0, z1, z2, z3, z4, z5, z6⟩, -⟩ := sevenA hx10
            have y0 := (hv10.cell (mcell_lt HG.out.1)).trans HG.out.1
            have y1 := (hv10.cell (mcell_lt HG.out.2.1)).trans HG.out.2.1
            have y2 := (hv10.cell (mcell_lt HG.out.2.2.1)).trans HG.out.2.2.1
            have y3 := (hv10.cell (mcell_lt HG.out.2.2.2.1)).trans HG.out.2.2.2.1
            have y4 := (hv10.cell (mcell_lt HG.out.2.2.2.2.1)).trans HG.out.2.2.2.2.1
            have y5 := (hv10.cell (mcell_lt HG.out.2.2.2.2.2.1)).trans HG.out.2.2.2.2.2.1
            have y6 := (hv10.cell (mcell_lt HG.out.2.2.2.2.2.2)).trans HG.out.2.2.2.2.2.2
            have HSM : Hid (∀ x, Below U8.heap.size U8 x → Calls Try.prog 11 #[.agg #[.int .i64 Y.kind, .string Y.name, .int .u32 Y.num, .int .i64 Y.int_, .string X.key, .slice py Y.args.length cy, .int .i64 Y.at_], .agg #[.int .i64 Y.kind, .string Y.name, .int .u32 Y.num, .int .i64 Y.int_, .string X.key, .slice p8 Y.args.length c8, .int .i64 Y.at_]] x fun e w' => e = .returned (.bool true) ∧ Below x.heap.size x w') := fun x hx => by
              have := same_at Y py cy p8 c8 x (by have := HYY.out.2; omega) (HKY10.out.below hx) (HK10.out.below hx)
              rw [HYY.out.1] at this
              exact this
            clear hx10 hv10 HG HKY HX4k HTX HEXj
            refine wp_region_held_drew (S := (fun x => x.cell? ⟨O3, 5, none⟩ = some (.slice (some ⟨ba, oa, none⟩) n c3) ∧ x.cell? ⟨ba, oa + j * 7, none⟩ = some (.int .i64 Y.kind) ∧ x.cell? ⟨ba, oa + j * 7 + 1, none⟩ = some (.string Y.name) ∧ x.cell? ⟨ba, oa + j * 7 + 2, none⟩ = some (.int .u32 Y.num) ∧ x.cell? ⟨ba, oa + j * 7 + 3, none⟩ = some (.int .i64 Y.int_) ∧ x.cell? ⟨ba, oa + j * 7 + 4, none⟩ = some (.string X.key) ∧ x.cell? ⟨ba, oa + j * 7 + 5, none⟩ = some (.slice py Y.args.length cy) ∧ x.cell? ⟨ba, oa + j * 7 + 6, none⟩ = some (.int .i64 Y.at_) ∧ x.cell? ⟨O8, 0, none⟩ = some (.int .i64 Y.kind) ∧ x.cell? ⟨O8, 1, none⟩ = some (.string Y.name) ∧ x.cell? ⟨O8, 2, none⟩ = some (.int .u32 Y.num) ∧ x.cell? ⟨O8, 3, none⟩ = some (.int .i64 Y.int_) ∧ x.cell? ⟨O8, 4, none⟩ = some (.string X.key) ∧ x.cell? ⟨O8, 5, none⟩ = some (.slice p8 Y.args.length c8) ∧ x.cell? ⟨O8, 6, none⟩ = some (.int .i64 Y.at_))) (by kernel_rfl) ?_ (fun hHeld => ?_)
            · ((try dsimp only); first | exact ⟨m5, y0, y1, y2, y3, y4, y5, y6, z0, z1, z2, z3, z4, z5, z6⟩ | exact ⟨n5, j0, j1, j2, j3, j4, j5, j6, k0, k1, k2, k3, k4, k5, k6⟩)
            refine wpAnyH_take (i := 0) (v := ?_) (by simp only [List.getElem?_toArray, List.getElem?_cons_succ, List.getElem?_cons_zero]; rfl) (by kernel_rfl) (by kernel_rfl) (by kernel_rfl) (by exact fun _ _ _ h => h) (Or.inl ⟨by rfl, ?_⟩) (by assumption) ?_
            rotate_left 1
            · (intro wS hSw; (try dsimp only at hSw); obtain ⟨s5, sy0, sy1, sy2, sy3, sy4, sy5, sy6, sz0, sz1, sz2, sz3, sz4, sz5, sz6⟩ := hSw; go_simp; try (with_reducible rfl))
            try simp only [Act.put, List.setIfInBounds_toArray, List.set_cons_zero, List.set_cons_succ]
            refine wpAnyH_take (i := 1) (v := ?_) (by simp only [List.getElem?_toArray, List.getElem?_cons_succ, List.getElem?_cons_zero]; rfl) (by kernel_rfl) (by kernel_rfl) (by kernel_rfl) (by exact fun _ _ _ h => h) (Or.inl ⟨by rfl, ?_⟩) (by assumption) ?_
            rotate_left 1
            · (intro wS hSw; (try dsimp only at hSw); obtain ⟨s5, sy0, sy1, sy2, sy3, sy4, sy5, sy6, sz0, sz1, sz2, sz3, sz4, sz5, sz6⟩ := hSw; go_simp; try (with_reducible rfl))
            try simp only [Act.put, List.setIfInBounds_toArray, List.set_cons_zero, List.set_cons_succ]
            refine wpAnyH_take (i := 2) (v := ?_) (by simp only [List.getElem?_toArray, List.getElem?_cons_succ, List.getElem?_cons_zero]; rfl) (by kernel_rfl) (by kernel_rfl) (by kernel_rfl) (by exact fun _ _ _ h => h) (Or.inl ⟨by rfl, ?_⟩) (by assumption) ?_
            rotate_left 1
            · (intro wS hSw; (try dsimp only at hSw); obtain ⟨s5, sy0, sy1, sy2, sy3, sy4, sy5, sy6, sz0, sz1, sz2, sz3, sz4, sz5, sz6⟩ := hSw; go_simp; try (with_reducible rfl))
            try simp only [Act.put, List.setIfInBounds_toArray, List.set_cons_zero, List.set_cons_succ]
            refine wpAnyH_take (i := 3) (v := ?_) (by simp only [List.getElem?_toArray, List.getElem?_cons_succ, List.getElem?_cons_zero]; rfl) (by kernel_rfl) (by kernel_rfl) (by kernel_rfl) (by exact fun _ _ _ h => h) (Or.inl ⟨by rfl, ?_⟩) (by assumption) ?_
            rotate_left 1
            · (intro wS hSw; (try dsimp only at hSw); obtain ⟨s5, sy0, sy1, sy2, sy3, sy4, sy5, sy6, sz0, sz1, sz2, sz3, sz4, sz5, sz6⟩ := hSw; go_simp; try (with_reducible rfl))
            try simp only [Act.put, List.setIfInBounds_toArray, List.set_cons_zero, List.set_cons_succ]
            refine wpAnyH_take (i := 4) (v := ?_) (by simp only [List.getElem?_toArray, List.getElem?_cons_succ, List.getElem?_cons_zero]; rfl) (by kernel_rfl) (by kernel_rfl) (by kernel_rfl) (by exact fun _ _ _ h => h) (Or.inl ⟨by rfl, ?_⟩) (by assumption) ?_
            rotate_left 1
            · (intro wS hSw; (try dsimp only at hSw); obtain ⟨s5, sy0, sy1, sy2, sy3, sy4, sy5, sy6, sz0, sz1, sz2, sz3, sz4, sz5, sz6⟩ := hSw; go_simp; try (with_reducible rfl))
            try simp only [Act.put, List.setIfInBounds_toArray, List.set_cons_zero, List.set_cons_succ]
            refine wpAnyH_take (i := 5) (v := ?_) (by simp only [List.getElem?_toArray, List.getElem?_cons_succ, List.getElem?_cons_zero]; rfl) (by kernel_rfl) (by kernel_rfl) (by kernel_rfl) (by exact fun _ _ _ h => h) (Or.inl ⟨by rfl, ?_⟩) (by assumption) ?_
            rotate_left 1
            · (intro wS hSw; (try dsimp only at hSw); obtain ⟨s5, sy0, sy1, sy2, sy3, sy4, sy5, sy6, sz0, sz1, sz2, sz3, sz4, sz5, sz6⟩ := hSw; go_simp; try (with_reducible rfl))
            try simp only [Act.put, List.setIfInBounds_toArray, List.set_cons_zero, List.set_cons_succ]
            refine wpAnyH_take (i := 6) (v := ?_) (by simp only [List.getElem?_toArray, List.getElem?_cons_succ, List.getElem?_cons_zero]; rfl) (by kernel_rfl) (by kernel_rfl) (by kernel_rfl) (by exact fun _ _ _ h => h) (Or.inl ⟨by rfl, ?_⟩) (by assumption) ?_
            rotate_left 1
            · (intro wS hSw; (try dsimp only at hSw); obtain ⟨s5, sy0, sy1, sy2, sy3, sy4, sy5, sy6, sz0, sz1, sz2, sz3, sz4, sz5, sz6⟩ := hSw; go_simp; try (with_reducible rfl))
            try simp only [Act.put, List.setIfInBounds_toArray, List.set_cons_zero, List.set_cons_succ]
            refine wpAnyH_take (i := 7) (v := ?_) (by simp only [List.getElem?_toArray, List.getElem?_cons_succ, List.getElem?_cons_zero]; rfl) (by kernel_rfl) (by kernel_rfl) (by kernel_rfl) (by exact fun _ _ _ h => h) (Or.inl ⟨by rfl, ?_⟩) (by assumption) ?_
            rotate_left 1
            · (intro wS hSw; (try dsimp only at hSw); obtain ⟨s5, sy0, sy1, sy2, sy3, sy4, sy5, sy6, sz0, sz1, sz2, sz3, sz4, sz5, sz6⟩ := hSw; go_simp; try (with_reducible rfl))
            try simp only [Act.put, List.setIfInBounds_toArray, List.set_cons_zero, List.set_cons_succ]
            refine wpAnyH_take (i := 8) (v := ?_) (by simp only [List.getElem?_toArray, List.getElem?_cons_succ, List.getElem?_cons_zero]; rfl) (by kernel_rfl) (by kernel_rfl) (by kernel_rfl) (by exact fun _ _ _ h => h) (Or.inl ⟨by rfl, ?_⟩) (by assumption) ?_
            rotate_left 1
            · (intro wS hSw; (try dsimp only at hSw); obtain ⟨s5, sy0, sy1, sy2, sy3, sy4, sy5, sy6, sz0, sz1, sz2, sz3, sz4, sz5, sz6⟩ := hSw; go_simp; try (with_reducible rfl))
            try simp only [Act.put, List.setIfInBounds_toArray, List.set_cons_zero, List.set_cons_succ]
            clear hHeld
            refine wpAnyH_ready (rs := [9]) (by kernel_rfl) (by simp) ?_
            refine AllReadyH.cons (i := 9) (by simp only [List.getElem?_toArray, List.getElem?_cons_succ, List.getElem?_cons_zero]; rfl) (fun K hK => ?_) AllReadyH.nil
            go_simp
            (go_at_call 11; (with_reducible refine (HSM.out _ (bel_d _)).mono ?_); rintro e v9 ⟨rfl, hb9⟩; have hb9' := bel (bel_d _) hb9; have HB9 : Hid (Below U8.heap.size U8 v9) := hb9'; have n5 := (hb9'.cell (mcell_lt m5)).trans m5; have j0 := (hb9'.cell (mcell_lt y0)).trans y0; have j1 := (hb9'.cell (mcell_lt y1)).trans y1; have j2 := (hb9'.cell (mcell_lt y2)).trans y2; have j3 := (hb9'.cell (mcell_lt y3)).trans y3; have j4 := (hb9'.cell (mcell_lt y4)).trans y4; have j5 := (hb9'.cell (mcell_lt y5)).trans y5; have j6 := (hb9'.cell (mcell_lt y6)).trans y6; have k0 := (hb9'.cell (mcell_lt z0)).trans z0; have k1 := (hb9'.cell (mcell_lt z1)).trans z1; have k2 := (hb9'.cell (mcell_lt z2)).trans z2; have k3 := (hb9'.cell (mcell_lt z3)).trans z3; have k4 := (hb9'.cell (mcell_lt z4)).trans z4; have k5 := (hb9'.cell (mcell_lt z5)).trans z5; have k6 := (hb9'.cell (mcell_lt z6)).trans z6; clear hb9 hb9')
            try (go_wp2_with fail)
            refine hK.out _ _ ?_ (fun hHeld => ?_)
            · ((try dsimp only); first | exact ⟨m5, y0, y1, y2, y3, y4, y5, y6, z0, z1, z2, z3, z4, z5, z6⟩ | exact ⟨n5, j0, j1, j2, j3, j4, j5, j6, k0, k1, k2, k3, k4, k5, k6⟩)
            clear hK K
            try simp only [Act.put, List.setIfInBounds_toArray, List.set_cons_zero, List.set_cons_succ]
            refine wpAnyH_take (i := 10) (v := ?_) (by simp only [List.getElem?_toArray, List.getElem?_cons_succ, List.getElem?_cons_zero]; rfl) (by kernel_rfl) (by kernel_rfl) (by kernel_rfl) (by exact fun _ _ _ h => h) (Or.inl ⟨by rfl, ?_⟩) (by assumption) ?_
            rotate_left 1
            · (intro wS hSw; (try dsimp only at hSw); obtain ⟨s5, sy0, sy1, sy2, sy3, sy4, sy5, sy6, sz0, sz1, sz2, sz3, sz4, sz5, sz6⟩ := hSw; go_simp; try (with_reducible rfl))
            try simp only [Act.put, List.setIfInBounds_toArray, List.set_cons_zero, List.set_cons_succ]
            refine wpAnyH_take (i := 11) (v := ?_) (by simp only [List.getElem?_toArray, List.getElem?_cons_succ, List.getElem?_cons_zero]; rfl) (by kernel_rfl) (by kernel_rfl) (by kernel_rfl) (by exact fun _ _ _ h => h) (Or.inl ⟨by rfl, ?_⟩) (by assumption) ?_
            rotate_left 1
            · (intro wS hSw; (try dsimp only at hSw); obtain ⟨s5, sy0, sy1, sy2, sy3, sy4, sy5, sy6, sz0, sz1, sz2, sz3, sz4, sz5, sz6⟩ := hSw; go_simp; try (with_reducible rfl))
            try simp only [Act.put, List.setIfInBounds_toArray, List.set_cons_zero, List.set_cons_succ]
            refine wpAnyH_done (by kernel_rfl) ?_ _
            skip
            have HBN : Hid (Below v4.heap.size v4 v9) := bel HBW10.out HB9.out
            clear m5 n5 y0 y1 y2 y3 y4 y5 y6 z0 z1 z2 z3 z4 z5 z6 j0 j1 j2 j3 j4 j5 j6 k0 k1 k2 k3 k4 k5 k6 HSM
            go_wp2
            go_roundw
            case rel => exact ⟨j + 1, by omega, by go_num, HBN.out⟩
            case measure => simp [intOf]; omega
          · have : j = n := by omega
            subst this
            have i2 : ¬ ((j : Int) < (j : Int)) := by omega
            clear hb
            go_wp2_with (go_at_call 8; (with_reducible refine (HWK.out _).mono ?_); rintro e vk ⟨rfl, hbk⟩; have HBK := hidM (bel HB6.out hbk); clear hbk)
            refine bodyPost_ret (by simp [results, Try.results4, go_sem]; try rfl) rfl ?_
            exact ⟨rfl, HBK.out⟩
      · rw [hlf] at HLB
        obtain ⟨X, hX⟩ : ∃ X, wholeN (writtenA t) = X := ⟨_, rfl⟩
        rw [hX] at hex
        have HEX : Hid (∀ (p' : Option Addr) (c' : Nat) (x : World), Kids x anyH (.slice p' n c') t.args → Calls Try.prog 9 #[.agg #[.int .i64 t.kind, .string t.name, .int .u32 t.num, .int .i64 t.int_, .string t.key, .slice p' n c', .int .i64 t.at_]] x fun r w' => ∃ p' c', r = .returned (.tuple #[.agg #[.int .i64 X.kind, .string X.name, .int .u32 X.num, .int .i64 X.int_, .string X.key, .slice p' X.args.length c', .int .i64 X.at_], .int .i64 0, .int .i64 0]) ∧ Kids w' anyH (.slice p' X.args.length c') X.args ∧ Below x.heap.size x w') := fun p' c' x hx => by
          have := expand_to t p' c' x (by omega) HOK.out (by rw [HN.out]; exact hx) hex
          rw [HN.out] at this
          exact this
        clear hck hoe hfa hcx hex hX hlf hc9 HPX
        go_enter Try.func4, Try.ntmps4
        go_upto_region 4 with (first
          | (go_at_call 7; (with_reducible refine (HGR.out _ HB0.out).mono ?_); rintro e v1 ⟨rfl, hb1⟩; have HB1 := hidM (bel HB0.out hb1); have HX1 := hidM ((hb1.block _ (hlt HX0.out)).trans HX0.out); obtain ⟨⟨b0, b1, b2, b3, b4, b5, b6⟩, -⟩ := sevenA HX1.out; clear hb1)
          | (go_at_call 10; (with_reducible refine (HTW.out _ HB1.out).mono ?_); rintro e v2 ⟨p2, c2, rfl, hk2, hb2⟩; have HK2 := hidM hk2; have HB2 := hidM (bel HB1.out hb2); have HX2 := hidM ((hb2.block _ (hlt HX1.out)).trans HX1.out); clear hk2 hb2)
          | (go_at_call 9; (with_reducible refine (HEX.out _ _ _ HK2.out).mono ?_); rintro e v3 ⟨p3, c3, rfl, hk3, hb3⟩; have HK3 := hidM hk3; have HB3 := hidM (bel HB2.out hb3); have HX3 := hidM ((hb3.block _ (hlt HX2.out)).trans HX2.out); clear hk3 hb3; obtain ⟨W4, hW4, hX4, hB4, -⟩ := new_box v3; obtain ⟨⟨q0, q1, q2, q3, q4, q5, q6⟩, r0, r1, r2, r3, r4, r5, r6⟩ := sevenA hX4; have HXB4 := hidM hX4; have HBB4 := hidM hB4; clear hX4 hB4))
        have hx4 := put_sevenA HXB4.out (.int .i64 X.kind) (.string X.name) (.int .u32 X.num) (.int .i64 X.int_) (.string X.key) (.slice p3 X.args.length c3) (.int .i64 X.at_)
        have hb4 := below_seven HBB4.out (.int .i64 X.kind) (.string X.name) (.int .u32 X.num) (.int .i64 X.int_) (.string X.key) (.slice p3 X.args.length c3) (.int .i64 X.at_)
        obtain ⟨U3, hU3⟩ : ∃ UU, (((((((W4.setCell ⟨v3.heap.size, 0, none⟩ (.int .i64 X.kind)).setCell ⟨v3.heap.size, 1, none⟩ (.string X.name)).setCell ⟨v3.heap.size, 2, none⟩ (.int .u32 X.num)).setCell ⟨v3.heap.size, 3, none⟩ (.int .i64 X.int_)).setCell ⟨v3.heap.size, 4, none⟩ (.string X.key)).setCell ⟨v3.heap.size, 5, none⟩ (.slice p3 X.args.length c3)).setCell ⟨v3.heap.size, 6, none⟩ (.int .i64 X.at_)) = UU := ⟨_, rfl⟩
        rw [hU3] at hx4 hb4 ⊢
        have HK4 := hidM (HK3.out.below hb4)
        have HB4 := hidM (bel HB3.out hb4)
        have HX4 := hidM ((hb4.block _ (hlt HX3.out)).trans HX3.out)
        obtain ⟨O3, hO3⟩ : ∃ O, v3.heap.size = O := ⟨_, rfl⟩
        rw [hO3] at hx4 ⊢
        have HA4 := hidM hx4
        clear q0 q1 q2 q3 q4 q5 q6 r0 r1 r2 r3 r4 r5 r6 hU3 hW4 hb4 hx4 a0 a1 a2 a3 a4 a5 a6 b0 b1 b2 b3 b4 b5 b6 HEX HGR HK2 HK3 HXB4 HBB4 hO3 HB3 HX3 HX2 HX1
        obtain ⟨⟨b0, b1, b2, b3, b4, b5, b6⟩, -⟩ := sevenA HX4.out
        obtain ⟨W5, hW5, hX5, hB5, -⟩ := new_box U3
        obtain ⟨⟨q0, q1, q2, q3, q4, q5, q6⟩, r0, r1, r2, r3, r4, r5, r6⟩ := sevenA hX5
        have HXB5 := hidM hX5
        have HBB5 := hidM hB5
        clear hX5 hB5
        go_upto_region 5 with fail
        have hx5 := put_sevenA HXB5.out (.int .i64 t.kind) (.string t.name) (.int .u32 t.num) (.int .i64 t.int_) (.string t.key) (.slice p n c) (.int .i64 t.at_)
        have hb5 := below_seven HBB5.out (.int .i64 t.kind) (.string t.name) (.int .u32 t.num) (.int .i64 t.int_) (.string t.key) (.slice p n c) (.int .i64 t.at_)
        obtain ⟨U4, hU4⟩ : ∃ UU, (((((((W5.setCell ⟨U3.heap.size, 0, none⟩ (.int .i64 t.kind)).setCell ⟨U3.heap.size, 1, none⟩ (.string t.name)).setCell ⟨U3.heap.size, 2, none⟩ (.int .u32 t.num)).setCell ⟨U3.heap.size, 3, none⟩ (.int .i64 t.int_)).setCell ⟨U3.heap.size, 4, none⟩ (.string t.key)).setCell ⟨U3.heap.size, 5, none⟩ (.slice p n c)).setCell ⟨U3.heap.size, 6, none⟩ (.int .i64 t.at_)) = UU := ⟨_, rfl⟩
        rw [hU4] at hx5 hb5 ⊢
        obtain ⟨O4, hO4⟩ : ∃ O, U3.heap.size = O := ⟨_, rfl⟩
        have HO4 : Hid (U3.heap.size = O4) := hO4
        rw [hO4] at hx5 ⊢
        have HA5 := hidM hx5
        have HBU4 := hidM hb5
        clear q0 q1 q2 q3 q4 q5 q6 r0 r1 r2 r3 r4 r5 r6 b0 b1 b2 b3 b4 b5 b6 hU4 hW5 hb5 hO4
        obtain ⟨⟨q0, q1, q2, q3, q4, q5, q6⟩, r0, r1, r2, r3, r4, r5, r6⟩ := sevenA hx5
        clear hx5
        go_upto_region 6 with fail
        have hx6 := put_oneA HA5.out 5 (.slice none 0 0)
        simp only [List.setIfInBounds_toArray, List.set_cons_zero, List.set_cons_succ] at hx6
        have hb6 := below_at HBU4.out (Nat.le_of_eq HO4.out) 5 (.slice none 0 0)
        obtain ⟨U, hU⟩ : ∃ UU, U4.setCell ⟨O4, 5, none⟩ (.slice none 0 0) = UU := ⟨_, rfl⟩
        rw [hU] at hx6 hb6 ⊢
        have HKU := hidM (HK4.out.below hb6)
        have HBU := hidM (bel HB4.out hb6)
        have HXU := hidM ((hb6.block _ (hlt HX4.out)).trans HX4.out)
        have HAU := hidM ((hb6.block _ (hlt HA4.out)).trans HA4.out)
        clear q0 q1 q2 q3 q4 q5 q6 r0 r1 r2 r3 r4 r5 r6 hU hb6 HA5 HBU4 HO4 HXB5 HBB5 HK4 HB4 HX4 HA4
        obtain ⟨⟨q0, q1, q2, q3, q4, q5, q6⟩, -⟩ := sevenA hx6
        clear hx6
        go_wp2_with (first
          | (go_at_call 12; (with_reducible refine (HLB.out _).mono ?_); rintro e v4 ⟨rfl, hb4⟩; have HBW := hidM (bel HBU.out hb4); clear hb4)
          | (go_at_call 8; (with_reducible refine (HWK.out _).mono ?_); rintro e vk ⟨rfl, hbk⟩; have HBK := hidM (bel HBW.out hbk); clear hbk))
        refine bodyPost_ret (by simp [results, Try.results4, go_sem]; try rfl) rfl ?_
        exact ⟨rfl, HBK.out⟩

end Go.Proofs.Ytbmkddmmclndcaa
/- An argument opened: a tree. -/
namespace Go.Proofs.Ytbmkddmmclndcaa
open Go.ChangeShapes Go.WideShapes Go.ChangeAt Go.RowKit
set_option linter.unusedVariables false
set_option maxRecDepth 100000

theorem cells_Node : Try.prog.cellsOf 26 = 7 := by kernel_rfl

theorem weights_mem_all {H : Type} {P : Program} {e : TypeId} : ∀ {l : List (DataW H)} {d : DataW H}, d ∈ l → ∀ n ∈ d.weights P e, n ∈ DataW.weightsAll P e l
  | [], d, h, n, hn => by cases h
  | x :: r, d, h, n, hn => by
    simp only [DataW.weightsAll, List.mem_append]
    rcases List.mem_cons.1 h with rfl | h
    · exact .inl hn
    · exact .inr (weights_mem_all h n hn)

section
variable {H : Type} {enc : TypeId × Value → H} {w : World} {base : Nat} {held : Bool}

theorem open_Node : ∀ (fuel : Nat) (cs : List Value) (x : DataW H × List MemPlace), DataW.trod enc Try.prog w base (fun _ => true) held fuel 26 cs = some x → (∀ n ∈ x.1.weights Try.prog 26, n ≤ reachBytes) →
    ∃ (t : Nd) (p : Option Addr) (c : Nat), cs = [.int .i64 t.kind, .string t.name, .int .u32 t.num, .int .i64 t.int_, .string t.key, .slice p t.args.length c, .int .i64 t.at_] ∧ Kids w anyH (.slice p t.args.length c) t.args ∧ ok1 t := by
  intro fuel
  induction fuel using Nat.strongRecOn with
  | _ fuel ih =>
    intro cs x h hw
    obtain ⟨xs, n, hfn, hx, hl, hxl, hf⟩ := DataW.trod_struct Try.underlying26 h
    rw [cells_Node] at hl
    match cs, hl with
    | [v0, v1, v2, v3, v4, v5, v6], _ =>
    match xs, hxl with
    | [y0, y1, y2, y3, y4, y5, y6], _ =>
      have e0 : DataW.trod enc Try.prog w base (fun _ => true) held n 3 [v0] = some y0 := hf 0 _ rfl
      have e1 : DataW.trod enc Try.prog w base (fun _ => true) held n 9 [v1] = some y1 := hf 1 _ rfl
      have e2 : DataW.trod enc Try.prog w base (fun _ => true) held n 23 [v2] = some y2 := hf 2 _ rfl
      have e3 : DataW.trod enc Try.prog w base (fun _ => true) held n 3 [v3] = some y3 := hf 3 _ rfl
      have e4 : DataW.trod enc Try.prog w base (fun _ => true) held n 9 [v4] = some y4 := hf 4 _ rfl
      have e5 : DataW.trod enc Try.prog w base (fun _ => true) held n 24 [v5] = some y5 := hf 5 _ rfl
      have e6 : DataW.trod enc Try.prog w base (fun _ => true) held n 3 [v6] = some y6 := hf 6 _ rfl
      obtain ⟨a0, c0, hd0, w0⟩ := DataW.trod_int Try.underlying3 e0
      obtain ⟨a1, c1, hd1, w1⟩ := DataW.trod_string Try.underlying9 e1
      obtain ⟨a2, c2, hd2, w2⟩ := DataW.trod_int Try.underlying23 e2
      obtain ⟨a3, c3, hd3, w3⟩ := DataW.trod_int Try.underlying3 e3
      obtain ⟨a4, c4, hd4, w4⟩ := DataW.trod_string Try.underlying9 e4
      obtain ⟨a6, c6, hd6, w6⟩ := DataW.trod_int Try.underlying3 e6
      simp only [List.cons.injEq, and_true] at c0 c1 c2 c3 c4 c6
      subst c0 c1 c2 c3 c4 c6
      subst hx
      have hws : ∀ (j : Nat) (t : TypeId) (d : DataW H), [3, 9, 23, 3, 9, 24, 3][j]? = some t → [y0.1, y1.1, y2.1, y3.1, y4.1, y5.1, y6.1][j]? = some d → ∀ n ∈ d.weights Try.prog t, n ≤ reachBytes := fun j t d ht hd n hn => by
        refine hw n ?_
        show n ∈ DataW.weights Try.prog 26 (.agg [y0.1, y1.1, y2.1, y3.1, y4.1, y5.1, y6.1])
        rw [DataW.weights, Try.underlying26]
        exact DataW.weights_mem_each (ts := [3, 9, 23, 3, 9, 24, 3]) ht hd n hn
      have s1 : a1.size ≤ 140737488351232 := by
        have := hws 1 _ _ rfl rfl a1.data.toList.length (by rw [hd1]; simp [DataW.weights])
        simpa [reachBytes] using this
      have s4 : a4.size ≤ 140737488351232 := by
        have := hws 4 _ _ rfl rfl a4.data.toList.length (by rw [hd4]; simp [DataW.weights])
        simpa [reachBytes] using this
      have b2 := bounds_u32 w2
      rcases DataW.trod_slice Try.underlying24 e5 with ⟨hcs, hx5⟩ | ⟨a, len, cap, elems, rest, m, hm, hcs, hx5, _, hl5, _, hel, hread, _, _⟩
      · simp only [List.cons.injEq, and_true] at hcs
        subst hcs
        exact ⟨⟨a0, a1, a2, a3, a4, [], a6⟩, none, 0, rfl, ⟨none, 0, rfl, trivial, .inl rfl⟩, ⟨s1, s4, b2.1, Int.lt_of_le_of_lt b2.2 (by decide)⟩, okL_nil⟩
      · simp only [List.cons.injEq, and_true] at hcs
        subst hcs
        have key : ∀ i, i < len → ∃ q : Nd × Option Addr × Nat, (∀ k, k < 7 → w.cell? (a.add (i * 7 + k)) = [Value.int .i64 q.1.kind, .string q.1.name, .int .u32 q.1.num, .int .i64 q.1.int_, .string q.1.key, .slice q.2.1 q.1.args.length q.2.2, .int .i64 q.1.at_][k]?) ∧ Kids w anyH (.slice q.2.1 q.1.args.length q.2.2) q.1.args ∧ ok1 q.1 := by
          intro i hi
          have h1 := hread i hi
          rw [cells_Node] at h1
          have hie : i < elems.length := by omega
          rw [List.getElem?_eq_getElem hie] at h1
          obtain ⟨cs', h2, h3⟩ := Option.bind_eq_some_iff.1 h1
          obtain ⟨_, hlen7, hcell⟩ := World.cells?_some h2
          obtain ⟨t, p, c, hcs, hk, hok⟩ := ih m (by omega) cs' _ h3 (fun k hk => hws 5 _ _ rfl rfl k (by
            rw [hx5, DataW.weights, Try.underlying24]
            exact List.mem_cons_of_mem _ (List.mem_append_left _ (weights_mem_all (List.mem_map.2 ⟨elems[i], List.getElem_mem hie, rfl⟩) k hk))))
          refine ⟨(t, p, c), fun k hk7 => ?_, hk, hok⟩
          have := hcell k hk7
          rw [Go.Deep.add_add, hcs] at this
          exact this
        have : Inhabited (Nd × Option Addr × Nat) := ⟨(⟨0, ⟨#[]⟩, 0, 0, ⟨#[]⟩, [], 0⟩, none, 0)⟩
        obtain ⟨f, hf⟩ := Go.Deep.choose_lt key
        have hTl : ((List.range len).map fun i => (f i).1).length = len := by simp
        refine ⟨⟨a0, a1, a2, a3, a4, (List.range len).map fun i => (f i).1, a6⟩, some a, cap, by simp, ?_, ⟨s1, s4, b2.1, Int.lt_of_le_of_lt b2.2 (by decide)⟩, ?_⟩
        · refine ⟨some a, cap, rfl, trivial, ?_⟩
          by_cases hl0 : len = 0
          · left; simp [hl0]
          · obtain ⟨b, off, spot⟩ := a
            have hspot : spot = none := by simpa [Addr.add] using World.cell?_spot ((hf 0 (by omega)).1 0 (by decide))
            subst hspot
            refine .inr ⟨b, off, rfl, KA_of fun i hi => ?_⟩
            have hi' : i < len := by rw [hTl] at hi; exact hi
            obtain ⟨g, hk, -⟩ := hf i hi'
            have e : ((List.range len).map fun i => (f i).1)[i] = (f i).1 := by simp
            simp only [add_plain] at g
            rw [e]
            have g' : ∀ k, k < 7 → w.cell? ⟨b, off + i * 7 + k, none⟩ = [Value.int .i64 (f i).1.kind, .string (f i).1.name, .int .u32 (f i).1.num, .int .i64 (f i).1.int_, .string (f i).1.key, .slice (f i).2.1 (f i).1.args.length (f i).2.2, .int .i64 (f i).1.at_][k]? := fun k hk => by rw [Nat.add_assoc]; exact g k hk
            exact ⟨g' 0 (by decide), g' 1 (by decide), g' 2 (by decide), g' 3 (by decide), g' 4 (by decide), g' 6 (by decide), _, g' 5 (by decide), hk⟩
        · have okAll : ∀ l : List Nd, (∀ t ∈ l, ok1 t) → okL l := by
            intro l
            induction l with
            | nil => intro _; exact okL_nil
            | cons t r ih => intro h; exact (okL_cons t r).2 ⟨h t (by simp), ih fun u hu => h u (by simp [hu])⟩
          refine okAll _ fun t ht => ?_
          obtain ⟨i, hi, rfl⟩ := List.mem_map.1 ht
          exact (hf i (List.mem_range.1 hi)).2.2

theorem open_Tree {r : Reach} {b0 : Nat} {v : Value} {d : DataW H} {pl : List MemPlace} (hv : Value.okWide Try.prog w r b0 26 v) (h : DataW.Trod enc Try.prog w base (fun _ => true) held 26 v d pl) (hw : ∀ n ∈ d.weights Try.prog 26, n ≤ reachBytes) :
    ∃ (t : Nd) (p : Option Addr) (c : Nat), v = nv t (.slice p t.args.length c) ∧ Kids w anyH (.slice p t.args.length c) t.args ∧ ok1 t := by
  obtain ⟨cs, rfl, hsz⟩ := okWide_struct Try.underlying26 hv
  obtain ⟨fuel, hf⟩ := h
  obtain ⟨t, p, c, hcs, hk, hok⟩ := open_Node fuel _ _ hf hw
  refine ⟨t, p, c, ?_, hk, hok⟩
  simp only [Value.cells] at hcs
  unfold nv
  rw [Value.agg.injEq]
  apply Array.toList_inj.1
  exact hcs
end

end Go.Proofs.Ytbmkddmmclndcaa
