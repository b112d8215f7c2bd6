import Derived.Test.YtbmkddmmclndcaaPart25
import Derived.Test.YtbmkddmmclndcaaPart4
import Derived.Test.YtbmkddmmclndcaaPart1
import Derived.Test.YtbmkddmmclndcaaRows
import Derived.WalkKit
import Derived.ProofKit
import Derived.OpenShut
import Derived.JoinedCond
import Derived.Deep.Slices
import Derived.Deep.Strs
import Derived.SizedLaws
/- The statement AliasAgain. (tool/layer12/genagain.py) -/
namespace Go.Proofs.Ytbmkddmmclndcaa
open Go.RowKit
set_option linter.unusedVariables false
set_option linter.unusedSimpArgs false

/-- Expand's contract, its tree's slice opened. -/
theorem expand_to (t : Nd) (p : Option Addr) (c : Nat) (w : World) (hc : cnt t ≤ 40000) (hok : ok1 t) (hk : Kids w anyH (.slice p t.args.length c) t.args) {X : Nd} {e a : Int} (hE : expP t = ⟨X, e, a⟩) :
    Calls Try.prog 9 #[.agg #[.int .i64 t.kind, .string t.name, .int .u32 t.num, .int .i64 t.int_, .string t.key, .slice p t.args.length c, .int .i64 t.at_]] w fun r w' => ∃ p' c', r = .returned (.tuple #[.agg #[.int .i64 X.kind, .string X.name, .int .u32 X.num, .int .i64 X.int_, .string X.key, .slice p' X.args.length c', .int .i64 X.at_], .int .i64 e, .int .i64 a]) ∧ Kids w' anyH (.slice p' X.args.length c') X.args ∧ Below w.heap.size w w' :=
  (expand_any t _ w hc hok hk).mono fun r w' ⟨sv, h1, h2, h3⟩ => by
    rw [hE] at h1 h2
    obtain ⟨p', c', rfl, -⟩ := id h2
    exact ⟨p', c', h1, kids_any h2, h3⟩
theorem twin_to (t : Nd) (p : Option Addr) (c : Nat) (w : World) (hc : cnt t ≤ 40000) (hk : Kids w anyH (.slice p t.args.length c) t.args) :
    Calls Try.prog 10 #[.agg #[.int .i64 t.kind, .string t.name, .int .u32 t.num, .int .i64 t.int_, .string t.key, .slice p t.args.length c, .int .i64 t.at_]] w fun r w' => ∃ p' c', r = .returned (.agg #[.int .i64 t.kind, .string t.name, .int .u32 t.num, .int .i64 t.int_, .string t.key, .slice p' t.args.length c', .int .i64 t.at_]) ∧ Kids w' anyH (.slice p' t.args.length c') t.args ∧ Below w.heap.size w w' :=
  (twinA_to (dep t) t p c w (Nat.le_refl _) hc hk).mono fun r w' ⟨p', n', c', h1, h2, h3⟩ => by
    rw [idN_eq] at h1 h2
    obtain ⟨q, d, hv, -⟩ := id h2
    simp only [Value.slice.injEq] at hv
    obtain ⟨rfl, rfl, rfl⟩ := hv
    exact ⟨p', c', h1, h2.weak (fun _ _ _ _ => trivial), h3⟩
theorem same_at (t : Nd) (p : Option Addr) (c : Nat) (p' : Option Addr) (c' : Nat) (w : World) (hc : cnt t ≤ 100000) (hk : Kids w anyH (.slice p t.args.length c) t.args) (hk' : Kids w anyH (.slice p' t.args.length c') t.args) :
    Calls Try.prog 11 #[.agg #[.int .i64 t.kind, .string t.name, .int .u32 t.num, .int .i64 t.int_, .string t.key, .slice p t.args.length c, .int .i64 t.at_], .agg #[.int .i64 t.kind, .string t.name, .int .u32 t.num, .int .i64 t.int_, .string t.key, .slice p' t.args.length c', .int .i64 t.at_]] w fun e w' => e = .returned (.bool true) ∧ Below w.heap.size w w' := sameA_to (dep t) t p c p' c' w (Nat.le_refl _) hc hk hk'
set_option maxRecDepth 100000 in
set_option maxHeartbeats 4000000 in
theorem walk_AliasAgain (t : Nd) (p : Option Addr) (c : Nat) (hok : ok1 t) (w : World) (hk : Kids w anyH (.slice p t.args.length c) t.args) :
    Calls Try.prog 3 #[nv t (.slice p t.args.length c)] w fun e w' => e = .returned (.bool true) ∧ Below w.heap.size w w' := by
  have HWK : Hid (∀ x : World, Calls Try.prog 8 #[] x fun e w' => e = .returned (.bool true) ∧ Below x.heap.size x w') := works_any
  have HGR : Hid (∀ x : World, Below w.heap.size w x → Calls Try.prog 7 #[nv t (.slice p t.args.length c)] x fun e w' => e = .returned (.bool (decide (9000 < cnt t))) ∧ Below x.heap.size x w') := fun x k => great_any t p c x (hk.below k)
  have HTW0 : Hid (cnt t ≤ 40000 → ∀ x : World, Below w.heap.size w x → Calls Try.prog 10 #[.agg #[.int .i64 t.kind, .string t.name, .int .u32 t.num, .int .i64 t.int_, .string t.key, .slice p t.args.length c, .int .i64 t.at_]] x fun r w' => ∃ p' c', r = .returned (.agg #[.int .i64 t.kind, .string t.name, .int .u32 t.num, .int .i64 t.int_, .string t.key, .slice p' t.args.length c', .int .i64 t.at_]) ∧ Kids w' anyH (.slice p' t.args.length c') t.args ∧ Below x.heap.size x w') := fun hc x k => twin_to t p c x hc (hk.below k)
  have HLT0 : Hid (cnt t ≤ 40000 → ∀ x : World, Below w.heap.size w x → Calls Try.prog 12 #[nv t (.slice p t.args.length c)] x fun e w' => e = .returned (.bool (leftP t)) ∧ Below x.heap.size x w') := fun hc x k => leftm_to (dep t) t p c x (Nat.le_refl _) hc (hk.below k)
  have HKD : Hid (Kids w anyH (.slice p t.args.length c) t.args) := hk
  obtain ⟨n, hnn⟩ : ∃ n, t.args.length = n := ⟨_, rfl⟩
  have HN : Hid (t.args.length = n) := hnn
  have HOK : Hid (ok1 t) := hok
  rw [hnn] at HGR HTW0 HLT0 HKD ⊢
  unfold nv at HGR HLT0 ⊢
  obtain ⟨W, hW⟩ : ∃ W, w.alloc (.cells #[.int .i64 t.kind, .string t.name, .int .u32 t.num, .int .i64 t.int_, .string t.key, .slice p n c, .int .i64 t.at_] 26) = W := ⟨_, rfl⟩
  have hbx : Below w.heap.size w W := by rw [← hW]; exact bel_alloc _ _
  have hxx : W.heap[w.heap.size]? = some (.cells #[.int .i64 t.kind, .string t.name, .int .u32 t.num, .int .i64 t.int_, .string t.key, .slice p n c, .int .i64 t.at_] 26) := by rw [← hW]; exact box_heapA _ _
  have HB0 := hidM hbx
  have HX0 := hidM hxx
  obtain ⟨⟨a0, a1, a2, a3, a4, a5, a6⟩, -⟩ := sevenA hxx
  clear hbx hxx hk hok hnn
  by_cases hgr : 9000 < cnt t
  · rw [show decide (9000 < cnt t) = true from decide_eq_true hgr] at HGR
    clear HTW0 HLT0 hgr
    go_enter Try.func3, Try.ntmps3
    go_wp2_with (first
      | (go_at_call 7; (with_reducible refine (HGR.out _ HB0.out).mono ?_); rintro e v1 ⟨rfl, hb1⟩; have HB1 := hidM (bel HB0.out hb1); clear hb1)
      | (go_at_call 8; (with_reducible refine (HWK.out _).mono ?_); rintro e v2 ⟨rfl, hb2⟩; have HB2 := hidM (bel HB1.out hb2); clear hb2))
    refine bodyPost_ret (by simp [results, Try.results3, go_sem]; try rfl) rfl ?_
    exact ⟨rfl, HB2.out⟩
  · rw [show decide (9000 < cnt t) = false from decide_eq_false hgr] at HGR
    have hc9 : cnt t ≤ 9000 := by omega
    have HTW := hidM (HTW0.out (by omega))
    have HLT := hidM (HLT0.out (by omega))
    clear HTW0 HLT0 hgr
    rcases exp_cases t with ⟨he, htr⟩ | ⟨hck, hoe, hfa, hcx, hex⟩
    · obtain ⟨EX, hEX⟩ : ∃ E, expP t = E := ⟨_, rfl⟩
      rw [hEX] at he htr
      obtain ⟨X, er, ea⟩ := EX
      simp only at he htr
      subst htr
      have e1 : (er == 0) = false := by simpa using he
      have HEX : Hid (∀ (p' : Option Addr) (c' : Nat) (x : World), Kids x anyH (.slice p' n c') t.args → Calls Try.prog 9 #[.agg #[.int .i64 t.kind, .string t.name, .int .u32 t.num, .int .i64 t.int_, .string t.key, .slice p' n c', .int .i64 t.at_]] x fun r w' => ∃ p' c', r = .returned (.tuple #[.agg #[.int .i64 0, .string ⟨#[]⟩, .int .u32 0, .int .i64 0, .string ⟨#[]⟩, .slice p' 0 c', .int .i64 0], .int .i64 er, .int .i64 ea]) ∧ Kids w' anyH (.slice p' 0 c') [] ∧ Below x.heap.size x w') := fun p' c' x hx => by
        have := expand_to t p' c' x (by omega) HOK.out (by rw [HN.out]; exact hx) hEX
        rw [HN.out] at this
        exact this
      have HSM : Hid (∀ (p' : Option Addr) (c' : Nat) (x : World), Kids x anyH (.slice p' 0 c') [] → Calls Try.prog 11 #[.agg #[.int .i64 0, .string ⟨#[]⟩, .int .u32 0, .int .i64 0, .string ⟨#[]⟩, .slice p' 0 c', .int .i64 0], .agg #[.int .i64 0, .string ⟨#[]⟩, .int .u32 0, .int .i64 0, .string ⟨#[]⟩, .slice none 0 0, .int .i64 0]] x fun e w' => e = .returned (.bool true) ∧ Below x.heap.size x w') := fun p' c' x hx => same_at noneN p' c' none 0 x (by rw [show cnt noneN = 1 from cnt_leaf]; decide) hx ⟨none, 0, rfl, trivial, .inl rfl⟩
      clear hEX he hc9 HLT
      go_enter Try.func3, Try.ntmps3
      go_upto_region 4 with (first
        | (go_at_call 7; (with_reducible refine (HGR.out _ HB0.out).mono ?_); rintro e v1 ⟨rfl, hb1⟩; have HB1 := hidM (bel HB0.out hb1); obtain ⟨⟨b0, b1, b2, b3, b4, b5, b6⟩, -⟩ := sevenA ((hb1.block _ (hlt HX0.out)).trans HX0.out); clear hb1)
        | (go_at_call 10; (with_reducible refine (HTW.out _ HB1.out).mono ?_); rintro e v2 ⟨p2, c2, rfl, hk2, hb2⟩; have HK2 := hidM hk2; have HB2 := hidM (bel HB1.out hb2); clear hk2 hb2)
        | (go_at_call 9; (with_reducible refine (HEX.out _ _ _ HK2.out).mono ?_); rintro e v3 ⟨p3, c3, rfl, hk3, hb3⟩; have HK3 := hidM hk3; have HB3 := hidM (bel HB2.out hb3); clear hk3 hb3; obtain ⟨W4, hW4, hX4, hB4, -⟩ := new_box v3; obtain ⟨⟨q0, q1, q2, q3, q4, q5, q6⟩, r0, r1, r2, r3, r4, r5, r6⟩ := sevenA hX4; have HXB4 := hidM hX4; have HBB4 := hidM hB4; clear hX4 hB4))
      have hx4 := put_sevenA HXB4.out (.int .i64 0) (.string ⟨#[]⟩) (.int .u32 0) (.int .i64 0) (.string ⟨#[]⟩) (.slice p3 0 c3) (.int .i64 0)
      have hb4 := below_seven HBB4.out (.int .i64 0) (.string ⟨#[]⟩) (.int .u32 0) (.int .i64 0) (.string ⟨#[]⟩) (.slice p3 0 c3) (.int .i64 0)
      obtain ⟨U4, hU4⟩ : ∃ UU, (((((((W4.setCell ⟨v3.heap.size, 0, none⟩ (.int .i64 0)).setCell ⟨v3.heap.size, 1, none⟩ (.string ⟨#[]⟩)).setCell ⟨v3.heap.size, 2, none⟩ (.int .u32 0)).setCell ⟨v3.heap.size, 3, none⟩ (.int .i64 0)).setCell ⟨v3.heap.size, 4, none⟩ (.string ⟨#[]⟩)).setCell ⟨v3.heap.size, 5, none⟩ (.slice p3 0 c3)).setCell ⟨v3.heap.size, 6, none⟩ (.int .i64 0)) = UU := ⟨_, rfl⟩
      rw [hU4] at hx4 hb4 ⊢
      have HK4 := hidM (HK3.out.below hb4)
      have HB4 := hidM (bel HB3.out hb4)
      clear q0 q1 q2 q3 q4 q5 q6 r0 r1 r2 r3 r4 r5 r6 hU4 hW4 hb4 a0 a1 a2 a3 a4 a5 a6 b0 b1 b2 b3 b4 b5 b6
      obtain ⟨⟨b0, b1, b2, b3, b4, b5, b6⟩, -⟩ := sevenA hx4
      clear hx4
      go_wp2_with (first
        | (go_at_call 11; (with_reducible refine (HSM.out _ _ _ HK4.out).mono ?_); rintro e v5 ⟨rfl, hb5⟩; have HB5 := hidM (bel HB4.out hb5); clear hb5)
        | (go_at_call 8; (with_reducible refine (HWK.out _).mono ?_); rintro e v6 ⟨rfl, hb6⟩; have HB6 := hidM (bel HB5.out hb6); clear hb6))
      refine bodyPost_ret (by simp [results, Try.results3, go_sem]; try rfl) rfl ?_
      exact ⟨rfl, HB6.out⟩
    · have hlx := whole_left hck
      have hokX := whole_ok (written_ok HOK.out)
      obtain ⟨hdX, hcX, -⟩ := check_facts hcx
      have hex2 := free_exp hlx hcx
      have hsame : leftP t = true ∨ wholeN (writtenA t) = t := by
        cases hl : leftP t
        · obtain ⟨-, h1, -, h3⟩ := free_facts hl
          rw [h1, h3]; exact .inr rfl
        · exact .inl rfl
      obtain ⟨X, hX⟩ : ∃ X, wholeN (writtenA t) = X := ⟨_, rfl⟩
      rw [hX] at hlx hokX hdX hcX hex2 hsame hex hcx
      have HEX : Hid (∀ (p' : Option Addr) (c' : Nat) (x : World), Kids x anyH (.slice p' n c') t.args → Calls Try.prog 9 #[.agg #[.int .i64 t.kind, .string t.name, .int .u32 t.num, .int .i64 t.int_, .string t.key, .slice p' n c', .int .i64 t.at_]] x fun r w' => ∃ p' c', r = .returned (.tuple #[.agg #[.int .i64 X.kind, .string X.name, .int .u32 X.num, .int .i64 X.int_, .string X.key, .slice p' X.args.length c', .int .i64 X.at_], .int .i64 0, .int .i64 0]) ∧ Kids w' anyH (.slice p' X.args.length c') X.args ∧ Below x.heap.size x w') := fun p' c' x hx => by
        have := expand_to t p' c' x (by omega) HOK.out (by rw [HN.out]; exact hx) hex
        rw [HN.out] at this
        exact this
      have HTX : Hid (∀ (p' : Option Addr) (c' : Nat) (x : World), Kids x anyH (.slice p' X.args.length c') X.args → Calls Try.prog 10 #[.agg #[.int .i64 X.kind, .string X.name, .int .u32 X.num, .int .i64 X.int_, .string X.key, .slice p' X.args.length c', .int .i64 X.at_]] x fun r w' => ∃ p2 c2, r = .returned (.agg #[.int .i64 X.kind, .string X.name, .int .u32 X.num, .int .i64 X.int_, .string X.key, .slice p2 X.args.length c2, .int .i64 X.at_]) ∧ Kids w' anyH (.slice p2 X.args.length c2) X.args ∧ Below x.heap.size x w') := fun p' c' x hx => twin_to X p' c' x (by omega) hx
      have HEX2 : Hid (∀ (p' : Option Addr) (c' : Nat) (x : World), Kids x anyH (.slice p' X.args.length c') X.args → Calls Try.prog 9 #[.agg #[.int .i64 X.kind, .string X.name, .int .u32 X.num, .int .i64 X.int_, .string X.key, .slice p' X.args.length c', .int .i64 X.at_]] x fun r w' => ∃ p2 c2, r = .returned (.tuple #[.agg #[.int .i64 X.kind, .string X.name, .int .u32 X.num, .int .i64 X.int_, .string X.key, .slice p2 X.args.length c2, .int .i64 X.at_], .int .i64 0, .int .i64 0]) ∧ Kids w' anyH (.slice p2 X.args.length c2) X.args ∧ Below x.heap.size x w') := fun p' c' x hx => expand_to X p' c' x (by omega) hokX hx hex2
      have HLX : Hid (∀ (p' : Option Addr) (c' : Nat) (x : World), Kids x anyH (.slice p' X.args.length c') X.args → Calls Try.prog 12 #[.agg #[.int .i64 X.kind, .string X.name, .int .u32 X.num, .int .i64 X.int_, .string X.key, .slice p' X.args.length c', .int .i64 X.at_]] x fun e w' => e = .returned (.bool false) ∧ Below x.heap.size x w') := fun p' c' x hx => by
        have := leftm_to (dep X) X p' c' x (Nat.le_refl _) (by omega) hx
        rw [hlx] at this
        exact this
      have HCX : Hid (∀ (p' : Option Addr) (c' : Nat) (x : World), Kids x anyH (.slice p' X.args.length c') X.args → Calls Try.prog 13 #[.agg #[.int .i64 X.kind, .string X.name, .int .u32 X.num, .int .i64 X.int_, .string X.key, .slice p' X.args.length c', .int .i64 X.at_]] x fun e w' => e = .returned (.int .i64 0) ∧ Below x.heap.size x w') := fun p' c' x hx => by
        have := rcheck_any X p' c' x (by omega) hokX hx
        rw [hcx] at this
        exact this
      have HSM : Hid (∀ (p' : Option Addr) (c' : Nat) (p2 : Option Addr) (c2 : Nat) (x : World), Kids x anyH (.slice p' X.args.length c') X.args → Kids x anyH (.slice p2 X.args.length c2) X.args → Calls Try.prog 11 #[.agg #[.int .i64 X.kind, .string X.name, .int .u32 X.num, .int .i64 X.int_, .string X.key, .slice p' X.args.length c', .int .i64 X.at_], .agg #[.int .i64 X.kind, .string X.name, .int .u32 X.num, .int .i64 X.int_, .string X.key, .slice p2 X.args.length c2, .int .i64 X.at_]] x fun e w' => e = .returned (.bool true) ∧ Below x.heap.size x w') := fun p' c' p2 c2 x hx hx2 => same_at X p' c' p2 c2 x (by omega) hx hx2
      obtain ⟨m, hm⟩ : ∃ m, X.args.length = m := ⟨_, rfl⟩
      have HM : Hid (X.args.length = m) := hm
      rw [hm] at HEX HTX HEX2 HLX HCX HSM
      have HSE : Hid (leftP t = true ∨ X = t) := hsame
      clear hck hoe hfa hcx hex hlx hokX hdX hcX hex2 hsame hX hc9 hm
      go_enter Try.func3, Try.ntmps3
      go_upto_region 4 with (first
        | (go_at_call 7; (with_reducible refine (HGR.out _ HB0.out).mono ?_); rintro e v1 ⟨rfl, hb1⟩; have HB1 := hidM (bel HB0.out hb1); obtain ⟨⟨b0, b1, b2, b3, b4, b5, b6⟩, -⟩ := sevenA ((hb1.block _ (hlt HX0.out)).trans HX0.out); have HX1 := hidM ((hb1.block _ (hlt HX0.out)).trans HX0.out); clear hb1)
        | (go_at_call 10; (with_reducible refine (HTW.out _ HB1.out).mono ?_); rintro e v2 ⟨p2, c2, rfl, hk2, hb2⟩; have HK2 := hidM hk2; have HB2 := hidM (bel HB1.out hb2); have HX2 := hidM ((hb2.block _ (hlt HX1.out)).trans HX1.out); clear hk2 hb2)
        | (go_at_call 9; (with_reducible refine (HEX.out _ _ _ HK2.out).mono ?_); rintro e v3 ⟨p3, c3, rfl, hk3, hb3⟩; have HK3 := hidM hk3; have HB3 := hidM (bel HB2.out hb3); have HX3 := hidM ((hb3.block _ (hlt HX2.out)).trans HX2.out); clear hk3 hb3; obtain ⟨W4, hW4, hX4, hB4, -⟩ := new_box v3; obtain ⟨⟨q0, q1, q2, q3, q4, q5, q6⟩, r0, r1, r2, r3, r4, r5, r6⟩ := sevenA hX4; have HXB4 := hidM hX4; have HBB4 := hidM hB4; clear hX4 hB4))
      have hx4 := put_sevenA HXB4.out (.int .i64 X.kind) (.string X.name) (.int .u32 X.num) (.int .i64 X.int_) (.string X.key) (.slice p3 m c3) (.int .i64 X.at_)
      have hb4 := below_seven HBB4.out (.int .i64 X.kind) (.string X.name) (.int .u32 X.num) (.int .i64 X.int_) (.string X.key) (.slice p3 m c3) (.int .i64 X.at_)
      obtain ⟨U4, hU4⟩ : ∃ UU, (((((((W4.setCell ⟨v3.heap.size, 0, none⟩ (.int .i64 X.kind)).setCell ⟨v3.heap.size, 1, none⟩ (.string X.name)).setCell ⟨v3.heap.size, 2, none⟩ (.int .u32 X.num)).setCell ⟨v3.heap.size, 3, none⟩ (.int .i64 X.int_)).setCell ⟨v3.heap.size, 4, none⟩ (.string X.key)).setCell ⟨v3.heap.size, 5, none⟩ (.slice p3 m c3)).setCell ⟨v3.heap.size, 6, none⟩ (.int .i64 X.at_)) = UU := ⟨_, rfl⟩
      rw [hU4] at hx4 hb4 ⊢
      have HK4 := hidM (HK3.out.below hb4)
      have HB4 := hidM (bel HB3.out hb4)
      have HX4 := hidM ((hb4.block _ (hlt HX3.out)).trans HX3.out)
      obtain ⟨O4, hO4⟩ : ∃ O, v3.heap.size = O := ⟨_, rfl⟩
      rw [hO4] at hx4 ⊢
      have HA4 := hidM hx4
      clear q0 q1 q2 q3 q4 q5 q6 r0 r1 r2 r3 r4 r5 r6 hU4 hW4 hb4 a0 a1 a2 a3 a4 a5 a6 b0 b1 b2 b3 b4 b5 b6 HEX HTW HGR HK2 HK3 HXB4 HBB4 hO4
      obtain ⟨⟨b0, b1, b2, b3, b4, b5, b6⟩, -⟩ := sevenA hx4
      clear hx4
      go_upto_region 7 with (first
        | (go_at_call 10; (with_reducible refine (HTX.out _ _ _ HK4.out).mono ?_); rintro e v5 ⟨p5, c5, rfl, hk5, hb5⟩; have HK5 := hidM hk5; have HB5 := hidM hb5; clear hk5 hb5)
        | (go_at_call 9; (with_reducible refine (HEX2.out _ _ _ HK5.out).mono ?_); rintro e v6 ⟨p6, c6, rfl, hk6, hb6⟩; have HK6 := hidM hk6; have HB6 := hidM (bel HB5.out hb6); clear hk6 hb6; obtain ⟨W7, hW7, hX7, hB7, -⟩ := new_box v6; obtain ⟨⟨q0, q1, q2, q3, q4, q5, q6⟩, r0, r1, r2, r3, r4, r5, r6⟩ := sevenA hX7; have HXB7 := hidM hX7; have HBB7 := hidM hB7; clear hX7 hB7))
      have hx7 := put_sevenA HXB7.out (.int .i64 X.kind) (.string X.name) (.int .u32 X.num) (.int .i64 X.int_) (.string X.key) (.slice p6 m c6) (.int .i64 X.at_)
      have hb7 := below_seven HBB7.out (.int .i64 X.kind) (.string X.name) (.int .u32 X.num) (.int .i64 X.int_) (.string X.key) (.slice p6 m c6) (.int .i64 X.at_)
      obtain ⟨U7, hU7⟩ : ∃ UU, (((((((W7.setCell ⟨v6.heap.size, 0, none⟩ (.int .i64 X.kind)).setCell ⟨v6.heap.size, 1, none⟩ (.string X.name)).setCell ⟨v6.heap.size, 2, none⟩ (.int .u32 X.num)).setCell ⟨v6.heap.size, 3, none⟩ (.int .i64 X.int_)).setCell ⟨v6.heap.size, 4, none⟩ (.string X.key)).setCell ⟨v6.heap.size, 5, none⟩ (.slice p6 m c6)).setCell ⟨v6.heap.size, 6, none⟩ (.int .i64 X.at_)) = UU := ⟨_, rfl⟩
      rw [hU7] at hx7 hb7 ⊢
      have h47 := bel HB6.out hb7
      have HK7 := hidM (HK6.out.below hb7)
      have HK7a := hidM (HK4.out.below h47)
      have HB7 := hidM (bel HB4.out h47)
      have HX7 := hidM ((h47.block _ (hlt HX4.out)).trans HX4.out)
      have HA7 := hidM ((h47.block _ (hlt HA4.out)).trans HA4.out)
      obtain ⟨O7, hO7⟩ : ∃ O, v6.heap.size = O := ⟨_, rfl⟩
      rw [hO7] at hx7 ⊢
      have HC7 := hidM hx7
      clear q0 q1 q2 q3 q4 q5 q6 r0 r1 r2 r3 r4 r5 r6 hU7 hW7 hb7 b0 b1 b2 b3 b4 b5 b6 HEX2 HTX HK4 HK5 HK6 HXB7 HBB7 hO7 h47
      obtain ⟨⟨b0, b1, b2, b3, b4, b5, b6⟩, -⟩ := sevenA HA7.out
      clear hx7
      go_upto_region 9 with (first
        | (go_at_call 12; (with_reducible refine (HLX.out _ _ _ HK7a.out).mono ?_); rintro e v8 ⟨rfl, hb8⟩; have HB8 : Hid (Below U7.heap.size U7 v8) := hb8; have HK8a := hidM (HK7a.out.below hb8); obtain ⟨⟨d0, d1, d2, d3, d4, d5, d6⟩, -⟩ := sevenA ((hb8.block _ (hlt HA7.out)).trans HA7.out); clear hb8)
        | (go_at_call 13; (with_reducible refine (HCX.out _ _ _ HK8a.out).mono ?_); rintro e v9 ⟨rfl, hb9⟩; have hb9' := bel HB8.out hb9; have HB9 : Hid (Below U7.heap.size U7 v9) := hb9'; have HK9a := hidM (HK7a.out.below hb9'); have HK9 := hidM (HK7.out.below hb9'); obtain ⟨⟨f0, f1, f2, f3, f4, f5, f6⟩, -⟩ := sevenA ((hb9'.block _ (hlt HA7.out)).trans HA7.out); obtain ⟨⟨g0, g1, g2, g3, g4, g5, g6⟩, -⟩ := sevenA ((hb9'.block _ (hlt HC7.out)).trans HC7.out); clear hb9 hb9')
        | (go_at_call 11; (with_reducible refine (HSM.out _ _ _ _ _ HK9a.out HK9.out).mono ?_); rintro e v10 ⟨rfl, hb10⟩; have hb10' := bel HB9.out hb10; have HB10 : Hid (Below U7.heap.size U7 v10) := hb10'; obtain ⟨⟨m0, m1, m2, m3, m4, m5, m6⟩, -⟩ := sevenA ((hb10'.block _ (hlt HX7.out)).trans HX7.out); have HX10 := hidM ((hb10'.block _ (hlt HX7.out)).trans HX7.out); have HA10 := hidM ((hb10'.block _ (hlt HA7.out)).trans HA7.out); have HK10 := hidM (HK7a.out.below hb10'); clear hb10 hb10'))
      have HBW : Hid (Below w.heap.size w v10) := bel HB7.out HB10.out
      clear b0 b1 b2 b3 b4 b5 b6 d0 d1 d2 d3 d4 d5 d6 f0 f1 f2 f3 f4 f5 f6 g0 g1 g2 g3 g4 g5 g6 HLX HCX HK7 HK7a HK8a HK9a HK9 HB8 HB9
      cases hlf : leftP t
      · rw [hlf] at HLT
        have hXt : X = t := by
          rcases HSE.out with h | h
          · rw [hlf] at h; cases h
          · exact h
        subst hXt
        have hmn : m = n := HM.out.symm.trans HN.out
        subst hmn
        clear HSE hlf
        go_wp2_with (first
          | (go_at_call 12; (with_reducible refine (HLT.out _ HBW.out).mono ?_); rintro e v11 ⟨rfl, hb11⟩; have HB11 : Hid (Below w.heap.size w v11) := bel HBW.out hb11; have HK11 := hidM (HK10.out.below hb11); have HK11n := hidM (HKD.out.below (bel HBW.out hb11)); obtain ⟨⟨d0, d1, d2, d3, d4, d5, d6⟩, -⟩ := sevenA ((hb11.block _ (hlt HX10.out)).trans HX10.out); obtain ⟨⟨f0, f1, f2, f3, f4, f5, f6⟩, -⟩ := sevenA ((hb11.block _ (hlt HA10.out)).trans HA10.out); clear hb11)
          | (go_at_call 11; (with_reducible refine (HSM.out _ _ _ _ _ HK11.out HK11n.out).mono ?_); rintro e v12 ⟨rfl, hb12⟩; have HB12 : Hid (Below w.heap.size w v12) := bel HB11.out hb12; clear hb12)
          | (go_at_call 8; (with_reducible refine (HWK.out _).mono ?_); rintro e v13 ⟨rfl, hb13⟩; have HB13 := hidM (bel HB12.out hb13); clear hb13))
        refine bodyPost_ret (by simp [results, Try.results3, go_sem]; try rfl) rfl ?_
        exact ⟨rfl, HB13.out⟩
      · rw [hlf] at HLT
        clear HSE hlf
        go_wp2_with (first
          | (go_at_call 12; (with_reducible refine (HLT.out _ HBW.out).mono ?_); rintro e v11 ⟨rfl, hb11⟩; have HB11 : Hid (Below w.heap.size w v11) := bel HBW.out hb11; clear hb11)
          | (go_at_call 8; (with_reducible refine (HWK.out _).mono ?_); rintro e v13 ⟨rfl, hb13⟩; have HB13 := hidM (bel HB11.out hb13); clear hb13))
        refine bodyPost_ret (by simp [results, Try.results3, go_sem]; try rfl) rfl ?_
        exact ⟨rfl, HB13.out⟩

end Go.Proofs.Ytbmkddmmclndcaa
/- An argument opened: a tree. -/
namespace Go.Proofs.Ytbmkddmmclndcaa
open Go.ChangeShapes Go.WideShapes Go.ChangeAt Go.RowKit
set_option linter.unusedVariables false
set_option maxRecDepth 100000

theorem cells_Node : Try.prog.cellsOf 26 = 7 := by kernel_rfl

theorem weights_mem_all {H : Type} {P : Program} {e : TypeId} : ∀ {l : List (DataW H)} {d : DataW H}, d ∈ l → ∀ n ∈ d.weights P e, n ∈ DataW.weightsAll P e l
  | [], d, h, n, hn => by cases h
  | x :: r, d, h, n, hn => by
    simp only [DataW.weightsAll, List.mem_append]
    rcases List.mem_cons.1 h with rfl | h
    · exact .inl hn
    · exact .inr (weights_mem_all h n hn)

section
variable {H : Type} {enc : TypeId × Value → H} {w : World} {base : Nat} {held : Bool}

theorem open_Node : ∀ (fuel : Nat) (cs : List Value) (x : DataW H × List MemPlace), DataW.trod enc Try.prog w base (fun _ => true) held fuel 26 cs = some x → (∀ n ∈ x.1.weights Try.prog 26, n ≤ reachBytes) →
    ∃ (t : Nd) (p : Option Addr) (c : Nat), cs = [.int .i64 t.kind, .string t.name, .int .u32 t.num, .int .i64 t.int_, .string t.key, .slice p t.args.length c, .int .i64 t.at_] ∧ Kids w anyH (.slice p t.args.length c) t.args ∧ ok1 t := by
  intro fuel
  induction fuel using Nat.strongRecOn with
  | _ fuel ih =>
    intro cs x h hw
    obtain ⟨xs, n, hfn, hx, hl, hxl, hf⟩ := DataW.trod_struct Try.underlying26 h
    rw [cells_Node] at hl
    match cs, hl with
    | [v0, v1, v2, v3, v4, v5, v6], _ =>
    match xs, hxl with
    | [y0, y1, y2, y3, y4, y5, y6], _ =>
      have e0 : DataW.trod enc Try.prog w base (fun _ => true) held n 3 [v0] = some y0 := hf 0 _ rfl
      have e1 : DataW.trod enc Try.prog w base (fun _ => true) held n 9 [v1] = some y1 := hf 1 _ rfl
      have e2 : DataW.trod enc Try.prog w base (fun _ => true) held n 23 [v2] = some y2 := hf 2 _ rfl
      have e3 : DataW.trod enc Try.prog w base (fun _ => true) held n 3 [v3] = some y3 := hf 3 _ rfl
      have e4 : DataW.trod enc Try.prog w base (fun _ => true) held n 9 [v4] = some y4 := hf 4 _ rfl
      have e5 : DataW.trod enc Try.prog w base (fun _ => true) held n 24 [v5] = some y5 := hf 5 _ rfl
      have e6 : DataW.trod enc Try.prog w base (fun _ => true) held n 3 [v6] = some y6 := hf 6 _ rfl
      obtain ⟨a0, c0, hd0, w0⟩ := DataW.trod_int Try.underlying3 e0
      obtain ⟨a1, c1, hd1, w1⟩ := DataW.trod_string Try.underlying9 e1
      obtain ⟨a2, c2, hd2, w2⟩ := DataW.trod_int Try.underlying23 e2
      obtain ⟨a3, c3, hd3, w3⟩ := DataW.trod_int Try.underlying3 e3
      obtain ⟨a4, c4, hd4, w4⟩ := DataW.trod_string Try.underlying9 e4
      obtain ⟨a6, c6, hd6, w6⟩ := DataW.trod_int Try.underlying3 e6
      simp only [List.cons.injEq, and_true] at c0 c1 c2 c3 c4 c6
      subst c0 c1 c2 c3 c4 c6
      subst hx
      have hws : ∀ (j : Nat) (t : TypeId) (d : DataW H), [3, 9, 23, 3, 9, 24, 3][j]? = some t → [y0.1, y1.1, y2.1, y3.1, y4.1, y5.1, y6.1][j]? = some d → ∀ n ∈ d.weights Try.prog t, n ≤ reachBytes := fun j t d ht hd n hn => by
        refine hw n ?_
        show n ∈ DataW.weights Try.prog 26 (.agg [y0.1, y1.1, y2.1, y3.1, y4.1, y5.1, y6.1])
        rw [DataW.weights, Try.underlying26]
        exact DataW.weights_mem_each (ts := [3, 9, 23, 3, 9, 24, 3]) ht hd n hn
      have s1 : a1.size ≤ 140737488351232 := by
        have := hws 1 _ _ rfl rfl a1.data.toList.length (by rw [hd1]; simp [DataW.weights])
        simpa [reachBytes] using this
      have s4 : a4.size ≤ 140737488351232 := by
        have := hws 4 _ _ rfl rfl a4.data.toList.length (by rw [hd4]; simp [DataW.weights])
        simpa [reachBytes] using this
      have b2 := bounds_u32 w2
      rcases DataW.trod_slice Try.underlying24 e5 with ⟨hcs, hx5⟩ | ⟨a, len, cap, elems, rest, m, hm, hcs, hx5, _, hl5, _, hel, hread, _, _⟩
      · simp only [List.cons.injEq, and_true] at hcs
        subst hcs
        exact ⟨⟨a0, a1, a2, a3, a4, [], a6⟩, none, 0, rfl, ⟨none, 0, rfl, trivial, .inl rfl⟩, ⟨s1, s4, b2.1, Int.lt_of_le_of_lt b2.2 (by decide)⟩, okL_nil⟩
      · simp only [List.cons.injEq, and_true] at hcs
        subst hcs
        have key : ∀ i, i < len → ∃ q : Nd × Option Addr × Nat, (∀ k, k < 7 → w.cell? (a.add (i * 7 + k)) = [Value.int .i64 q.1.kind, .string q.1.name, .int .u32 q.1.num, .int .i64 q.1.int_, .string q.1.key, .slice q.2.1 q.1.args.length q.2.2, .int .i64 q.1.at_][k]?) ∧ Kids w anyH (.slice q.2.1 q.1.args.length q.2.2) q.1.args ∧ ok1 q.1 := by
          intro i hi
          have h1 := hread i hi
          rw [cells_Node] at h1
          have hie : i < elems.length := by omega
          rw [List.getElem?_eq_getElem hie] at h1
          obtain ⟨cs', h2, h3⟩ := Option.bind_eq_some_iff.1 h1
          obtain ⟨_, hlen7, hcell⟩ := World.cells?_some h2
          obtain ⟨t, p, c, hcs, hk, hok⟩ := ih m (by omega) cs' _ h3 (fun k hk => hws 5 _ _ rfl rfl k (by
            rw [hx5, DataW.weights, Try.underlying24]
            exact List.mem_cons_of_mem _ (List.mem_append_left _ (weights_mem_all (List.mem_map.2 ⟨elems[i], List.getElem_mem hie, rfl⟩) k hk))))
          refine ⟨(t, p, c), fun k hk7 => ?_, hk, hok⟩
          have := hcell k hk7
          rw [Go.Deep.add_add, hcs] at this
          exact this
        have : Inhabited (Nd × Option Addr × Nat) := ⟨(⟨0, ⟨#[]⟩, 0, 0, ⟨#[]⟩, [], 0⟩, none, 0)⟩
        obtain ⟨f, hf⟩ := Go.Deep.choose_lt key
        have hTl : ((List.range len).map fun i => (f i).1).length = len := by simp
        refine ⟨⟨a0, a1, a2, a3, a4, (List.range len).map fun i => (f i).1, a6⟩, some a, cap, by simp, ?_, ⟨s1, s4, b2.1, Int.lt_of_le_of_lt b2.2 (by decide)⟩, ?_⟩
        · refine ⟨some a, cap, rfl, trivial, ?_⟩
          by_cases hl0 : len = 0
          · left; simp [hl0]
          · obtain ⟨b, off, spot⟩ := a
            have hspot : spot = none := by simpa [Addr.add] using World.cell?_spot ((hf 0 (by omega)).1 0 (by decide))
            subst hspot
            refine .inr ⟨b, off, rfl, KA_of fun i hi => ?_⟩
            have hi' : i < len := by rw [hTl] at hi; exact hi
            obtain ⟨g, hk, -⟩ := hf i hi'
            have e : ((List.range len).map fun i => (f i).1)[i] = (f i).1 := by simp
            simp only [add_plain] at g
            rw [e]
            have g' : ∀ k, k < 7 → w.cell? ⟨b, off + i * 7 + k, none⟩ = [Value.int .i64 (f i).1.kind, .string (f i).1.name, .int .u32 (f i).1.num, .int .i64 (f i).1.int_, .string (f i).1.key, .slice (f i).2.1 (f i).1.args.length (f i).2.2, .int .i64 (f i).1.at_][k]? := fun k hk => by rw [Nat.add_assoc]; exact g k hk
            exact ⟨g' 0 (by decide), g' 1 (by decide), g' 2 (by decide), g' 3 (by decide), g' 4 (by decide), g' 6 (by decide), _, g' 5 (by decide), hk⟩
        · have okAll : ∀ l : List Nd, (∀ t ∈ l, ok1 t) → okL l := by
            intro l
            induction l with
            | nil => intro _; exact okL_nil
            | cons t r ih => intro h; exact (okL_cons t r).2 ⟨h t (by simp), ih fun u hu => h u (by simp [hu])⟩
          refine okAll _ fun t ht => ?_
          obtain ⟨i, hi, rfl⟩ := List.mem_map.1 ht
          exact (hf i (List.mem_range.1 hi)).2.2

theorem open_Tree {r : Reach} {b0 : Nat} {v : Value} {d : DataW H} {pl : List MemPlace} (hv : Value.okWide Try.prog w r b0 26 v) (h : DataW.Trod enc Try.prog w base (fun _ => true) held 26 v d pl) (hw : ∀ n ∈ d.weights Try.prog 26, n ≤ reachBytes) :
    ∃ (t : Nd) (p : Option Addr) (c : Nat), v = nv t (.slice p t.args.length c) ∧ Kids w anyH (.slice p t.args.length c) t.args ∧ ok1 t := by
  obtain ⟨cs, rfl, hsz⟩ := okWide_struct Try.underlying26 hv
  obtain ⟨fuel, hf⟩ := h
  obtain ⟨t, p, c, hcs, hk, hok⟩ := open_Node fuel _ _ hf hw
  refine ⟨t, p, c, ?_, hk, hok⟩
  simp only [Value.cells] at hcs
  unfold nv
  rw [Value.agg.injEq]
  apply Array.toList_inj.1
  exact hcs
end

end Go.Proofs.Ytbmkddmmclndcaa
