import Derived.Test.YtpidjmgifglmiaaTreeRef
import Derived.Test.YtpidjmgifglmiaaTreeCheck
/- The reference's Check. -/
namespace Go.Proofs.Ytpidjmgifglmiaa
open Go.RowKit
set_option linter.unusedVariables false
set_option linter.unusedSimpArgs false

set_option maxHeartbeats 400000 in
theorem rfin_any (a : Int) (h0 : 0 ≤ a) (h1 : a < 4294967296) (w : World) :
    Calls Try.prog 55 #[.int .i64 a] w fun e w' => e = .returned (.bool (finP a)) ∧ w' = w := by
  unfold finP
  have e : a.tmod 2147483648 = a % 2147483648 := Int.tmod_eq_emod_of_nonneg h0
  go_enter Try.func55, Try.ntmps55
  go_wp2
  go_ret
  refine ⟨ret_bool ?_, rfl⟩
  simp_all

/-- What a let asks. -/
def letP (t : Nd) : Bool := nameP t.name && !(t.name.toList == [116, 114, 117, 101]) && !(t.name.toList == [102, 97, 108, 115, 101]) && novP t && bindsP t.args

set_option maxRecDepth 100000 in
set_option maxHeartbeats 4000000 in
theorem rlet_any (t : Nd) (p : Option Addr) (c : Nat) (w : World) (hc : cnt t ≤ 9000) (hok : ok1 t) (hk : Kids w anyH (.slice p t.args.length c) t.args) :
    Calls Try.prog 56 #[nv t (.slice p t.args.length c)] w fun e w' => e = .returned (.bool (letP t)) ∧ Below w.heap.size w w' := by
  obtain ⟨⟨s1, s2, x0, x1⟩, -⟩ := hok
  have hlen : t.args.length ≤ 9000 := by have := cntL_len t.args; unfold cnt at hc; omega
  obtain ⟨k, nm, x, i, y, l, a⟩ := t
  unfold nv letP novP
  simp only at *
  obtain ⟨np, hnp⟩ : ∃ np, nameP nm = np := ⟨_, rfl⟩
  have K1 := rName_any nm s1
  rw [hnp] at K1 ⊢
  have H1 : Hid (∀ w, Calls Try.prog 54 #[.string nm] w fun e w' => e = .returned (.bool np) ∧ w' = w) := K1
  clear hnp K1 hc
  have hbx := bel_alloc w (.cells #[.int .i64 k, .string nm, .int .u32 x, .int .i64 i, .string y, .slice p l.length c, .int .i64 a] 26)
  by_cases h2 : l.length = 2
  · obtain ⟨p', c', hv, -, hk⟩ := hk
    match l, h2, hk with
    | [v, r], _, hk0 =>
      rcases hk0 with hka | ⟨b, o, hp, hka⟩
      · cases hka
      simp only [Value.slice.injEq] at hv
      obtain ⟨rfl, -, -⟩ := hv
      subst hp
      have hk1 := KA_cons.1 hka
      have hk2 := KA_cons.1 hk1.2
      obtain ⟨v0, -, -, -, v4, -, -⟩ := hk1.1
      obtain ⟨r0, -, -, -, r4, -, -⟩ := hk2.1
      clear hka hk1 hk2
      obtain ⟨vk, vn, vx, vi, vy, vl, va⟩ := v
      obtain ⟨rk, rn, rx, ri, ry, rl, ra⟩ := r
      show Calls Try.prog 56 #[.agg #[.int .i64 k, .string nm, .int .u32 x, .int .i64 i, .string y, .slice (some ⟨b, o, none⟩) 2 c, .int .i64 a]] w fun e w' => e = .returned (.bool (np && !(nm.toList == [116, 114, 117, 101]) && !(nm.toList == [102, 97, 108, 115, 101]) && (x == 0 && i == 0) && (vk != 6 && (rk == 6 || rk == 1) && vy.toList.isEmpty && ry.toList.isEmpty))) ∧ Below w.heap.size w w'
      simp only at v0 v4 r0 r4
      have lb := mcell_lt v0
      go_enter Try.func56, Try.ntmps56
      go_wp2_with (go_at_call 54; refine (H1.out _).mono ?_; rintro e w1 ⟨rfl, rfl⟩)
      all_goals (go_ret; refine ⟨ret_bool ?_, bel_alloc _ _⟩; simp_all)
  · have e : bindsP l = false := by
      unfold bindsP
      split
      · simp at h2
      · rfl
    rw [e, Bool.and_false]
    obtain ⟨n, hn⟩ : ∃ n, l.length = n := ⟨_, rfl⟩
    rw [hn] at hlen h2 ⊢
    have z : ¬ ((n : Int) = 2) := by omega
    clear hk e hn
    go_enter Try.func56, Try.ntmps56
    go_wp2_with (go_at_call 54; refine (H1.out _).mono ?_; rintro e w1 ⟨rfl, rfl⟩)
    all_goals (go_ret; exact ⟨rfl, bel_alloc _ _⟩)

theorem kindP_let {t : Nd} (h : t.kind = 6) : kindP t = letP t := by
  unfold kindP letP
  rw [h]
  rfl

set_option maxRecDepth 100000 in
set_option maxHeartbeats 8000000 in
theorem rmay_any (t : Nd) (p : Option Addr) (c : Nat) (w : World) (hc : cnt t ≤ 9000) (hok : ok1 t) (hk : Kids w anyH (.slice p t.args.length c) t.args) :
    Calls Try.prog 47 #[nv t (.slice p t.args.length c)] w fun e w' => e = .returned (.bool ((t.key.toList.isEmpty || nameP t.key) && kindP t)) ∧ Below w.heap.size w w' := by
  have HL : Hid (∀ v, Below w.heap.size w v → Calls Try.prog 56 #[nv t (.slice p t.args.length c)] v fun e v' => e = .returned (.bool (letP t)) ∧ Below w.heap.size w v') := fun v hv => (rlet_any t p c v hc hok (hk.below hv)).mono fun e v' ⟨he, hb⟩ => ⟨he, bel hv hb⟩
  have HLK : Hid (t.kind = 6 → kindP t = letP t) := kindP_let
  obtain ⟨⟨s1, s2, x0, x1⟩, -⟩ := hok
  have hlen : t.args.length ≤ 9000 := by have := cntL_len t.args; unfold cnt at hc; omega
  obtain ⟨k, nm, x, i, y, l, a⟩ := t
  unfold nv at HL ⊢
  simp only at *
  obtain ⟨yp, hyp⟩ : ∃ yp, nameP y = yp := ⟨_, rfl⟩
  have K0 := rName_any y s2
  rw [hyp] at K0 ⊢
  have H0 : Hid (∀ w, Calls Try.prog 54 #[.string y] w fun e w' => e = .returned (.bool yp) ∧ w' = w) := K0
  obtain ⟨lp, hlp⟩ : ∃ lp, letP ⟨k, nm, x, i, y, l, a⟩ = lp := ⟨_, rfl⟩
  rw [hlp] at HL HLK
  clear hyp K0 hlp hk
  obtain ⟨np, hnp⟩ : ∃ np, nameP nm = np := ⟨_, rfl⟩
  obtain ⟨tp, htp⟩ : ∃ tp, textP nm = tp := ⟨_, rfl⟩
  obtain ⟨fp, hfp⟩ : ∃ fp, finP x = fp := ⟨_, rfl⟩
  obtain ⟨n, hn⟩ : ∃ n, l.length = n := ⟨_, rfl⟩
  have K1 := rName_any nm s1
  have K2 := rtext_any nm s1
  have K3 := rfin_any x x0 x1
  rw [hnp] at K1
  rw [htp] at K2
  rw [hfp] at K3
  have H1 : Hid (∀ w, Calls Try.prog 54 #[.string nm] w fun e w' => e = .returned (.bool np) ∧ w' = w) := K1
  have H2 : Hid (∀ w, Calls Try.prog 57 #[.string nm] w fun e w' => e = .returned (.bool tp) ∧ w' = w) := K2
  have H3 : Hid (∀ w, Calls Try.prog 55 #[.int .i64 x] w fun e w' => e = .returned (.bool fp) ∧ w' = w) := K3
  have hx : IntKind.i64.wrap x = x := by rw [IntKind.wrap_i64]; omega
  by_cases k6 : k = 6
  · rw [HLK.out k6]
    subst k6
    rw [hn] at HL hlen ⊢
    clear hnp htp hfp K1 K2 K3 s1 s2 x0 x1 hn HLK hc
    go_enter Try.func47, Try.ntmps47
    go_wp2_with (go_at_call 54; (with_reducible refine (H0.out _).mono ?_); rintro e w1 ⟨rfl, rfl⟩)
    all_goals (first
      | (go_ret; refine ⟨ret_bool ?_, bel_alloc _ _⟩; simp_all; done)
      | (go_quiet (fail); go_wp2_with (go_at_call 56; (with_reducible refine (HL.out _ (bel (bel_alloc _ _) (bel_dn _ _))).mono ?_); rintro e w1 ⟨rfl, hb1⟩); all_goals (go_ret; refine ⟨ret_bool ?_, (by first | exact hb1 | exact bel (bel_alloc _ _) (bel_dn _ _))⟩; simp_all)))
  unfold kindP novP
  simp only
  rw [hn] at hlen ⊢
  rw [hnp, htp, hfp, if_neg k6]
  clear hnp htp hfp K1 K2 K3 s1 s2 x0 x1 hn HLK hc HL
  by_cases k1 : k = 1
  · subst k1
    rw [if_pos rfl]
    go_enter Try.func47, Try.ntmps47
    go_wp2_with (go_at_call 54; (with_reducible refine (H0.out _).mono ?_); rintro e w1 ⟨rfl, rfl⟩)
    all_goals (first
      | (go_ret; refine ⟨ret_bool ?_, bel_alloc _ _⟩; simp_all; done)
      | (go_quiet (fail); go_wp2_with (go_at_call 54; (with_reducible refine (H1.out _).mono ?_); rintro e w1 ⟨rfl, rfl⟩); all_goals (go_ret; refine ⟨ret_bool ?_, (by first | exact hb1 | exact bel (bel_alloc _ _) (bel_dn _ _))⟩; simp_all)))
  rw [if_neg k1]
  by_cases k2 : k = 2
  · subst k2
    rw [if_pos rfl]
    go_enter Try.func47, Try.ntmps47
    go_wp2_with (go_at_call 54; (with_reducible refine (H0.out _).mono ?_); rintro e w1 ⟨rfl, rfl⟩)
    all_goals (first
      | (go_ret; refine ⟨ret_bool ?_, bel_alloc _ _⟩; simp_all; done)
      | (go_quiet (fail); go_wp2_with (go_at_call 55; (with_reducible refine (H3.out _).mono ?_); rintro e w1 ⟨rfl, rfl⟩); all_goals (go_ret; refine ⟨ret_bool ?_, (by first | exact hb1 | exact bel (bel_alloc _ _) (bel_dn _ _))⟩; simp_all)))
  rw [if_neg k2]
  by_cases k3 : k = 3
  · subst k3
    rw [if_pos rfl]
    go_enter Try.func47, Try.ntmps47
    go_wp2_with (go_at_call 54; (with_reducible refine (H0.out _).mono ?_); rintro e w1 ⟨rfl, rfl⟩)
    all_goals (first
      | (go_ret; refine ⟨ret_bool ?_, bel_alloc _ _⟩; simp_all; done)
      | (go_quiet (fail); go_wp2_with (fail); all_goals (go_ret; refine ⟨ret_bool ?_, (by first | exact hb1 | exact bel (bel_alloc _ _) (bel_dn _ _))⟩; first | (simp_all; done) | (simp_all; intros; omega))))
  rw [if_neg k3]
  by_cases k4 : k = 4
  · subst k4
    rw [if_pos rfl]
    go_enter Try.func47, Try.ntmps47
    go_wp2_with (go_at_call 54; (with_reducible refine (H0.out _).mono ?_); rintro e w1 ⟨rfl, rfl⟩)
    all_goals (first
      | (go_ret; refine ⟨ret_bool ?_, bel_alloc _ _⟩; simp_all; done)
      | (go_quiet (fail); go_wp2_with (go_at_call 54; (with_reducible refine (H1.out _).mono ?_); rintro e w1 ⟨rfl, rfl⟩); all_goals (go_ret; refine ⟨ret_bool ?_, (by first | exact hb1 | exact bel (bel_alloc _ _) (bel_dn _ _))⟩; simp_all)))
  rw [if_neg k4]
  by_cases k5 : k = 5
  · subst k5
    rw [if_pos rfl]
    go_enter Try.func47, Try.ntmps47
    go_wp2_with (go_at_call 54; (with_reducible refine (H0.out _).mono ?_); rintro e w1 ⟨rfl, rfl⟩)
    all_goals (first
      | (go_ret; refine ⟨ret_bool ?_, bel_alloc _ _⟩; simp_all; done)
      | (go_quiet (fail); go_wp2_with (go_at_call 57; (with_reducible refine (H2.out _).mono ?_); rintro e w1 ⟨rfl, rfl⟩); all_goals (go_ret; refine ⟨ret_bool ?_, (by first | exact hb1 | exact bel (bel_alloc _ _) (bel_dn _ _))⟩; simp_all)))
  rw [if_neg k5]
  go_enter Try.func47, Try.ntmps47
  go_wp2_with (go_at_call 54; (with_reducible refine (H0.out _).mono ?_); rintro e w1 ⟨rfl, rfl⟩)
  all_goals (first
    | (go_ret; refine ⟨ret_bool ?_, bel_alloc _ _⟩; simp_all; done)
    | (go_quiet (fail); go_wp2_with (fail); all_goals (go_ret; refine ⟨ret_bool ?_, (by first | exact hb1 | exact bel (bel_alloc _ _) (bel_dn _ _))⟩; simp_all)))

end Go.Proofs.Ytpidjmgifglmiaa
