import Derived.Test.YtbmkddmmclndcaaPart2
import Derived.Test.YtbmkddmmclndcaaPart3
/- The reference's Check. -/
namespace Go.Proofs.Ytbmkddmmclndcaa
open Go.RowKit
set_option linter.unusedVariables false
set_option linter.unusedSimpArgs false

set_option maxHeartbeats 400000 in
theorem rfin_any (a : Int) (h0 : 0 ≤ a) (h1 : a < 4294967296) (w : World) :
    Calls Try.prog 73 #[.int .i64 a] w fun e w' => e = .returned (.bool (finP a)) ∧ w' = w := by
  unfold finP
  have e : a.tmod 2147483648 = a % 2147483648 := Int.tmod_eq_emod_of_nonneg h0
  go_enter Try.func73, Try.ntmps73
  go_wp2
  go_ret
  refine ⟨ret_bool ?_, rfl⟩
  simp_all

/-- What a let asks. -/
def letP (t : Nd) : Bool := nameP t.name && !(t.name.toList == [116, 114, 117, 101]) && !(t.name.toList == [102, 97, 108, 115, 101]) && novP t && bindsP t.args

set_option maxRecDepth 100000 in
set_option maxHeartbeats 4000000 in
theorem rlet_any (t : Nd) (p : Option Addr) (c : Nat) (w : World) (hc : cnt t ≤ 9000) (hok : ok1 t) (hk : Kids w anyH (.slice p t.args.length c) t.args) :
    Calls Try.prog 74 #[nv t (.slice p t.args.length c)] w fun e w' => e = .returned (.bool (letP t)) ∧ Below w.heap.size w w' := by
  obtain ⟨⟨s1, s2, x0, x1⟩, -⟩ := hok
  have hlen : t.args.length ≤ 9000 := by have := cntL_len t.args; unfold cnt at hc; omega
  obtain ⟨k, nm, x, i, y, l, a⟩ := t
  unfold nv letP novP
  simp only at *
  obtain ⟨np, hnp⟩ : ∃ np, nameP nm = np := ⟨_, rfl⟩
  have K1 := rName_any nm s1
  rw [hnp] at K1 ⊢
  have H1 : Hid (∀ w, Calls Try.prog 72 #[.string nm] w fun e w' => e = .returned (.bool np) ∧ w' = w) := K1
  clear hnp K1 hc
  have hbx := bel_alloc w (.cells #[.int .i64 k, .string nm, .int .u32 x, .int .i64 i, .string y, .slice p l.length c, .int .i64 a] 26)
  by_cases h2 : l.length = 2
  · obtain ⟨p', c', hv, -, hk⟩ := hk
    match l, h2, hk with
    | [v, r], _, hk0 =>
      rcases hk0 with hka | ⟨b, o, hp, hka⟩
      · cases hka
      simp only [Value.slice.injEq] at hv
      obtain ⟨rfl, -, -⟩ := hv
      subst hp
      have hk1 := KA_cons.1 hka
      have hk2 := KA_cons.1 hk1.2
      obtain ⟨v0, -, -, -, v4, -, -⟩ := hk1.1
      obtain ⟨r0, -, -, -, r4, -, -⟩ := hk2.1
      clear hka hk1 hk2
      obtain ⟨vk, vn, vx, vi, vy, vl, va⟩ := v
      obtain ⟨rk, rn, rx, ri, ry, rl, ra⟩ := r
      show Calls Try.prog 74 #[.agg #[.int .i64 k, .string nm, .int .u32 x, .int .i64 i, .string y, .slice (some ⟨b, o, none⟩) 2 c, .int .i64 a]] w fun e w' => e = .returned (.bool (np && !(nm.toList == [116, 114, 117, 101]) && !(nm.toList == [102, 97, 108, 115, 101]) && (x == 0 && i == 0) && (vk != 6 && (rk == 6 || rk == 1) && vy.toList.isEmpty && ry.toList.isEmpty))) ∧ Below w.heap.size w w'
      simp only at v0 v4 r0 r4
      have lb := mcell_lt v0
      go_enter Try.func74, Try.ntmps74
      go_wp2_with (go_at_call 72; refine (H1.out _).mono ?_; rintro e w1 ⟨rfl, rfl⟩)
      all_goals (go_ret; refine ⟨ret_bool ?_, bel_alloc _ _⟩; simp_all)
  · have e : bindsP l = false := by
      unfold bindsP
      split
      · simp at h2
      · rfl
    rw [e, Bool.and_false]
    obtain ⟨n, hn⟩ : ∃ n, l.length = n := ⟨_, rfl⟩
    rw [hn] at hlen h2 ⊢
    have z : ¬ ((n : Int) = 2) := by omega
    clear hk e hn
    go_enter Try.func74, Try.ntmps74
    go_wp2_with (go_at_call 72; refine (H1.out _).mono ?_; rintro e w1 ⟨rfl, rfl⟩)
    all_goals (go_ret; exact ⟨rfl, bel_alloc _ _⟩)

theorem kindP_let {t : Nd} (h : t.kind = 6) : kindP t = letP t := by
  unfold kindP letP
  rw [h]
  rfl

set_option maxRecDepth 100000 in
set_option maxHeartbeats 8000000 in
theorem rmay_any (t : Nd) (p : Option Addr) (c : Nat) (w : World) (hc : cnt t ≤ 9000) (hok : ok1 t) (hk : Kids w anyH (.slice p t.args.length c) t.args) :
    Calls Try.prog 44 #[nv t (.slice p t.args.length c)] w fun e w' => e = .returned (.bool ((t.key.toList.isEmpty || nameP t.key) && kindP t)) ∧ Below w.heap.size w w' := by
  have HL : Hid (∀ v, Below w.heap.size w v → Calls Try.prog 74 #[nv t (.slice p t.args.length c)] v fun e v' => e = .returned (.bool (letP t)) ∧ Below w.heap.size w v') := fun v hv => (rlet_any t p c v hc hok (hk.below hv)).mono fun e v' ⟨he, hb⟩ => ⟨he, bel hv hb⟩
  have HLK : Hid (t.kind = 6 → kindP t = letP t) := kindP_let
  obtain ⟨⟨s1, s2, x0, x1⟩, -⟩ := hok
  have hlen : t.args.length ≤ 9000 := by have := cntL_len t.args; unfold cnt at hc; omega
  obtain ⟨k, nm, x, i, y, l, a⟩ := t
  unfold nv at HL ⊢
  simp only at *
  obtain ⟨yp, hyp⟩ : ∃ yp, nameP y = yp := ⟨_, rfl⟩
  have K0 := rName_any y s2
  rw [hyp] at K0 ⊢
  have H0 : Hid (∀ w, Calls Try.prog 72 #[.string y] w fun e w' => e = .returned (.bool yp) ∧ w' = w) := K0
  obtain ⟨lp, hlp⟩ : ∃ lp, letP ⟨k, nm, x, i, y, l, a⟩ = lp := ⟨_, rfl⟩
  rw [hlp] at HL HLK
  clear hyp K0 hlp hk
  obtain ⟨np, hnp⟩ : ∃ np, nameP nm = np := ⟨_, rfl⟩
  obtain ⟨tp, htp⟩ : ∃ tp, textP nm = tp := ⟨_, rfl⟩
  obtain ⟨fp, hfp⟩ : ∃ fp, finP x = fp := ⟨_, rfl⟩
  obtain ⟨n, hn⟩ : ∃ n, l.length = n := ⟨_, rfl⟩
  have K1 := rName_any nm s1
  have K2 := rtext_any nm s1
  have K3 := rfin_any x x0 x1
  rw [hnp] at K1
  rw [htp] at K2
  rw [hfp] at K3
  have H1 : Hid (∀ w, Calls Try.prog 72 #[.string nm] w fun e w' => e = .returned (.bool np) ∧ w' = w) := K1
  have H2 : Hid (∀ w, Calls Try.prog 75 #[.string nm] w fun e w' => e = .returned (.bool tp) ∧ w' = w) := K2
  have H3 : Hid (∀ w, Calls Try.prog 73 #[.int .i64 x] w fun e w' => e = .returned (.bool fp) ∧ w' = w) := K3
  have hx : IntKind.i64.wrap x = x := by rw [IntKind.wrap_i64]; omega
  by_cases k6 : k = 6
  · rw [HLK.out k6]
    subst k6
    rw [hn] at HL hlen ⊢
    clear hnp htp hfp K1 K2 K3 s1 s2 x0 x1 hn HLK hc
    go_enter Try.func44, Try.ntmps44
    go_wp2_with (go_at_call 72; (with_reducible refine (H0.out _).mono ?_); rintro e w1 ⟨rfl, rfl⟩)
    all_goals (first
      | (go_ret; refine ⟨ret_bool ?_, bel_alloc _ _⟩; simp_all; done)
      | (go_quiet (fail); go_wp2_with (go_at_call 74; (with_reducible refine (HL.out _ (bel (bel_alloc _ _) (bel_dn _ _))).mono ?_); rintro e w1 ⟨rfl, hb1⟩); all_goals (go_ret; refine ⟨ret_bool ?_, (by first | exact hb1 | exact bel (bel_alloc _ _) (bel_dn _ _))⟩; simp_all)))
  unfold kindP novP
  simp only
  rw [hn] at hlen ⊢
  rw [hnp, htp, hfp, if_neg k6]
  clear hnp htp hfp K1 K2 K3 s1 s2 x0 x1 hn HLK hc HL
  by_cases k1 : k = 1
  · subst k1
    rw [if_pos rfl]
    go_enter Try.func44, Try.ntmps44
    go_wp2_with (go_at_call 72; (with_reducible refine (H0.out _).mono ?_); rintro e w1 ⟨rfl, rfl⟩)
    all_goals (first
      | (go_ret; refine ⟨ret_bool ?_, bel_alloc _ _⟩; simp_all; done)
      | (go_quiet (fail); go_wp2_with (go_at_call 72; (with_reducible refine (H1.out _).mono ?_); rintro e w1 ⟨rfl, rfl⟩); all_goals (go_ret; refine ⟨ret_bool ?_, (by first | exact hb1 | exact bel (bel_alloc _ _) (bel_dn _ _))⟩; simp_all)))
  rw [if_neg k1]
  by_cases k2 : k = 2
  · subst k2
    rw [if_pos rfl]
    go_enter Try.func44, Try.ntmps44
    go_wp2_with (go_at_call 72; (with_reducible refine (H0.out _).mono ?_); rintro e w1 ⟨rfl, rfl⟩)
    all_goals (first
      | (go_ret; refine ⟨ret_bool ?_, bel_alloc _ _⟩; simp_all; done)
      | (go_quiet (fail); go_wp2_with (go_at_call 73; (with_reducible refine (H3.out _).mono ?_); rintro e w1 ⟨rfl, rfl⟩); all_goals (go_ret; refine ⟨ret_bool ?_, (by first | exact hb1 | exact bel (bel_alloc _ _) (bel_dn _ _))⟩; simp_all)))
  rw [if_neg k2]
  by_cases k3 : k = 3
  · subst k3
    rw [if_pos rfl]
    go_enter Try.func44, Try.ntmps44
    go_wp2_with (go_at_call 72; (with_reducible refine (H0.out _).mono ?_); rintro e w1 ⟨rfl, rfl⟩)
    all_goals (first
      | (go_ret; refine ⟨ret_bool ?_, bel_alloc _ _⟩; simp_all; done)
      | (go_quiet (fail); go_wp2_with (fail); all_goals (go_ret; refine ⟨ret_bool ?_, (by first | exact hb1 | exact bel (bel_alloc _ _) (bel_dn _ _))⟩; first | (simp_all; done) | (simp_all; intros; omega))))
  rw [if_neg k3]
  by_cases k4 : k = 4
  · subst k4
    rw [if_pos rfl]
    go_enter Try.func44, Try.ntmps44
    go_wp2_with (go_at_call 72; (with_reducible refine (H0.out _).mono ?_); rintro e w1 ⟨rfl, rfl⟩)
    all_goals (first
      | (go_ret; refine ⟨ret_bool ?_, bel_alloc _ _⟩; simp_all; done)
      | (go_quiet (fail); go_wp2_with (go_at_call 72; (with_reducible refine (H1.out _).mono ?_); rintro e w1 ⟨rfl, rfl⟩); all_goals (go_ret; refine ⟨ret_bool ?_, (by first | exact hb1 | exact bel (bel_alloc _ _) (bel_dn _ _))⟩; simp_all)))
  rw [if_neg k4]
  by_cases k5 : k = 5
  · subst k5
    rw [if_pos rfl]
    go_enter Try.func44, Try.ntmps44
    go_wp2_with (go_at_call 72; (with_reducible refine (H0.out _).mono ?_); rintro e w1 ⟨rfl, rfl⟩)
    all_goals (first
      | (go_ret; refine ⟨ret_bool ?_, bel_alloc _ _⟩; simp_all; done)
      | (go_quiet (fail); go_wp2_with (go_at_call 75; (with_reducible refine (H2.out _).mono ?_); rintro e w1 ⟨rfl, rfl⟩); all_goals (go_ret; refine ⟨ret_bool ?_, (by first | exact hb1 | exact bel (bel_alloc _ _) (bel_dn _ _))⟩; simp_all)))
  rw [if_neg k5]
  go_enter Try.func44, Try.ntmps44
  go_wp2_with (go_at_call 72; (with_reducible refine (H0.out _).mono ?_); rintro e w1 ⟨rfl, rfl⟩)
  all_goals (first
    | (go_ret; refine ⟨ret_bool ?_, bel_alloc _ _⟩; simp_all; done)
    | (go_quiet (fail); go_wp2_with (fail); all_goals (go_ret; refine ⟨ret_bool ?_, (by first | exact hb1 | exact bel (bel_alloc _ _) (bel_dn _ _))⟩; simp_all)))

end Go.Proofs.Ytbmkddmmclndcaa
/- The reference's first, Check. -/
namespace Go.Proofs.Ytbmkddmmclndcaa
open Go.RowKit
set_option linter.unusedVariables false
set_option linter.unusedSimpArgs false

theorem wkL_check (l : List Nd) : ∀ (d : Int) (u : Option Nd), (wkL gCheck l d u 0).1 = ((wkL gCheck l d u 0).2 == 0) := by
  apply forest (P := fun l => ∀ (d : Int) (u : Option Nd), (wkL gCheck l d u 0).1 = ((wkL gCheck l d u 0).2 == 0))
  · intro d u; rw [wkL_nil]; rfl
  · intro t r h1 h2 d u
    have e : (wk gCheck t d u 0).1 = ((wk gCheck t d u 0).2 == 0) := by
      unfold wk
      rw [show gCheck 0 t d u = (judgeP t u == 0, judgeP t u) from rfl]
      by_cases c : judgeP t u = 0
      · rw [c]; exact h1 _ _
      · have z : (judgeP t u == 0) = false := by simpa using c
        simp only [z]
        simp [c]
    rw [wkL_cons]
    by_cases c : (wk gCheck t d u 0).2 = 0
    · have e' : (wk gCheck t d u 0).1 = true := by rw [e, c]; rfl
      rw [c, if_pos e']
      exact h2 _ _
    · have z : ((wk gCheck t d u 0).2 == 0) = false := by simpa using c
      rw [z] at e
      rw [if_neg (by rw [e]; decide)]
      exact z.symm
theorem wk_check (t : Nd) (d : Int) (u : Option Nd) : (wk gCheck t d u 0).1 = ((wk gCheck t d u 0).2 == 0) := by
  rw [← wkL_one]; exact wkL_check _ _ _

/-- Where both ask the same of a node. -/
def Agree (t : Nd) (low : Bool) (u : Option Nd) : Prop :=
  ¬ (64 < t.name.size ∨ 64 < t.key.size) → (keyP t.key u && kindP t && standsP t.kind u) = ((t.key.toList.isEmpty || nameP t.key) && kindP t && !(low && t.kind == 6))
theorem agree_kid {t : Nd} {u : Option Nd} {j : Nat} (hj : j < t.args.length) (h0 : judgeP t u = 0) : Agree t.args[j] (t.kind != 6 || (j : Int) == 0) (some t) := by
  intro _
  have hkp : kindP t = true := by
    unfold judgeP at h0
    split at h0
    · cases h0
    · split at h0
      · rename_i h
        simp only [Bool.and_eq_true] at h
        exact h.1.2
      · cases h0
  unfold keyP standsP
  simp only
  congr 1
  by_cases k6 : t.kind = 6
  · have e1 : (t.kind == 6) = true := by simpa using k6
    have e2 : (t.kind != 6) = false := by simp [k6]
    rw [e1, e2, Bool.or_true, Bool.false_or]
    by_cases z : j = 0
    · subst z
      have hb : bindsP t.args = true := by
        rw [kindP_let k6] at hkp
        unfold letP at hkp
        simp only [Bool.and_eq_true] at hkp
        exact hkp.2
      have hv : (t.args[0].kind == 6) = false := by
        obtain ⟨k, nm, x, i, y, l, a⟩ := t
        simp only at hb hj ⊢
        match l, hb, hj with
        | [v, r], hb, _ =>
          unfold bindsP at hb
          simp only [Bool.and_eq_true, bne_iff_ne] at hb
          simpa using hb.1.1.1
      rw [hv, Bool.and_false]
      rfl
    · have : ((j : Int) == 0) = false := by simpa using z
      rw [this]
      rfl
  · have e1 : (t.kind == 6) = false := by simpa using k6
    have e2 : (t.kind != 6) = true := by simpa using k6
    rw [e1, e2, Bool.or_false, Bool.true_or, Bool.true_and]
    rfl

def FirstTo (N : Nat) : Prop := ∀ (t : Nd) (p : Option Addr) (c : Nat) (low : Bool) (d : Int) (u : Option Nd) (w : World), dep t ≤ N → cnt t ≤ 9000 → ok1 t → Kids w anyH (.slice p t.args.length c) t.args → Agree t low u →
  Calls Try.prog 26 #[nv t (.slice p t.args.length c), .bool low] w fun e w' => e = .returned (.int .i64 (wk gCheck t d u 0).2) ∧ Below w.heap.size w w'
set_option maxRecDepth 100000 in
set_option maxHeartbeats 4000000 in
theorem first_to : ∀ N, FirstTo N := by
  intro N
  induction N with
  | zero => intro t p c low d u w hd; unfold dep at hd; omega
  | succ N ih =>
    intro t p c low d u w hd hc hok hk hag
    have hlen : t.args.length ≤ 9000 := by have := cntL_len t.args; unfold cnt at hc; omega
    have HM : Hid (∀ v, Below w.heap.size w v → Calls Try.prog 44 #[nv t (.slice p t.args.length c)] v fun e v' => e = .returned (.bool ((t.key.toList.isEmpty || nameP t.key) && kindP t)) ∧ Below w.heap.size w v' ∧ Below v.heap.size v v') := fun v hv => (rmay_any t p c v hc hok (hk.below hv)).mono fun e v' ⟨he, hb⟩ => ⟨he, bel hv hb, hb⟩
    obtain ⟨mp, hmp⟩ : ∃ mp, ((t.key.toList.isEmpty || nameP t.key) && kindP t) = mp := ⟨_, rfl⟩
    have hag2 : ¬ (64 < t.name.size ∨ 64 < t.key.size) → (keyP t.key u && kindP t && standsP t.kind u) = (mp && !(low && t.kind == 6)) := fun h => by rw [hag h, hmp]
    rw [hmp] at HM
    clear hag hmp
    have hs1 := hok.1.1
    have hs2 := hok.1.2.1
    obtain ⟨n, hn⟩ : ∃ n, t.args.length = n := ⟨_, rfl⟩
    have HN : Hid (t.args.length = n) := hn
    have hbx := box_heap w (.cells #[.int .i64 t.kind, .string t.name, .int .u32 t.num, .int .i64 t.int_, .string t.key, .slice p t.args.length c, .int .i64 t.at_] 26)
    have hb0 := bel_alloc w (.cells #[.int .i64 t.kind, .string t.name, .int .u32 t.num, .int .i64 t.int_, .string t.key, .slice p t.args.length c, .int .i64 t.at_] 26)
    have HK : Hid (Kids w anyH (.slice p t.args.length c) t.args) := hk
    have HOK : Hid (ok1 t) := hok
    have HIH : Hid (FirstTo N) := ih
    unfold nv at HM ⊢
    rw [hn] at hlen hbx hb0 HM ⊢
    have HBX : Hid ((w.alloc (.cells #[.int .i64 t.kind, .string t.name, .int .u32 t.num, .int .i64 t.int_, .string t.key, .slice p n c, .int .i64 t.at_] 26)).heap[w.heap.size]? = some (.cells #[.int .i64 t.kind, .string t.name, .int .u32 t.num, .int .i64 t.int_, .string t.key, .slice p n c, .int .i64 t.at_] 26)) := hbx
    have HB0 : Hid (Below w.heap.size w (w.alloc (.cells #[.int .i64 t.kind, .string t.name, .int .u32 t.num, .int .i64 t.int_, .string t.key, .slice p n c, .int .i64 t.at_] 26))) := hb0
    obtain ⟨jv, hjv⟩ : ∃ jv, judgeP t u = jv := ⟨_, rfl⟩
    have hwk : wk gCheck t d u 0 = if jv = 0 then wkL gCheck t.args (d + 1) (some t) 0 else (false, jv) := by
      unfold wk
      rw [show gCheck 0 t d u = (judgeP t u == 0, judgeP t u) from rfl, hjv]
      by_cases z : jv = 0
      · subst z; rfl
      · rw [if_neg z, if_neg (by simpa using z)]
    rw [hwk]
    have HJV : Hid (judgeP t u = jv) := hjv
    clear hn hk ih hbx hok hwk hb0
    by_cases hlong : 64 < t.name.size ∨ 64 < t.key.size
    · have e2 : jv = 2 := by rw [← hjv]; unfold judgeP; rw [if_pos hlong]
      clear hag2 hjv
      rw [if_neg (by rw [e2]; decide), e2]
      clear e2
      by_cases h1 : 64 < t.name.size
      · have z1 : (64 : Int) < (t.name.size : Int) := by omega
        clear hlong
        go_enter Try.func26, Try.ntmps26
        go_wp2
        go_ret
        exact ⟨rfl, HB0.out⟩
      · have z1 : ¬ ((64 : Int) < (t.name.size : Int)) := by omega
        have z2 : (64 : Int) < (t.key.size : Int) := by omega
        clear hlong
        go_enter Try.func26, Try.ntmps26
        go_wp2
        go_ret
        exact ⟨rfl, HB0.out⟩
    have z1 : ¬ ((64 : Int) < (t.name.size : Int)) := by omega
    have z2 : ¬ ((64 : Int) < (t.key.size : Int)) := by omega
    have hj2 : jv = if (mp && !(low && t.kind == 6)) then 0 else 70 := by rw [← hjv, ← hag2 hlong]; unfold judgeP; rw [if_neg hlong]
    clear hlong hag2 hjv
    cases mp with
    | false =>
      have e2 : jv = 70 := by rw [hj2]; rfl
      rw [if_neg (by rw [e2]; decide), e2]
      clear hj2 e2
      go_enter Try.func26, Try.ntmps26
      go_wp2_with (go_at_call 44; (with_reducible refine (HM.out _ HB0.out).mono ?_); rintro e w1 ⟨rfl, hb1, -⟩)
      go_ret
      exact ⟨rfl, hb1⟩
    | true =>
      by_cases hlk : (low && t.kind == 6) = true
      · have e2 : jv = 70 := by rw [hj2, hlk]; rfl
        rw [if_neg (by rw [e2]; decide), e2]
        rw [Bool.and_eq_true] at hlk
        obtain ⟨rfl, hk6⟩ := hlk
        have HX : Hid (∀ v, Below (w.alloc (.cells #[.int .i64 t.kind, .string t.name, .int .u32 t.num, .int .i64 t.int_, .string t.key, .slice p n c, .int .i64 t.at_] 26)).heap.size (w.alloc (.cells #[.int .i64 t.kind, .string t.name, .int .u32 t.num, .int .i64 t.int_, .string t.key, .slice p n c, .int .i64 t.at_] 26)) v → v.cell? ⟨w.heap.size, 0, none⟩ = some (.int .i64 t.kind)) := fun v hv => by
          have h1 : v.heap[w.heap.size]? = some (.cells #[.int .i64 t.kind, .string t.name, .int .u32 t.num, .int .i64 t.int_, .string t.key, .slice p n c, .int .i64 t.at_] 26) := by rw [hv.block _ (hlt HBX.out)]; exact HBX.out
          exact cell_heap h1 0
        clear hj2 e2
        go_enter Try.func26, Try.ntmps26
        go_wp2_with (go_at_call 44; (with_reducible refine (HM.out _ HB0.out).mono ?_); rintro e w1 ⟨rfl, hb1, hb2⟩; have c0 := HX.out _ hb2)
        go_ret
        exact ⟨rfl, hb1⟩
      · have hlk0 : (low && t.kind == 6) = false := by simpa using hlk
        have e2 : jv = 0 := by rw [hj2, hlk0]; rfl
        subst e2
        rw [if_pos rfl]
        have HX : Hid (∀ v, Below (w.alloc (.cells #[.int .i64 t.kind, .string t.name, .int .u32 t.num, .int .i64 t.int_, .string t.key, .slice p n c, .int .i64 t.at_] 26)).heap.size (w.alloc (.cells #[.int .i64 t.kind, .string t.name, .int .u32 t.num, .int .i64 t.int_, .string t.key, .slice p n c, .int .i64 t.at_] 26)) v → v.cell? ⟨w.heap.size, 0, none⟩ = some (.int .i64 t.kind) ∧ v.heap[w.heap.size]? = some (.cells #[.int .i64 t.kind, .string t.name, .int .u32 t.num, .int .i64 t.int_, .string t.key, .slice p n c, .int .i64 t.at_] 26)) := fun v hv => by
          have h1 : v.heap[w.heap.size]? = some (.cells #[.int .i64 t.kind, .string t.name, .int .u32 t.num, .int .i64 t.int_, .string t.key, .slice p n c, .int .i64 t.at_] 26) := by rw [hv.block _ (hlt HBX.out)]; exact HBX.out
          exact ⟨cell_heap h1 0, h1⟩
        clear hj2 hlk
        rcases Bool.eq_false_or_eq_true low with rfl | rfl
        all_goals (
          try simp only [Bool.true_and, Bool.false_and] at hlk0
          go_enter Try.func26, Try.ntmps26
          go_wp2_with (go_at_call 44; (with_reducible refine (HM.out _ HB0.out).mono ?_); rintro e w1 ⟨rfl, hb1, hb2⟩; obtain ⟨c0, hx1⟩ := HX.out _ hb2; have HX1 : Hid (w1.heap[w.heap.size]? = some (.cells #[.int .i64 t.kind, .string t.name, .int .u32 t.num, .int .i64 t.int_, .string t.key, .slice p n c, .int .i64 t.at_] 26)) := hx1; clear hx1)
          go_loopw [5] (fun iv wr => Below w.heap.size w wr ∧ ∃ j : Nat, j ≤ n ∧ iv = .int .i64 j ∧ wr.heap[w.heap.size]? = some (.cells #[.int .i64 t.kind, .string t.name, .int .u32 t.num, .int .i64 t.int_, .string t.key, .slice p n c, .int .i64 t.at_] 26) ∧ Hid ((wkL gCheck (t.args.take j) (d + 1) (some t) 0).1 = true)) (fun iv _ => n - (intOf iv).toNat)
          case atStart => exact ⟨hb1, 0, Nat.zero_le _, rfl, HX1.out, by rw [List.take_zero, wkL_nil]; exact rfl⟩
          case round =>
          obtain ⟨hb, j, hj, rfl, hx, hS⟩ := hrel
          have h5 := cell5 hx
          have h0 : wr.cell? ⟨w.heap.size, 0, none⟩ = some (.int .i64 t.kind) := cell_heap hx 0
          have HX2 : Hid (wr.heap[w.heap.size]? = some (.cells #[.int .i64 t.kind, .string t.name, .int .u32 t.num, .int .i64 t.int_, .string t.key, .slice p n c, .int .i64 t.at_] 26)) := hx
          clear hx HX HX1 HM
          by_cases hlt0 : j < n
          · have hll : j < t.args.length := by rw [HN.out]; exact hlt0
            obtain ⟨b1, o1, q1, d1, rfl, ⟨x0, x1, x2, x3, x4, x5, x6⟩, kx⟩ := kid_at HK.out hb hll
            have hag := agree_kid hll HJV.out
            obtain ⟨r, hr⟩ : ∃ r, (wk gCheck t.args[j] (d + 1) (some t) 0).2 = r := ⟨_, rfl⟩
            have hw0 : (wkL gCheck (t.args.take j) (d + 1) (some t) 0).2 = 0 := by
              have h1 := hS.out
              rw [wkL_check] at h1
              simpa using h1
            have HT : Hid (wkL gCheck (t.args.take (j + 1)) (d + 1) (some t) 0 = wk gCheck t.args[j] (d + 1) (some t) 0) := by
              have := wkL_take gCheck hll (d + 1) (some t) 0 hS.out
              rw [hw0] at this
              exact this
            have HR : Hid ((wk gCheck t.args[j] (d + 1) (some t) 0).1 = (r == 0)) := by
              have := wk_check t.args[j] (d + 1) (some t)
              rw [hr] at this
              exact this
            have HR2 : Hid ((wk gCheck t.args[j] (d + 1) (some t) 0).2 = r) := hr
            have HW : Hid (∀ v, Below wr.heap.size wr v → Calls Try.prog 26 #[.agg #[.int .i64 t.args[j].kind, .string t.args[j].name, .int .u32 t.args[j].num, .int .i64 t.args[j].int_, .string t.args[j].key, .slice q1 t.args[j].args.length d1, .int .i64 t.args[j].at_], .bool (t.kind != 6 || (j : Int) == 0)] v fun e v' => e = .returned (.int .i64 r) ∧ Below wr.heap.size wr v') := fun v hv =>
              (HIH.out t.args[j] q1 d1 (t.kind != 6 || (j : Int) == 0) (d + 1) (some t) v (by have := dep_get hll; unfold dep at hd ⊢; unfold dep at this; omega) (by have := cnt_get hll; unfold cnt at hc; omega) (okL_get HOK.out.2 hll) (kx.below hv) hag).mono fun e v' ⟨he, hb'⟩ => ⟨by rw [he, hr], bel hv hb'⟩
            have HB : Hid (∀ v, Below wr.heap.size wr v → v.cell? ⟨w.heap.size, 5, none⟩ = some (.slice (some ⟨b1, o1, none⟩) n c) ∧ v.cell? ⟨w.heap.size, 0, none⟩ = some (.int .i64 t.kind) ∧ v.cell? ⟨b1, o1 + j * 7, none⟩ = some (.int .i64 t.args[j].kind) ∧ v.cell? ⟨b1, o1 + j * 7 + 1, none⟩ = some (.string t.args[j].name) ∧ v.cell? ⟨b1, o1 + j * 7 + 2, none⟩ = some (.int .u32 t.args[j].num) ∧ v.cell? ⟨b1, o1 + j * 7 + 3, none⟩ = some (.int .i64 t.args[j].int_) ∧ v.cell? ⟨b1, o1 + j * 7 + 4, none⟩ = some (.string t.args[j].key) ∧ v.cell? ⟨b1, o1 + j * 7 + 5, none⟩ = some (.slice q1 t.args[j].args.length d1) ∧ v.cell? ⟨b1, o1 + j * 7 + 6, none⟩ = some (.int .i64 t.args[j].at_)) := fun v hv => ⟨(hv.cell (mcell_lt h5)).trans h5, (hv.cell (mcell_lt h0)).trans h0, (hv.cell (mcell_lt x0)).trans x0, (hv.cell (mcell_lt x1)).trans x1, (hv.cell (mcell_lt x2)).trans x2, (hv.cell (mcell_lt x3)).trans x3, (hv.cell (mcell_lt x4)).trans x4, (hv.cell (mcell_lt x5)).trans x5, (hv.cell (mcell_lt x6)).trans x6⟩
            have i1 : (0 : Int) ≤ (j : Int) := by omega
            have i2 : (j : Int) < (n : Int) := by omega
            clear kx HIH HK hw0 hr hag HOK HJV hS hlk0
            by_cases k6 : t.kind = 6
            · have z6 : (t.kind == 6) = true := by simpa using k6
              have z7 : (t.kind != 6) = false := by simp [k6]
              clear k6
              by_cases j0 : j = 0
              · have z0 : ((j : Int) == 0) = true := by simp [j0]
                have hlb : (t.kind != 6 || (j : Int) == 0) = true := by rw [z7, z0]; rfl
                clear j0
                have HWB : Hid (∀ v, Below wr.heap.size wr v → Calls Try.prog 26 #[.agg #[.int .i64 t.args[j].kind, .string t.args[j].name, .int .u32 t.args[j].num, .int .i64 t.args[j].int_, .string t.args[j].key, .slice q1 t.args[j].args.length d1, .int .i64 t.args[j].at_], .bool true] v fun e v' => e = .returned (.int .i64 r) ∧ Below wr.heap.size wr v') := fun v hv => by have := HW.out v hv; rw [hlb] at this; exact this
                clear HW hlb
                by_cases hr0 : r = 0
                · subst hr0
                  go_wp2
                  go_region_held3 (fun w' => w'.cell? ⟨w.heap.size, 5, none⟩ = some (.slice (some ⟨b1, o1, none⟩) n c) ∧ w'.cell? ⟨w.heap.size, 0, none⟩ = some (.int .i64 t.kind) ∧ w'.cell? ⟨b1, o1 + j * 7, none⟩ = some (.int .i64 t.args[j].kind) ∧ w'.cell? ⟨b1, o1 + j * 7 + 1, none⟩ = some (.string t.args[j].name) ∧ w'.cell? ⟨b1, o1 + j * 7 + 2, none⟩ = some (.int .u32 t.args[j].num) ∧ w'.cell? ⟨b1, o1 + j * 7 + 3, none⟩ = some (.int .i64 t.args[j].int_) ∧ w'.cell? ⟨b1, o1 + j * 7 + 4, none⟩ = some (.string t.args[j].key) ∧ w'.cell? ⟨b1, o1 + j * 7 + 5, none⟩ = some (.slice q1 t.args[j].args.length d1) ∧ w'.cell? ⟨b1, o1 + j * 7 + 6, none⟩ = some (.int .i64 t.args[j].at_)) (go_keep) (first
                    | (go_at_call 26; (with_reducible refine (HWB.out _ ?_).mono ?_); (first | exact bel_d _ | exact bel_dn _ _ | go_grown); rintro e w3 ⟨rfl, hb3⟩; obtain ⟨g5, g0, m0, m1, m2, m3, m4, m5, m6⟩ := HB.out w3 hb3))
                  go_wp2
                  go_roundw
                  case rel => exact ⟨bel hb hb3, j + 1, by omega, by go_num, by rw [hb3.block _ (hlt HX2.out)]; exact HX2.out, by rw [HT.out]; exact HR.out.trans rfl⟩
                  case measure => simp [intOf]; omega
                · have zr : (r == 0) = false := by simpa using hr0
                  go_wp2
                  go_region_held3 (fun w' => w'.cell? ⟨w.heap.size, 5, none⟩ = some (.slice (some ⟨b1, o1, none⟩) n c) ∧ w'.cell? ⟨w.heap.size, 0, none⟩ = some (.int .i64 t.kind) ∧ w'.cell? ⟨b1, o1 + j * 7, none⟩ = some (.int .i64 t.args[j].kind) ∧ w'.cell? ⟨b1, o1 + j * 7 + 1, none⟩ = some (.string t.args[j].name) ∧ w'.cell? ⟨b1, o1 + j * 7 + 2, none⟩ = some (.int .u32 t.args[j].num) ∧ w'.cell? ⟨b1, o1 + j * 7 + 3, none⟩ = some (.int .i64 t.args[j].int_) ∧ w'.cell? ⟨b1, o1 + j * 7 + 4, none⟩ = some (.string t.args[j].key) ∧ w'.cell? ⟨b1, o1 + j * 7 + 5, none⟩ = some (.slice q1 t.args[j].args.length d1) ∧ w'.cell? ⟨b1, o1 + j * 7 + 6, none⟩ = some (.int .i64 t.args[j].at_)) (go_keep) (first
                    | (go_at_call 26; (with_reducible refine (HWB.out _ ?_).mono ?_); (first | exact bel_d _ | exact bel_dn _ _ | go_grown); rintro e w3 ⟨rfl, hb3⟩; obtain ⟨g5, g0, m0, m1, m2, m3, m4, m5, m6⟩ := HB.out w3 hb3))
                  go_wp2
                  go_ret
                  refine ⟨ret_int ?_, bel hb hb3⟩
                  rw [wkL_stop gCheck (i := j + 1) (by omega) _ _ _ (by rw [HT.out]; exact HR.out.trans zr), HT.out]
                  exact HR2.out.symm
              · have z0 : ((j : Int) == 0) = false := by simp [j0]
                have hlb : (t.kind != 6 || (j : Int) == 0) = false := by rw [z7, z0]; rfl
                clear j0
                have HWB : Hid (∀ v, Below wr.heap.size wr v → Calls Try.prog 26 #[.agg #[.int .i64 t.args[j].kind, .string t.args[j].name, .int .u32 t.args[j].num, .int .i64 t.args[j].int_, .string t.args[j].key, .slice q1 t.args[j].args.length d1, .int .i64 t.args[j].at_], .bool false] v fun e v' => e = .returned (.int .i64 r) ∧ Below wr.heap.size wr v') := fun v hv => by have := HW.out v hv; rw [hlb] at this; exact this
                clear HW hlb
                by_cases hr0 : r = 0
                · subst hr0
                  go_wp2
                  go_region_held3 (fun w' => w'.cell? ⟨w.heap.size, 5, none⟩ = some (.slice (some ⟨b1, o1, none⟩) n c) ∧ w'.cell? ⟨w.heap.size, 0, none⟩ = some (.int .i64 t.kind) ∧ w'.cell? ⟨b1, o1 + j * 7, none⟩ = some (.int .i64 t.args[j].kind) ∧ w'.cell? ⟨b1, o1 + j * 7 + 1, none⟩ = some (.string t.args[j].name) ∧ w'.cell? ⟨b1, o1 + j * 7 + 2, none⟩ = some (.int .u32 t.args[j].num) ∧ w'.cell? ⟨b1, o1 + j * 7 + 3, none⟩ = some (.int .i64 t.args[j].int_) ∧ w'.cell? ⟨b1, o1 + j * 7 + 4, none⟩ = some (.string t.args[j].key) ∧ w'.cell? ⟨b1, o1 + j * 7 + 5, none⟩ = some (.slice q1 t.args[j].args.length d1) ∧ w'.cell? ⟨b1, o1 + j * 7 + 6, none⟩ = some (.int .i64 t.args[j].at_)) (go_keep) (first
                    | (go_at_call 26; (with_reducible refine (HWB.out _ ?_).mono ?_); (first | exact bel_d _ | exact bel_dn _ _ | go_grown); rintro e w3 ⟨rfl, hb3⟩; obtain ⟨g5, g0, m0, m1, m2, m3, m4, m5, m6⟩ := HB.out w3 hb3))
                  go_wp2
                  go_roundw
                  case rel => exact ⟨bel hb hb3, j + 1, by omega, by go_num, by rw [hb3.block _ (hlt HX2.out)]; exact HX2.out, by rw [HT.out]; exact HR.out.trans rfl⟩
                  case measure => simp [intOf]; omega
                · have zr : (r == 0) = false := by simpa using hr0
                  go_wp2
                  go_region_held3 (fun w' => w'.cell? ⟨w.heap.size, 5, none⟩ = some (.slice (some ⟨b1, o1, none⟩) n c) ∧ w'.cell? ⟨w.heap.size, 0, none⟩ = some (.int .i64 t.kind) ∧ w'.cell? ⟨b1, o1 + j * 7, none⟩ = some (.int .i64 t.args[j].kind) ∧ w'.cell? ⟨b1, o1 + j * 7 + 1, none⟩ = some (.string t.args[j].name) ∧ w'.cell? ⟨b1, o1 + j * 7 + 2, none⟩ = some (.int .u32 t.args[j].num) ∧ w'.cell? ⟨b1, o1 + j * 7 + 3, none⟩ = some (.int .i64 t.args[j].int_) ∧ w'.cell? ⟨b1, o1 + j * 7 + 4, none⟩ = some (.string t.args[j].key) ∧ w'.cell? ⟨b1, o1 + j * 7 + 5, none⟩ = some (.slice q1 t.args[j].args.length d1) ∧ w'.cell? ⟨b1, o1 + j * 7 + 6, none⟩ = some (.int .i64 t.args[j].at_)) (go_keep) (first
                    | (go_at_call 26; (with_reducible refine (HWB.out _ ?_).mono ?_); (first | exact bel_d _ | exact bel_dn _ _ | go_grown); rintro e w3 ⟨rfl, hb3⟩; obtain ⟨g5, g0, m0, m1, m2, m3, m4, m5, m6⟩ := HB.out w3 hb3))
                  go_wp2
                  go_ret
                  refine ⟨ret_int ?_, bel hb hb3⟩
                  rw [wkL_stop gCheck (i := j + 1) (by omega) _ _ _ (by rw [HT.out]; exact HR.out.trans zr), HT.out]
                  exact HR2.out.symm
            · have z6 : (t.kind == 6) = false := by simpa using k6
              have z7 : (t.kind != 6) = true := by simpa using k6
              clear k6
              have hlb : (t.kind != 6 || (j : Int) == 0) = true := by rw [z7]; rfl
              have HWB : Hid (∀ v, Below wr.heap.size wr v → Calls Try.prog 26 #[.agg #[.int .i64 t.args[j].kind, .string t.args[j].name, .int .u32 t.args[j].num, .int .i64 t.args[j].int_, .string t.args[j].key, .slice q1 t.args[j].args.length d1, .int .i64 t.args[j].at_], .bool true] v fun e v' => e = .returned (.int .i64 r) ∧ Below wr.heap.size wr v') := fun v hv => by have := HW.out v hv; rw [hlb] at this; exact this
              clear HW hlb
              by_cases hr0 : r = 0
              · subst hr0
                go_wp2
                refine wp_region_held_drew (S := (fun w' => w'.cell? ⟨w.heap.size, 5, none⟩ = some (.slice (some ⟨b1, o1, none⟩) n c) ∧ w'.cell? ⟨w.heap.size, 0, none⟩ = some (.int .i64 t.kind) ∧ w'.cell? ⟨b1, o1 + j * 7, none⟩ = some (.int .i64 t.args[j].kind) ∧ w'.cell? ⟨b1, o1 + j * 7 + 1, none⟩ = some (.string t.args[j].name) ∧ w'.cell? ⟨b1, o1 + j * 7 + 2, none⟩ = some (.int .u32 t.args[j].num) ∧ w'.cell? ⟨b1, o1 + j * 7 + 3, none⟩ = some (.int .i64 t.args[j].int_) ∧ w'.cell? ⟨b1, o1 + j * 7 + 4, none⟩ = some (.string t.args[j].key) ∧ w'.cell? ⟨b1, o1 + j * 7 + 5, none⟩ = some (.slice q1 t.args[j].args.length d1) ∧ w'.cell? ⟨b1, o1 + j * 7 + 6, none⟩ = some (.int .i64 t.args[j].at_))) (by kernel_rfl) ?_ (fun hHeld => ?_)
                · ((try dsimp only); go_keep)
                refine wpAnyH_take (i := 0) (v := ?_) (by simp only [List.getElem?_toArray, List.getElem?_cons_succ, List.getElem?_cons_zero]; rfl) (by kernel_rfl) (by kernel_rfl) (by kernel_rfl) (by exact fun _ _ _ h => h) (Or.inl ⟨by rfl, ?_⟩) (by assumption) ?_
                rotate_left 1
                · (intro wS hSw; (try dsimp only at hSw); go_simp; try (with_reducible rfl))
                try simp only [Act.put, List.setIfInBounds_toArray, List.set_cons_zero, List.set_cons_succ]
                refine wpAnyH_take (i := 1) (v := ?_) (by simp only [List.getElem?_toArray, List.getElem?_cons_succ, List.getElem?_cons_zero]; rfl) (by kernel_rfl) (by kernel_rfl) (by kernel_rfl) (by exact fun _ _ _ h => h) (Or.inl ⟨by rfl, ?_⟩) (by assumption) ?_
                rotate_left 1
                · (intro wS hSw; (try dsimp only at hSw); go_simp; try (with_reducible rfl))
                try simp only [Act.put, List.setIfInBounds_toArray, List.set_cons_zero, List.set_cons_succ]
                refine wpAnyH_take (i := 2) (v := ?_) (by simp only [List.getElem?_toArray, List.getElem?_cons_succ, List.getElem?_cons_zero]; rfl) (by kernel_rfl) (by kernel_rfl) (by kernel_rfl) (by exact fun _ _ _ h => h) (Or.inl ⟨by rfl, ?_⟩) (by assumption) ?_
                rotate_left 1
                · (intro wS hSw; (try dsimp only at hSw); go_simp; try (with_reducible rfl))
                try simp only [Act.put, List.setIfInBounds_toArray, List.set_cons_zero, List.set_cons_succ]
                refine wpAnyH_take (i := 3) (v := ?_) (by simp only [List.getElem?_toArray, List.getElem?_cons_succ, List.getElem?_cons_zero]; rfl) (by kernel_rfl) (by kernel_rfl) (by kernel_rfl) (by exact fun _ _ _ h => h) (Or.inl ⟨by rfl, ?_⟩) (by assumption) ?_
                rotate_left 1
                · (intro wS hSw; (try dsimp only at hSw); go_simp; try (with_reducible rfl))
                try simp only [Act.put, List.setIfInBounds_toArray, List.set_cons_zero, List.set_cons_succ]
                refine wpAnyH_take (i := 4) (v := ?_) (by simp only [List.getElem?_toArray, List.getElem?_cons_succ, List.getElem?_cons_zero]; rfl) (by kernel_rfl) (by kernel_rfl) (by kernel_rfl) (by exact fun _ _ _ h => h) (Or.inl ⟨by rfl, ?_⟩) (by assumption) ?_
                rotate_left 1
                · (intro wS hSw; (try dsimp only at hSw); go_simp; try (with_reducible rfl))
                try simp only [Act.put, List.setIfInBounds_toArray, List.set_cons_zero, List.set_cons_succ]
                refine wpAnyH_take (i := 5) (v := ?_) (by simp only [List.getElem?_toArray, List.getElem?_cons_succ, List.getElem?_cons_zero]; rfl) (by kernel_rfl) (by kernel_rfl) (by kernel_rfl) (by exact fun _ _ _ h => h) (Or.inl ⟨by rfl, ?_⟩) (by assumption) ?_
                rotate_left 1
                · (intro wS hSw; (try dsimp only at hSw); go_simp; try (with_reducible rfl))
                try simp only [Act.put, List.setIfInBounds_toArray, List.set_cons_zero, List.set_cons_succ]
                refine wpAnyH_take (i := 6) (v := ?_) (by simp only [List.getElem?_toArray, List.getElem?_cons_succ, List.getElem?_cons_zero]; rfl) (by kernel_rfl) (by kernel_rfl) (by kernel_rfl) (by exact fun _ _ _ h => h) (Or.inl ⟨by rfl, ?_⟩) (by assumption) ?_
                rotate_left 1
                · (intro wS hSw; (try dsimp only at hSw); go_simp; try (with_reducible rfl))
                try simp only [Act.put, List.setIfInBounds_toArray, List.set_cons_zero, List.set_cons_succ]
                refine wpAnyH_take (i := 7) (v := ?_) (by simp only [List.getElem?_toArray, List.getElem?_cons_succ, List.getElem?_cons_zero]; rfl) (by kernel_rfl) (by kernel_rfl) (by kernel_rfl) (by exact fun _ _ _ h => h) (Or.inl ⟨by rfl, ?_⟩) (by assumption) ?_
                rotate_left 1
                · (intro wS hSw; (try dsimp only at hSw); go_simp; try (with_reducible rfl))
                try simp only [Act.put, List.setIfInBounds_toArray, List.set_cons_zero, List.set_cons_succ]
                refine wpAnyH_take (i := 8) (v := ?_) (by simp only [List.getElem?_toArray, List.getElem?_cons_succ, List.getElem?_cons_zero]; rfl) (by kernel_rfl) (by kernel_rfl) (by kernel_rfl) (by exact fun _ _ _ h => h) (Or.inl ⟨by rfl, ?_⟩) (by assumption) ?_
                rotate_left 1
                · (intro wS hSw; (try dsimp only at hSw); go_simp; try (with_reducible rfl))
                try simp only [Act.put, List.setIfInBounds_toArray, List.set_cons_zero, List.set_cons_succ]
                refine wpAnyH_take (i := 9) (v := undef) (by simp only [List.getElem?_toArray, List.getElem?_cons_succ, List.getElem?_cons_zero]; rfl) (by kernel_rfl) (by kernel_rfl) (by kernel_rfl) (by exact fun _ _ _ h => h) (Or.inr ⟨by rfl, rfl⟩) (by assumption) ?_
                try simp only [Act.put, List.setIfInBounds_toArray, List.set_cons_zero, List.set_cons_succ]
                refine wpAnyH_take (i := 10) (v := undef) (by simp only [List.getElem?_toArray, List.getElem?_cons_succ, List.getElem?_cons_zero]; rfl) (by kernel_rfl) (by kernel_rfl) (by kernel_rfl) (by exact fun _ _ _ h => h) (Or.inr ⟨by rfl, rfl⟩) (by assumption) ?_
                try simp only [Act.put, List.setIfInBounds_toArray, List.set_cons_zero, List.set_cons_succ]
                refine wpAnyH_take (i := 11) (v := ?_) (by simp only [List.getElem?_toArray, List.getElem?_cons_succ, List.getElem?_cons_zero]; rfl) (by kernel_rfl) (by kernel_rfl) (by kernel_rfl) (by exact fun _ _ _ h => h) (Or.inl ⟨by rfl, ?_⟩) (by assumption) ?_
                rotate_left 1
                · (intro wS hSw; (try dsimp only at hSw); go_simp; try (with_reducible rfl))
                try simp only [Act.put, List.setIfInBounds_toArray, List.set_cons_zero, List.set_cons_succ]
                clear hHeld
                refine wpAnyH_ready (rs := [12]) (by kernel_rfl) (by simp) ?_
                refine AllReadyH.cons (i := 12) (by simp only [List.getElem?_toArray, List.getElem?_cons_succ, List.getElem?_cons_zero]; rfl) (fun K hK => ?_) AllReadyH.nil
                go_simp
                (go_at_call 26; (with_reducible refine (HWB.out _ ?_).mono ?_); (first | exact bel_d _ | exact bel_dn _ _ | go_grown); rintro e w3 ⟨rfl, hb3⟩; obtain ⟨g5, g0, m0, m1, m2, m3, m4, m5, m6⟩ := HB.out w3 hb3)
                try (go_wp2_with fail)
                refine hK.out _ _ ?_ (fun hHeld => ?_)
                · ((try dsimp only); go_keep)
                clear hK K
                try simp only [Act.put, List.setIfInBounds_toArray, List.set_cons_zero, List.set_cons_succ]
                refine wpAnyH_take (i := 13) (v := ?_) (by simp only [List.getElem?_toArray, List.getElem?_cons_succ, List.getElem?_cons_zero]; rfl) (by kernel_rfl) (by kernel_rfl) (by kernel_rfl) (by exact fun _ _ _ h => h) (Or.inl ⟨by rfl, ?_⟩) (by assumption) ?_
                rotate_left 1
                · (intro wS hSw; (try dsimp only at hSw); go_simp; try (with_reducible rfl))
                try simp only [Act.put, List.setIfInBounds_toArray, List.set_cons_zero, List.set_cons_succ]
                refine wpAnyH_done (by kernel_rfl) ?_ _
                go_wp2
                go_roundw
                case rel => exact ⟨bel hb hb3, j + 1, by omega, by go_num, by rw [hb3.block _ (hlt HX2.out)]; exact HX2.out, by rw [HT.out]; exact HR.out.trans rfl⟩
                case measure => simp [intOf]; omega
              · have zr : (r == 0) = false := by simpa using hr0
                go_wp2
                refine wp_region_held_drew (S := (fun w' => w'.cell? ⟨w.heap.size, 5, none⟩ = some (.slice (some ⟨b1, o1, none⟩) n c) ∧ w'.cell? ⟨w.heap.size, 0, none⟩ = some (.int .i64 t.kind) ∧ w'.cell? ⟨b1, o1 + j * 7, none⟩ = some (.int .i64 t.args[j].kind) ∧ w'.cell? ⟨b1, o1 + j * 7 + 1, none⟩ = some (.string t.args[j].name) ∧ w'.cell? ⟨b1, o1 + j * 7 + 2, none⟩ = some (.int .u32 t.args[j].num) ∧ w'.cell? ⟨b1, o1 + j * 7 + 3, none⟩ = some (.int .i64 t.args[j].int_) ∧ w'.cell? ⟨b1, o1 + j * 7 + 4, none⟩ = some (.string t.args[j].key) ∧ w'.cell? ⟨b1, o1 + j * 7 + 5, none⟩ = some (.slice q1 t.args[j].args.length d1) ∧ w'.cell? ⟨b1, o1 + j * 7 + 6, none⟩ = some (.int .i64 t.args[j].at_))) (by kernel_rfl) ?_ (fun hHeld => ?_)
                · ((try dsimp only); go_keep)
                refine wpAnyH_take (i := 0) (v := ?_) (by simp only [List.getElem?_toArray, List.getElem?_cons_succ, List.getElem?_cons_zero]; rfl) (by kernel_rfl) (by kernel_rfl) (by kernel_rfl) (by exact fun _ _ _ h => h) (Or.inl ⟨by rfl, ?_⟩) (by assumption) ?_
                rotate_left 1
                · (intro wS hSw; (try dsimp only at hSw); go_simp; try (with_reducible rfl))
                try simp only [Act.put, List.setIfInBounds_toArray, List.set_cons_zero, List.set_cons_succ]
                refine wpAnyH_take (i := 1) (v := ?_) (by simp only [List.getElem?_toArray, List.getElem?_cons_succ, List.getElem?_cons_zero]; rfl) (by kernel_rfl) (by kernel_rfl) (by kernel_rfl) (by exact fun _ _ _ h => h) (Or.inl ⟨by rfl, ?_⟩) (by assumption) ?_
                rotate_left 1
                · (intro wS hSw; (try dsimp only at hSw); go_simp; try (with_reducible rfl))
                try simp only [Act.put, List.setIfInBounds_toArray, List.set_cons_zero, List.set_cons_succ]
                refine wpAnyH_take (i := 2) (v := ?_) (by simp only [List.getElem?_toArray, List.getElem?_cons_succ, List.getElem?_cons_zero]; rfl) (by kernel_rfl) (by kernel_rfl) (by kernel_rfl) (by exact fun _ _ _ h => h) (Or.inl ⟨by rfl, ?_⟩) (by assumption) ?_
                rotate_left 1
                · (intro wS hSw; (try dsimp only at hSw); go_simp; try (with_reducible rfl))
                try simp only [Act.put, List.setIfInBounds_toArray, List.set_cons_zero, List.set_cons_succ]
                refine wpAnyH_take (i := 3) (v := ?_) (by simp only [List.getElem?_toArray, List.getElem?_cons_succ, List.getElem?_cons_zero]; rfl) (by kernel_rfl) (by kernel_rfl) (by kernel_rfl) (by exact fun _ _ _ h => h) (Or.inl ⟨by rfl, ?_⟩) (by assumption) ?_
                rotate_left 1
                · (intro wS hSw; (try dsimp only at hSw); go_simp; try (with_reducible rfl))
                try simp only [Act.put, List.setIfInBounds_toArray, List.set_cons_zero, List.set_cons_succ]
                refine wpAnyH_take (i := 4) (v := ?_) (by simp only [List.getElem?_toArray, List.getElem?_cons_succ, List.getElem?_cons_zero]; rfl) (by kernel_rfl) (by kernel_rfl) (by kernel_rfl) (by exact fun _ _ _ h => h) (Or.inl ⟨by rfl, ?_⟩) (by assumption) ?_
                rotate_left 1
                · (intro wS hSw; (try dsimp only at hSw); go_simp; try (with_reducible rfl))
                try simp only [Act.put, List.setIfInBounds_toArray, List.set_cons_zero, List.set_cons_succ]
                refine wpAnyH_take (i := 5) (v := ?_) (by simp only [List.getElem?_toArray, List.getElem?_cons_succ, List.getElem?_cons_zero]; rfl) (by kernel_rfl) (by kernel_rfl) (by kernel_rfl) (by exact fun _ _ _ h => h) (Or.inl ⟨by rfl, ?_⟩) (by assumption) ?_
                rotate_left 1
                · (intro wS hSw; (try dsimp only at hSw); go_simp; try (with_reducible rfl))
                try simp only [Act.put, List.setIfInBounds_toArray, List.set_cons_zero, List.set_cons_succ]
                refine wpAnyH_take (i := 6) (v := ?_) (by simp only [List.getElem?_toArray, List.getElem?_cons_succ, List.getElem?_cons_zero]; rfl) (by kernel_rfl) (by kernel_rfl) (by kernel_rfl) (by exact fun _ _ _ h => h) (Or.inl ⟨by rfl, ?_⟩) (by assumption) ?_
                rotate_left 1
                · (intro wS hSw; (try dsimp only at hSw); go_simp; try (with_reducible rfl))
                try simp only [Act.put, List.setIfInBounds_toArray, List.set_cons_zero, List.set_cons_succ]
                refine wpAnyH_take (i := 7) (v := ?_) (by simp only [List.getElem?_toArray, List.getElem?_cons_succ, List.getElem?_cons_zero]; rfl) (by kernel_rfl) (by kernel_rfl) (by kernel_rfl) (by exact fun _ _ _ h => h) (Or.inl ⟨by rfl, ?_⟩) (by assumption) ?_
                rotate_left 1
                · (intro wS hSw; (try dsimp only at hSw); go_simp; try (with_reducible rfl))
                try simp only [Act.put, List.setIfInBounds_toArray, List.set_cons_zero, List.set_cons_succ]
                refine wpAnyH_take (i := 8) (v := ?_) (by simp only [List.getElem?_toArray, List.getElem?_cons_succ, List.getElem?_cons_zero]; rfl) (by kernel_rfl) (by kernel_rfl) (by kernel_rfl) (by exact fun _ _ _ h => h) (Or.inl ⟨by rfl, ?_⟩) (by assumption) ?_
                rotate_left 1
                · (intro wS hSw; (try dsimp only at hSw); go_simp; try (with_reducible rfl))
                try simp only [Act.put, List.setIfInBounds_toArray, List.set_cons_zero, List.set_cons_succ]
                refine wpAnyH_take (i := 9) (v := undef) (by simp only [List.getElem?_toArray, List.getElem?_cons_succ, List.getElem?_cons_zero]; rfl) (by kernel_rfl) (by kernel_rfl) (by kernel_rfl) (by exact fun _ _ _ h => h) (Or.inr ⟨by rfl, rfl⟩) (by assumption) ?_
                try simp only [Act.put, List.setIfInBounds_toArray, List.set_cons_zero, List.set_cons_succ]
                refine wpAnyH_take (i := 10) (v := undef) (by simp only [List.getElem?_toArray, List.getElem?_cons_succ, List.getElem?_cons_zero]; rfl) (by kernel_rfl) (by kernel_rfl) (by kernel_rfl) (by exact fun _ _ _ h => h) (Or.inr ⟨by rfl, rfl⟩) (by assumption) ?_
                try simp only [Act.put, List.setIfInBounds_toArray, List.set_cons_zero, List.set_cons_succ]
                refine wpAnyH_take (i := 11) (v := ?_) (by simp only [List.getElem?_toArray, List.getElem?_cons_succ, List.getElem?_cons_zero]; rfl) (by kernel_rfl) (by kernel_rfl) (by kernel_rfl) (by exact fun _ _ _ h => h) (Or.inl ⟨by rfl, ?_⟩) (by assumption) ?_
                rotate_left 1
                · (intro wS hSw; (try dsimp only at hSw); go_simp; try (with_reducible rfl))
                try simp only [Act.put, List.setIfInBounds_toArray, List.set_cons_zero, List.set_cons_succ]
                clear hHeld
                refine wpAnyH_ready (rs := [12]) (by kernel_rfl) (by simp) ?_
                refine AllReadyH.cons (i := 12) (by simp only [List.getElem?_toArray, List.getElem?_cons_succ, List.getElem?_cons_zero]; rfl) (fun K hK => ?_) AllReadyH.nil
                go_simp
                (go_at_call 26; (with_reducible refine (HWB.out _ ?_).mono ?_); (first | exact bel_d _ | exact bel_dn _ _ | go_grown); rintro e w3 ⟨rfl, hb3⟩; obtain ⟨g5, g0, m0, m1, m2, m3, m4, m5, m6⟩ := HB.out w3 hb3)
                try (go_wp2_with fail)
                refine hK.out _ _ ?_ (fun hHeld => ?_)
                · ((try dsimp only); go_keep)
                clear hK K
                try simp only [Act.put, List.setIfInBounds_toArray, List.set_cons_zero, List.set_cons_succ]
                refine wpAnyH_take (i := 13) (v := ?_) (by simp only [List.getElem?_toArray, List.getElem?_cons_succ, List.getElem?_cons_zero]; rfl) (by kernel_rfl) (by kernel_rfl) (by kernel_rfl) (by exact fun _ _ _ h => h) (Or.inl ⟨by rfl, ?_⟩) (by assumption) ?_
                rotate_left 1
                · (intro wS hSw; (try dsimp only at hSw); go_simp; try (with_reducible rfl))
                try simp only [Act.put, List.setIfInBounds_toArray, List.set_cons_zero, List.set_cons_succ]
                refine wpAnyH_done (by kernel_rfl) ?_ _
                go_wp2
                go_ret
                refine ⟨ret_int ?_, bel hb hb3⟩
                rw [wkL_stop gCheck (i := j + 1) (by omega) _ _ _ (by rw [HT.out]; exact HR.out.trans zr), HT.out]
                exact HR2.out.symm
          · have : j = n := by omega
            subst this
            go_wp2
            go_ret
            refine ⟨ret_int ?_, hb⟩
            have h1 := hS.out
            rw [List.take_of_length_le (by rw [HN.out]; exact Nat.le_refl _)] at h1
            rw [wkL_check] at h1
            symm
            simpa using h1)

end Go.Proofs.Ytbmkddmmclndcaa
/- The order of binary32, by value; signs turned. -/
namespace Go.Proofs.Ytbmkddmmclndcaa
set_option linter.unusedVariables false

theorem fneg_lo (a : Int) (h0 : 0 ≤ a) (h1 : a < 4294967296) : 0 ≤ fneg a ∧ fneg a < 4294967296 := by
  have h : 0 ≤ (if 2147483648 ≤ a then a - 2147483648 else a + 2147483648) ∧ (if 2147483648 ≤ a then a - 2147483648 else a + 2147483648) < 4294967296 := by split <;> omega
  exact canon_lo _ h.1 h.2
end Go.Proofs.Ytbmkddmmclndcaa
