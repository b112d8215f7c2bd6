import Derived.Test.YtpidjmgifglmiabTreeBytes
/- Package tree: which nodes may be. -/
namespace Go.Proofs.Ytpidjmgifglmiab
open Go.RowKit
set_option linter.unusedVariables false
set_option linter.unusedSimpArgs false

def finP (a : Int) : Bool := decide (a % 2147483648 < 2139095040)
def novP (t : Nd) : Bool := t.num == 0 && t.int_ == 0
def bindsP : List Nd → Bool
  | [v, r] => v.kind != 6 && (r.kind == 6 || r.kind == 1) && v.key.toList.isEmpty && r.key.toList.isEmpty
  | _ => false
def kindP (t : Nd) : Bool :=
  if t.kind = 1 then nameP t.name && novP t
  else if t.kind = 2 then t.name.toList.isEmpty && finP t.num && t.int_ == 0 && (t.args.length : Int) == 0
  else if t.kind = 3 then t.name.toList.isEmpty && t.num == 0 && decide (-2147483647 ≤ t.int_) && decide (t.int_ ≤ 2147483647) && (t.args.length : Int) == 0
  else if t.kind = 4 then nameP t.name && novP t && (t.args.length : Int) == 0
  else if t.kind = 5 then textP t.name && novP t && (t.args.length : Int) == 0
  else if t.kind = 6 then nameP t.name && !(t.name.toList == [116, 114, 117, 101]) && !(t.name.toList == [102, 97, 108, 115, 101]) && novP t && bindsP t.args
  else false

set_option maxHeartbeats 400000 in
theorem hasNoValue_any (b o : Nat) (x i : Int) (w : World) (h2 : w.cell? ⟨b, o + 2, none⟩ = some (.int .u32 x)) (h3 : w.cell? ⟨b, o + 3, none⟩ = some (.int .i64 i)) :
    Calls Try.prog 39 #[.pointer (some ⟨b, o, none⟩)] w fun e w' => e = .returned (.bool (x == 0 && i == 0)) ∧ w' = w := by
  go_enter Try.func39, Try.ntmps39
  go_wp2
  all_goals (go_ret; refine ⟨ret_bool ?_, rfl⟩; simp_all)

set_option maxHeartbeats 400000 in
theorem isFinite_any (a : Int) (h0 : 0 ≤ a) (h1 : a < 4294967296) (w : World) :
    Calls Try.prog 40 #[.int .u32 a] w fun e w' => e = .returned (.bool (finP a)) ∧ w' = w := by
  have K : finP a = (cls a != 4 && cls a != 5) := by
    unfold finP cls
    rw [Bool.eq_iff_iff]
    split
    · split <;> simp <;> omega
    · split
      · split <;> simp <;> omega
      · simp; omega
  rw [K]
  obtain ⟨c, hc⟩ : ∃ c, cls a = c := ⟨_, rfl⟩
  have KC := class_any a h0 h1
  rw [hc] at KC ⊢
  have HK : Hid (∀ w, Calls Try.prog 45 #[.int .u32 a] w fun e w' => e = .returned (.int .i64 c) ∧ w' = w) := KC
  clear KC hc K
  go_enter Try.func40, Try.ntmps40
  go_wp2_with (go_at_call 45; refine (HK.out _).mono ?_; rintro e w1 ⟨rfl, rfl⟩)
  all_goals (go_ret; refine ⟨ret_bool ?_, rfl⟩; simp_all)

set_option maxHeartbeats 400000 in
theorem keyMayBe_none (s : ByteArray) (w : World) :
    Calls Try.prog 35 #[.string s, .pointer none] w fun e w' => e = .returned (.bool s.toList.isEmpty) ∧ w' = w := by
  go_enter Try.func35, Try.ntmps35
  go_wp2
  all_goals (go_ret; refine ⟨ret_bool ?_, rfl⟩; simp_all)

set_option maxHeartbeats 400000 in
theorem keyMayBe_some (s : ByteArray) (hs : s.size ≤ 140737488351232) (b o : Nat) (w : World) :
    Calls Try.prog 35 #[.string s, .pointer (some ⟨b, o, none⟩)] w fun e w' => e = .returned (.bool (s.toList.isEmpty || nameP s)) ∧ w' = w := by
  go_enter Try.func35, Try.ntmps35
  go_wp2_with (go_at_call 38; refine (isName_any _ hs _).mono ?_; rintro e w1 ⟨rfl, rfl⟩)
  all_goals (go_ret; refine ⟨ret_bool ?_, rfl⟩; simp_all)

set_option maxHeartbeats 400000 in
theorem standsWell_none (b o : Nat) (k : Int) (w : World) (h0 : w.cell? ⟨b, o, none⟩ = some (.int .i64 k)) :
    Calls Try.prog 37 #[.pointer (some ⟨b, o, none⟩), .pointer none] w fun e w' => e = .returned (.bool true) ∧ w' = w := by
  go_enter Try.func37, Try.ntmps37
  go_wp2
  all_goals (go_ret; refine ⟨ret_bool ?_, rfl⟩; simp_all)

set_option maxHeartbeats 400000 in
theorem standsWell_some (b o : Nat) (k : Int) (b' o' : Nat) (k' : Int) (w : World) (h0 : w.cell? ⟨b, o, none⟩ = some (.int .i64 k)) (h1 : w.cell? ⟨b', o', none⟩ = some (.int .i64 k')) :
    Calls Try.prog 37 #[.pointer (some ⟨b, o, none⟩), .pointer (some ⟨b', o', none⟩)] w fun e w' => e = .returned (.bool (k != 6 || k' == 6)) ∧ w' = w := by
  go_enter Try.func37, Try.ntmps37
  go_wp2
  all_goals (go_ret; refine ⟨ret_bool ?_, rfl⟩; simp_all)

set_option maxRecDepth 100000 in
set_option maxHeartbeats 1000000 in
theorem bindsWell_any (p : Option Addr) (c : Nat) (l : List Nd) (hl : l.length ≤ 9000) (w : World) (hk : Kids w anyH (.slice p l.length c) l) :
    Calls Try.prog 42 #[.slice p l.length c] w fun e w' => e = .returned (.bool (bindsP l)) ∧ Below w.heap.size w w' := by
  by_cases h2 : l.length = 2
  · obtain ⟨p', c', hv, -, hk⟩ := hk
    match l, h2, hk with
    | [v, r], _, hk0 =>
      rcases hk0 with hka | ⟨b, o, hp, hka⟩
      · cases hka
      simp only [Value.slice.injEq] at hv
      obtain ⟨rfl, -, -⟩ := hv
      subst hp
      have hk1 := KA_cons.1 hka
      have hk2 := KA_cons.1 hk1.2
      obtain ⟨v0, -, -, -, v4, -, -⟩ := hk1.1
      obtain ⟨r0, -, -, -, r4, -, -⟩ := hk2.1
      clear hka hk1 hk2
      obtain ⟨vk, vn, vx, vi, vy, vl, va⟩ := v
      obtain ⟨rk, rn, rx, ri, ry, rl, ra⟩ := r
      show Calls Try.prog 42 #[.slice (some ⟨b, o, none⟩) 2 c] w fun e w' => e = .returned (.bool (vk != 6 && (rk == 6 || rk == 1) && vy.toList.isEmpty && ry.toList.isEmpty)) ∧ Below w.heap.size w w'
      simp only at v0 v4 r0 r4
      go_enter Try.func42, Try.ntmps42
      go_wp2
      go_quiet (fail)
      go_wp2
      all_goals (go_ret; refine ⟨ret_bool ?_, bel_dn _ _⟩; simp_all)
  · have e : bindsP l = false := by
      unfold bindsP
      split
      · simp at h2
      · rfl
    rw [e]
    obtain ⟨n, hn⟩ : ∃ n, l.length = n := ⟨_, rfl⟩
    rw [hn] at hl h2 ⊢
    have z : ¬ ((n : Int) = 2) := by omega
    clear hk e hn
    go_enter Try.func42, Try.ntmps42
    go_wp2
    go_ret
    exact ⟨rfl, bel0 w⟩

/-- The error of one node, where none ahead of it has one. -/
def keyP (y : ByteArray) (u : Option Nd) : Bool := match u with | none => y.toList.isEmpty | some _ => y.toList.isEmpty || nameP y
def standsP (k : Int) (u : Option Nd) : Bool := match u with | none => true | some a => k != 6 || a.kind == 6
def judgeP (t : Nd) (u : Option Nd) : Int :=
  if 64 < t.name.size ∨ 64 < t.key.size then 2 else if keyP t.key u && kindP t && standsP t.kind u then 0 else 70

set_option maxRecDepth 100000 in
set_option maxHeartbeats 4000000 in
theorem kindMayBe_any (b o : Nat) (t : Nd) (w : World) (hc : cnt t ≤ 9000) (hok : ok1 t) (hn : NodeA w anyH b o t) :
    Calls Try.prog 36 #[.pointer (some ⟨b, o, none⟩)] w fun e w' => e = .returned (.bool (kindP t)) ∧ Below w.heap.size w w' := by
  obtain ⟨⟨s1, s2, x0, x1⟩, -⟩ := hok
  obtain ⟨e0, e1, e2, e3, e4, e6, sv, e5, hk⟩ := hn
  have hlen : t.args.length ≤ 9000 := by have := cntL_len t.args; unfold cnt at hc; omega
  obtain ⟨p, c, rfl, hq, hk'⟩ := hk
  have HB : Hid (∀ v, Below w.heap.size w v → Calls Try.prog 42 #[.slice p t.args.length c] v fun e v' => e = .returned (.bool (bindsP t.args)) ∧ Below v.heap.size v v') := fun v hv => bindsWell_any p c t.args hlen v (Kids.below ⟨p, c, rfl, hq, hk'⟩ hv)
  clear hk' hq hc
  obtain ⟨k, nm, x, i, y, l, a⟩ := t
  simp only at *
  unfold kindP novP
  simp only
  clear e4 e6
  obtain ⟨np, hnp⟩ : ∃ np, nameP nm = np := ⟨_, rfl⟩
  obtain ⟨tp, htp⟩ : ∃ tp, textP nm = tp := ⟨_, rfl⟩
  obtain ⟨fp, hfp⟩ : ∃ fp, finP x = fp := ⟨_, rfl⟩
  have K1 := isName_any nm s1
  have K2 := isText_any nm s1
  have K3 := isFinite_any x x0 x1
  rw [hnp] at K1 ⊢
  rw [htp] at K2 ⊢
  rw [hfp] at K3 ⊢
  have H1 : Hid (∀ w, Calls Try.prog 38 #[.string nm] w fun e w' => e = .returned (.bool np) ∧ w' = w) := K1
  have H2 : Hid (∀ w, Calls Try.prog 41 #[.string nm] w fun e w' => e = .returned (.bool tp) ∧ w' = w) := K2
  have H3 : Hid (∀ w, Calls Try.prog 40 #[.int .u32 x] w fun e w' => e = .returned (.bool fp) ∧ w' = w) := K3
  clear hnp htp hfp K1 K2 K3 s1 s2 x0 x1
  by_cases k1 : k = 1
  · subst k1
    rw [if_pos rfl]
    go_enter Try.func36, Try.ntmps36
    go_wp2_with (first | (go_at_call 38; refine (H1.out _).mono ?_; rintro e w1 ⟨rfl, rfl⟩) | (go_at_call 39; refine (hasNoValue_any b o x i _ e2 e3).mono ?_; rintro e w1 ⟨rfl, rfl⟩))
    all_goals (go_ret; refine ⟨ret_bool ?_, bel0 _⟩; simp_all)
  rw [if_neg k1]
  by_cases k2 : k = 2
  · subst k2
    rw [if_pos rfl]
    go_enter Try.func36, Try.ntmps36
    go_wp2_with (first | (go_at_call 40; refine (H3.out _).mono ?_; rintro e w1 ⟨rfl, rfl⟩))
    all_goals (go_ret; refine ⟨ret_bool ?_, bel0 _⟩; simp_all)
  rw [if_neg k2]
  by_cases k3 : k = 3
  · subst k3
    rw [if_pos rfl]
    go_enter Try.func36, Try.ntmps36
    go_wp2
    all_goals (go_ret; refine ⟨ret_bool ?_, bel0 _⟩; first | (simp_all; done) | (simp_all; intros; omega))
  rw [if_neg k3]
  by_cases k4 : k = 4
  · subst k4
    rw [if_pos rfl]
    go_enter Try.func36, Try.ntmps36
    go_wp2_with (first | (go_at_call 38; refine (H1.out _).mono ?_; rintro e w1 ⟨rfl, rfl⟩) | (go_at_call 39; refine (hasNoValue_any b o x i _ e2 e3).mono ?_; rintro e w1 ⟨rfl, rfl⟩))
    all_goals (go_ret; refine ⟨ret_bool ?_, bel0 _⟩; simp_all)
  rw [if_neg k4]
  by_cases k5 : k = 5
  · subst k5
    rw [if_pos rfl]
    go_enter Try.func36, Try.ntmps36
    go_wp2_with (first | (go_at_call 41; refine (H2.out _).mono ?_; rintro e w1 ⟨rfl, rfl⟩) | (go_at_call 39; refine (hasNoValue_any b o x i _ e2 e3).mono ?_; rintro e w1 ⟨rfl, rfl⟩))
    all_goals (go_ret; refine ⟨ret_bool ?_, bel0 _⟩; simp_all)
  rw [if_neg k5]
  by_cases k6 : k = 6
  · subst k6
    rw [if_pos rfl]
    go_enter Try.func36, Try.ntmps36
    go_wp2_with (first | (go_at_call 38; refine (H1.out _).mono ?_; rintro e w1 ⟨rfl, rfl⟩) | (go_at_call 39; refine (hasNoValue_any b o x i _ e2 e3).mono ?_; rintro e w1 ⟨rfl, rfl⟩) | (go_at_call 42; refine (HB.out _ (bel0 _)).mono ?_; rintro e w1 ⟨rfl, hb1⟩))
    all_goals (go_ret; refine ⟨ret_bool ?_, (by first | exact hb1 | exact bel0 _)⟩; simp_all)
  rw [if_neg k6]
  go_enter Try.func36, Try.ntmps36
  go_wp2
  go_ret
  exact ⟨rfl, bel0 _⟩

end Go.Proofs.Ytpidjmgifglmiab
