import Derived.Test.YtpidcmfmdgppbaaVecSure
/- The document's Apply. -/
namespace Go.Proofs.Ytpidcmfmdgppbaa
open Go.RowKit
set_option linter.unusedVariables false

/-- The reference's length: what it takes for the common one. -/
def rn (l : Nat → Nat) : Nat → Nat
  | 0 => l 0
  | j + 1 => if rn l j = 1 ∨ l j = 0 then l j else rn l j
theorem rn_le {l : Nat → Nat} {N : Nat} (hl : ∀ i, l i ≤ N) : ∀ j, rn l j ≤ N
  | 0 => hl 0
  | j + 1 => by
    unfold rn
    split
    · exact hl j
    · exact rn_le hl j
theorem rn_shp {l : Nat → Nat} : ∀ {M n : Nat}, shp l M = some n → rn l (M + 1) = n := by
  intro M
  induction M with
  | zero => intro n h; cases h; show (if l 0 = 1 ∨ l 0 = 0 then l 0 else l 0) = l 0; split <;> rfl
  | succ M ih =>
    intro n h
    cases e : shp l M with
    | none => rw [shp_none e (M + 1) (by omega)] at h; cases h
    | some k =>
      rw [shp_succ e] at h
      have hk := ih e
      show (if rn l (M + 1) = 1 ∨ l (M + 1) = 0 then l (M + 1) else rn l (M + 1)) = n
      rw [hk]
      split at h
      · cases h; split <;> omega
      · split at h
        · cases h
        · split at h
          · cases h; rw [if_pos (by omega)]
          · split at h
            · cases h; rw [if_neg (by omega)]
            · cases h
def good (l : Nat → Nat) (n i : Nat) : Prop := l i = n ∨ (l i = 1 ∧ n ≠ 0)
theorem shp_good {l : Nat → Nat} {n : Nat} : ∀ M, (∀ i, i ≤ M → good l n i) → ∃ s, shp l M = some s ∧ (s = n ∨ (s = 1 ∧ n ≠ 0)) := by
  intro M
  induction M with
  | zero => intro h; exact ⟨l 0, rfl, h 0 (Nat.le_refl _)⟩
  | succ M ih =>
    intro h
    obtain ⟨s, e, hs⟩ := ih fun i hi => h i (by omega)
    have hL := h (M + 1) (Nat.le_refl _)
    unfold good at hL
    rw [shp_succ e]
    by_cases c1 : l (M + 1) = s
    · rw [if_pos c1]; exact ⟨s, rfl, hs⟩
    · rw [if_neg c1, if_neg (by omega)]
      by_cases c2 : s = 1
      · rw [if_pos c2]; exact ⟨_, rfl, hL⟩
      · rw [if_neg c2]
        by_cases c3 : l (M + 1) = 1
        · rw [if_pos c3]; exact ⟨s, rfl, hs⟩
        · omega

theorem rtakes_3 (w : World) : Calls Try.prog 43 #[.int .i64 3] w fun e w' => e = .returned (.int .i64 1) ∧ w' = w := by
  go_enter Try.func43, Try.ntmps43
  go_wp2
  go_ret
  exact ⟨rfl, rfl⟩

theorem rtakes_11 (w : World) : Calls Try.prog 43 #[.int .i64 11] w fun e w' => e = .returned (.int .i64 1) ∧ w' = w := by
  go_enter Try.func43, Try.ntmps43
  go_wp2
  go_ret
  exact ⟨rfl, rfl⟩

theorem rtakes_12 (w : World) : Calls Try.prog 43 #[.int .i64 12] w fun e w' => e = .returned (.int .i64 1) ∧ w' = w := by
  go_enter Try.func43, Try.ntmps43
  go_wp2
  go_ret
  exact ⟨rfl, rfl⟩

theorem rtakes_13 (w : World) : Calls Try.prog 43 #[.int .i64 13] w fun e w' => e = .returned (.int .i64 1) ∧ w' = w := by
  go_enter Try.func43, Try.ntmps43
  go_wp2
  go_ret
  exact ⟨rfl, rfl⟩

theorem rtakes_14 (w : World) : Calls Try.prog 43 #[.int .i64 14] w fun e w' => e = .returned (.int .i64 1) ∧ w' = w := by
  go_enter Try.func43, Try.ntmps43
  go_wp2
  go_ret
  exact ⟨rfl, rfl⟩

theorem rtakes_4 (w : World) : Calls Try.prog 43 #[.int .i64 4] w fun e w' => e = .returned (.int .i64 2) ∧ w' = w := by
  go_enter Try.func43, Try.ntmps43
  go_wp2
  go_ret
  exact ⟨rfl, rfl⟩

theorem rtakes_5 (w : World) : Calls Try.prog 43 #[.int .i64 5] w fun e w' => e = .returned (.int .i64 2) ∧ w' = w := by
  go_enter Try.func43, Try.ntmps43
  go_wp2
  go_ret
  exact ⟨rfl, rfl⟩

theorem rtakes_6 (w : World) : Calls Try.prog 43 #[.int .i64 6] w fun e w' => e = .returned (.int .i64 2) ∧ w' = w := by
  go_enter Try.func43, Try.ntmps43
  go_wp2
  go_ret
  exact ⟨rfl, rfl⟩

theorem rtakes_7 (w : World) : Calls Try.prog 43 #[.int .i64 7] w fun e w' => e = .returned (.int .i64 2) ∧ w' = w := by
  go_enter Try.func43, Try.ntmps43
  go_wp2
  go_ret
  exact ⟨rfl, rfl⟩

theorem rtakes_8 (w : World) : Calls Try.prog 43 #[.int .i64 8] w fun e w' => e = .returned (.int .i64 2) ∧ w' = w := by
  go_enter Try.func43, Try.ntmps43
  go_wp2
  go_ret
  exact ⟨rfl, rfl⟩

theorem rtakes_9 (w : World) : Calls Try.prog 43 #[.int .i64 9] w fun e w' => e = .returned (.int .i64 2) ∧ w' = w := by
  go_enter Try.func43, Try.ntmps43
  go_wp2
  go_ret
  exact ⟨rfl, rfl⟩

theorem rtakes_10 (w : World) : Calls Try.prog 43 #[.int .i64 10] w fun e w' => e = .returned (.int .i64 2) ∧ w' = w := by
  go_enter Try.func43, Try.ntmps43
  go_wp2
  go_ret
  exact ⟨rfl, rfl⟩

theorem rtakes_15 (w : World) : Calls Try.prog 43 #[.int .i64 15] w fun e w' => e = .returned (.int .i64 3) ∧ w' = w := by
  go_enter Try.func43, Try.ntmps43
  go_wp2
  go_ret
  exact ⟨rfl, rfl⟩

set_option maxHeartbeats 1000000 in
theorem rtakes_no (op : Int) (h : takes op = 0) (w : World) : Calls Try.prog 43 #[.int .i64 op] w fun e w' => e = .returned (.int .i64 0) ∧ w' = w := by
  have n1 : ¬ (op = 3 ∨ op = 11 ∨ op = 12 ∨ op = 13 ∨ op = 14) := fun c => by unfold takes at h; rw [if_pos c] at h; cases h
  have n2 : ¬ (op = 4 ∨ op = 5 ∨ op = 6 ∨ op = 7 ∨ op = 8 ∨ op = 9 ∨ op = 10) := fun c => by unfold takes at h; rw [if_neg n1, if_pos c] at h; cases h
  have n3 : ¬ (op = 15) := fun c => by unfold takes at h; rw [if_neg n1, if_neg n2, if_pos c] at h; cases h
  simp only [not_or] at n1 n2
  obtain ⟨a1, a2, a3, a4, a5⟩ := n1
  obtain ⟨b1, b2, b3, b4, b5, b6, b7⟩ := n2
  clear h
  go_enter Try.func43, Try.ntmps43
  go_wp2
  go_ret
  exact ⟨rfl, rfl⟩

theorem rtakes_any (op : Int) (w : World) : Calls Try.prog 43 #[.int .i64 op] w fun e w' => e = .returned (.int .i64 (takes op : Nat)) ∧ w' = w := by
  by_cases h : takes op = 0
  · rw [h]; exact rtakes_no op h w
  · rcases takes_cases op h with rfl | rfl | rfl | rfl | rfl | rfl | rfl | rfl | rfl | rfl | rfl | rfl | rfl
    · exact rtakes_3 w
    · exact rtakes_11 w
    · exact rtakes_12 w
    · exact rtakes_13 w
    · exact rtakes_14 w
    · exact rtakes_4 w
    · exact rtakes_5 w
    · exact rtakes_6 w
    · exact rtakes_7 w
    · exact rtakes_8 w
    · exact rtakes_9 w
    · exact rtakes_10 w
    · exact rtakes_15 w

theorem rflag_any (b : Bool) (w : World) : Calls Try.prog 85 #[.bool b] w fun e w' => e = .returned (.int .i64 (flag b)) ∧ w' = w := by
  cases b <;> (go_enter Try.func85, Try.ntmps85; go_wp2; go_ret; exact ⟨rfl, rfl⟩)

set_option maxHeartbeats 400000 in
theorem rdo_3 (a b c : Int) (ha : IsP a) (hb : IsP b) (hc : IsP c) (w : World) : Calls Try.prog 45 #[.int .i64 3, .int .i64 a, .int .i64 b, .int .i64 c] w fun e w' => e = .returned (.int .i64 (opf 3 a b c)) ∧ Below w.heap.size w w' := by
  go_enter Try.func45, Try.ntmps45
  go_wp2_with (first | (go_at_call 61; refine (rcanon_any _ ha.1 ha.2 _).mono ?_; rintro e w1 ⟨rfl, hw1⟩; obtain rfl := hw1.symm))
  go_ret
  exact ⟨rfl, bel0 _⟩

set_option maxHeartbeats 400000 in
theorem rdo_11 (a b c : Int) (ha : IsP a) (hb : IsP b) (hc : IsP c) (w : World) : Calls Try.prog 45 #[.int .i64 11, .int .i64 a, .int .i64 b, .int .i64 c] w fun e w' => e = .returned (.int .i64 (opf 11 a b c)) ∧ Below w.heap.size w w' := by
  go_enter Try.func45, Try.ntmps45
  go_wp2_with (first | (go_at_call 58; refine (rsqrt_any _ ha.1 ha.2 _).mono ?_; rintro e w1 ⟨rfl, hb1⟩))
  go_ret
  exact ⟨rfl, hb1⟩

set_option maxHeartbeats 400000 in
theorem rdo_12 (a b c : Int) (ha : IsP a) (hb : IsP b) (hc : IsP c) (w : World) : Calls Try.prog 45 #[.int .i64 12, .int .i64 a, .int .i64 b, .int .i64 c] w fun e w' => e = .returned (.int .i64 (opf 12 a b c)) ∧ Below w.heap.size w w' := by
  go_enter Try.func45, Try.ntmps45
  go_wp2_with (first | (go_at_call 83; refine (rneg_any _ ha.1 ha.2 _).mono ?_; rintro e w1 ⟨rfl, hb1⟩))
  go_ret
  exact ⟨rfl, hb1⟩

set_option maxHeartbeats 400000 in
theorem rdo_13 (a b c : Int) (ha : IsP a) (hb : IsP b) (hc : IsP c) (w : World) : Calls Try.prog 45 #[.int .i64 13, .int .i64 a, .int .i64 b, .int .i64 c] w fun e w' => e = .returned (.int .i64 (opf 13 a b c)) ∧ Below w.heap.size w w' := by
  go_enter Try.func45, Try.ntmps45
  go_wp2_with (first | (go_at_call 84; refine (rabs_any _ ha.1 ha.2 _).mono ?_; rintro e w1 ⟨rfl, hb1⟩))
  go_ret
  exact ⟨rfl, hb1⟩

set_option maxHeartbeats 400000 in
theorem rdo_14 (a b c : Int) (ha : IsP a) (hb : IsP b) (hc : IsP c) (w : World) : Calls Try.prog 45 #[.int .i64 14, .int .i64 a, .int .i64 b, .int .i64 c] w fun e w' => e = .returned (.int .i64 (opf 14 a b c)) ∧ Below w.heap.size w w' := by
  go_enter Try.func45, Try.ntmps45
  go_wp2_with (first | (go_at_call 69; refine (rfin1_any _ ha _).mono ?_; rintro e w1 ⟨rfl, hw1⟩; obtain rfl := hw1.symm) | (go_at_call 85; refine (rflag_any _ _).mono ?_; rintro e w1 ⟨rfl, hw1⟩; obtain rfl := hw1.symm))
  go_ret
  exact ⟨rfl, bel0 _⟩

set_option maxHeartbeats 400000 in
theorem rdo_4 (a b c : Int) (ha : IsP a) (hb : IsP b) (hc : IsP c) (w : World) : Calls Try.prog 45 #[.int .i64 4, .int .i64 a, .int .i64 b, .int .i64 c] w fun e w' => e = .returned (.int .i64 (opf 4 a b c)) ∧ Below w.heap.size w w' := by
  go_enter Try.func45, Try.ntmps45
  go_wp2_with (first | (go_at_call 47; refine (radd_any _ ha.1 ha.2 _ hb.1 hb.2 _).mono ?_; rintro e w1 ⟨rfl, hb1⟩))
  go_ret
  exact ⟨rfl, hb1⟩

set_option maxHeartbeats 400000 in
theorem rdo_5 (a b c : Int) (ha : IsP a) (hb : IsP b) (hc : IsP c) (w : World) : Calls Try.prog 45 #[.int .i64 5, .int .i64 a, .int .i64 b, .int .i64 c] w fun e w' => e = .returned (.int .i64 (opf 5 a b c)) ∧ Below w.heap.size w w' := by
  go_enter Try.func45, Try.ntmps45
  go_wp2_with (first | (go_at_call 86; refine (rsub_any _ ha.1 ha.2 _ hb.1 hb.2 _).mono ?_; rintro e w1 ⟨rfl, hb1⟩))
  go_ret
  exact ⟨rfl, hb1⟩

set_option maxHeartbeats 400000 in
theorem rdo_6 (a b c : Int) (ha : IsP a) (hb : IsP b) (hc : IsP c) (w : World) : Calls Try.prog 45 #[.int .i64 6, .int .i64 a, .int .i64 b, .int .i64 c] w fun e w' => e = .returned (.int .i64 (opf 6 a b c)) ∧ Below w.heap.size w w' := by
  go_enter Try.func45, Try.ntmps45
  go_wp2_with (first | (go_at_call 48; refine (rmul_any _ ha.1 ha.2 _ hb.1 hb.2 _).mono ?_; rintro e w1 ⟨rfl, hb1⟩))
  go_ret
  exact ⟨rfl, hb1⟩

set_option maxHeartbeats 400000 in
theorem rdo_7 (a b c : Int) (ha : IsP a) (hb : IsP b) (hc : IsP c) (w : World) : Calls Try.prog 45 #[.int .i64 7, .int .i64 a, .int .i64 b, .int .i64 c] w fun e w' => e = .returned (.int .i64 (opf 7 a b c)) ∧ Below w.heap.size w w' := by
  go_enter Try.func45, Try.ntmps45
  go_wp2_with (first | (go_at_call 53; refine (rdiv_any _ ha.1 ha.2 _ hb.1 hb.2 _).mono ?_; rintro e w1 ⟨rfl, hb1⟩))
  go_ret
  exact ⟨rfl, hb1⟩

set_option maxHeartbeats 400000 in
theorem rdo_8 (a b c : Int) (ha : IsP a) (hb : IsP b) (hc : IsP c) (w : World) : Calls Try.prog 45 #[.int .i64 8, .int .i64 a, .int .i64 b, .int .i64 c] w fun e w' => e = .returned (.int .i64 (opf 8 a b c)) ∧ Below w.heap.size w w' := by
  go_enter Try.func45, Try.ntmps45
  go_wp2_with (first | (go_at_call 63; refine (rmin_any _ ha.1 ha.2 _ hb.1 hb.2 _).mono ?_; rintro e w1 ⟨rfl, hb1⟩))
  go_ret
  exact ⟨rfl, hb1⟩

set_option maxHeartbeats 400000 in
theorem rdo_9 (a b c : Int) (ha : IsP a) (hb : IsP b) (hc : IsP c) (w : World) : Calls Try.prog 45 #[.int .i64 9, .int .i64 a, .int .i64 b, .int .i64 c] w fun e w' => e = .returned (.int .i64 (opf 9 a b c)) ∧ Below w.heap.size w w' := by
  go_enter Try.func45, Try.ntmps45
  go_wp2_with (first | (go_at_call 65; refine (rmax_any _ ha.1 ha.2 _ hb.1 hb.2 _).mono ?_; rintro e w1 ⟨rfl, hb1⟩))
  go_ret
  exact ⟨rfl, hb1⟩

set_option maxHeartbeats 400000 in
theorem rdo_10 (a b c : Int) (ha : IsP a) (hb : IsP b) (hc : IsP c) (w : World) : Calls Try.prog 45 #[.int .i64 10, .int .i64 a, .int .i64 b, .int .i64 c] w fun e w' => e = .returned (.int .i64 (opf 10 a b c)) ∧ Below w.heap.size w w' := by
  go_enter Try.func45, Try.ntmps45
  go_wp2_with (first | (go_at_call 87; refine (rless_any _ ha.1 ha.2 _ hb.1 hb.2 _).mono ?_; rintro e w1 ⟨rfl, hb1⟩) | (go_at_call 85; refine (rflag_any _ _).mono ?_; rintro e w2 ⟨rfl, hw2⟩; obtain rfl := hw2.symm))
  go_ret
  exact ⟨rfl, hb1⟩

set_option maxHeartbeats 400000 in
theorem rdo_15 (a b c : Int) (ha : IsP a) (hb : IsP b) (hc : IsP c) (w : World) : Calls Try.prog 45 #[.int .i64 15, .int .i64 a, .int .i64 b, .int .i64 c] w fun e w' => e = .returned (.int .i64 (opf 15 a b c)) ∧ Below w.heap.size w w' := by
  go_enter Try.func45, Try.ntmps45
  go_wp2_with (first | (go_at_call 88; refine (rselect_any _ ha.1 ha.2 _ hb.1 hb.2 _ hc.1 hc.2 _).mono ?_; rintro e w1 ⟨rfl, hb1⟩))
  go_ret
  exact ⟨rfl, hb1⟩

theorem rdo_any (op : Int) (h : takes op ≠ 0) (a b c : Int) (ha : IsP a) (hb : IsP b) (hc : IsP c) (w : World) : Calls Try.prog 45 #[.int .i64 op, .int .i64 a, .int .i64 b, .int .i64 c] w fun e w' => e = .returned (.int .i64 (opf op a b c)) ∧ Below w.heap.size w w' := by
  rcases takes_cases op h with rfl | rfl | rfl | rfl | rfl | rfl | rfl | rfl | rfl | rfl | rfl | rfl | rfl
  · exact rdo_3 a b c ha hb hc w
  · exact rdo_11 a b c ha hb hc w
  · exact rdo_12 a b c ha hb hc w
  · exact rdo_13 a b c ha hb hc w
  · exact rdo_14 a b c ha hb hc w
  · exact rdo_4 a b c ha hb hc w
  · exact rdo_5 a b c ha hb hc w
  · exact rdo_6 a b c ha hb hc w
  · exact rdo_7 a b c ha hb hc w
  · exact rdo_8 a b c ha hb hc w
  · exact rdo_9 a b c ha hb hc w
  · exact rdo_10 a b c ha hb hc w
  · exact rdo_15 a b c ha hb hc w

set_option maxHeartbeats 400000 in
theorem rat_any (p : Option Addr) (n c i : Nat) (X : Nat → Int) (hn : n ≤ 1048576) (hi : i ≤ 1048576) (h : n = 1 ∨ i < n) (w : World) (hp : Reads w p n (fun j => .int .i64 (X j))) :
    Calls Try.prog 44 #[.slice p n c, .int .i64 i] w fun e w' => e = .returned (.int .i64 (X (if n = 1 then 0 else i))) ∧ w' = w := by
  rcases hp with hp | ⟨b, o, rfl, hp⟩
  · omega
  by_cases h1 : n = 1
  · subst h1
    have c1 := hp 0 (by omega)
    rw [Nat.add_zero] at c1
    rw [if_pos rfl]
    clear hp h
    go_enter Try.func44, Try.ntmps44
    go_wp2
    go_ret
    exact ⟨rfl, rfl⟩
  · have c1 := hp i (by omega)
    have n1 : ¬ ((n : Int) = 1) := by omega
    have i1 : (0 : Int) ≤ (i : Int) := by omega
    have i2 : (i : Int) < (n : Int) := by omega
    rw [if_neg h1]
    clear hp h
    go_enter Try.func44, Try.ntmps44
    go_wp2
    go_ret
    exact ⟨rfl, rfl⟩

end Go.Proofs.Ytpidcmfmdgppbaa
