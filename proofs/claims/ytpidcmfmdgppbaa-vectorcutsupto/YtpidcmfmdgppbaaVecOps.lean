import Derived.Test.YtpidcmfmdgppbaaVecLists
/- The instructions of package vector, as function values. -/
namespace Go.Proofs.Ytpidcmfmdgppbaa
open Go.RowKit
set_option linter.unusedVariables false

set_option maxHeartbeats 400000 in
theorem oneIf_any (b : Bool) (w : World) : Calls Try.prog 75 #[.bool b] w fun e w' => e = .returned (.int .u32 (flag b)) ∧ w' = w := by
  cases b <;> (go_enter Try.func75, Try.ntmps75; go_wp2; go_ret; exact ⟨rfl, rfl⟩)

set_option maxHeartbeats 400000 in
theorem opfin_any (a : Int) (h : IsP a) (w : World) : Calls Try.prog 74 #[.int .u32 a] w fun e w' => e = .returned (.int .u32 (flag (ffin a))) ∧ Below w.heap.size w w' := by
  go_enter Try.func74, Try.ntmps74
  go_wp2_with (first
    | (go_at_call 68; refine (finite_any _ h.1 h.2 _).mono ?_; rintro e w1 ⟨rfl, hw'⟩; obtain rfl := hw'.symm)
    | (go_at_call 75; refine (oneIf_any _ _).mono ?_; rintro e w1 ⟨rfl, hw'⟩; obtain rfl := hw'.symm))
  go_ret
  exact ⟨rfl, bel0 _⟩

set_option maxHeartbeats 400000 in
theorem opless_any (a : Int) (h : IsP a) (b : Int) (k : IsP b) (w : World) : Calls Try.prog 79 #[.int .u32 a, .int .u32 b] w fun e w' => e = .returned (.int .u32 (flag (fless a b))) ∧ Below w.heap.size w w' := by
  go_enter Try.func79, Try.ntmps79
  go_wp2_with (first
    | (go_at_call 80; refine (less_any _ h.1 h.2 _ k.1 k.2 _).mono ?_; rintro e w1 ⟨rfl, hw'⟩; obtain rfl := hw'.symm)
    | (go_at_call 75; refine (oneIf_any _ _).mono ?_; rintro e w1 ⟨rfl, hw'⟩; obtain rfl := hw'.symm))
  go_ret
  exact ⟨rfl, bel0 _⟩

set_option maxHeartbeats 400000 in
theorem opsel_any (a b c : Int) (ha : IsP a) (hb : IsP b) (hc : IsP c) (w : World) : Calls Try.prog 81 #[.agg #[.int .u32 a, .int .u32 b, .int .u32 c]] w fun e w' => e = .returned (.int .u32 (fsel a b c)) ∧ Below w.heap.size w w' := by
  go_enter Try.func81, Try.ntmps81
  go_wp2_with (go_at_call 82; refine (select_any _ ha.1 ha.2 _ hb.1 hb.2 _ hc.1 hc.2 _).mono ?_; rintro e w1 ⟨rfl, hw'⟩; obtain rfl := hw'.symm)
  go_ret
  exact ⟨rfl, mbel_alloc w _⟩

set_option maxRecDepth 100000 in
set_option maxHeartbeats 400000 in
theorem ofone_any (k : Nat) (hen : Ent k) (f : Int → Int) (hk : ∀ (a : Int) (v : World), IsP a → Calls Try.prog k #[.int .u32 a] v fun e v' => e = .returned (.int .u32 (f a)) ∧ Below v.heap.size v v')
    (g : Nat) (a b c : Int) (ha : IsP a) (w : World) (hg : w.cell? ⟨g, 0, none⟩ = some (.func (.func k) #[] #[])) :
    Calls Try.prog 103 #[.agg #[.int .u32 a, .int .u32 b, .int .u32 c], .pointer (some ⟨g, 0, none⟩)] w fun e w' => e = .returned (.int .u32 (f a)) ∧ Below w.heap.size w w' := by
  have hg2 : ∀ o, (w.alloc o).cell? ⟨g, 0, none⟩ = some (.func (.func k) #[] #[]) := fun o => ((mbel_alloc w o).cell (mcell_lt hg)).trans hg
  have HK : Hid (∀ (v : World), Calls Try.prog k #[.int .u32 a] v fun e v' => e = .returned (.int .u32 (f a)) ∧ Below v.heap.size v v') := fun v => hk a v ha
  clear hk
  unfold Ent at hen
  go_enter Try.func103, Try.ntmps103
  go_wp2_with ((with_reducible refine (HK.out _).mono ?_); rintro e w1 ⟨rfl, hb1⟩)
  go_ret
  exact ⟨rfl, bel (mbel_alloc w _) hb1⟩

set_option maxRecDepth 100000 in
set_option maxHeartbeats 400000 in
theorem oftwo_any (k : Nat) (hen : Ent k) (f : Int → Int → Int) (hk : ∀ (a b : Int) (v : World), IsP a → IsP b → Calls Try.prog k #[.int .u32 a, .int .u32 b] v fun e v' => e = .returned (.int .u32 (f a b)) ∧ Below v.heap.size v v')
    (g : Nat) (a b c : Int) (ha : IsP a) (hb : IsP b) (w : World) (hg : w.cell? ⟨g, 0, none⟩ = some (.func (.func k) #[] #[])) :
    Calls Try.prog 104 #[.agg #[.int .u32 a, .int .u32 b, .int .u32 c], .pointer (some ⟨g, 0, none⟩)] w fun e w' => e = .returned (.int .u32 (f a b)) ∧ Below w.heap.size w w' := by
  have hg2 : ∀ o, (w.alloc o).cell? ⟨g, 0, none⟩ = some (.func (.func k) #[] #[]) := fun o => ((mbel_alloc w o).cell (mcell_lt hg)).trans hg
  have HK : Hid (∀ (v : World), Calls Try.prog k #[.int .u32 a, .int .u32 b] v fun e v' => e = .returned (.int .u32 (f a b)) ∧ Below v.heap.size v v') := fun v => hk a b v ha hb
  clear hk
  unfold Ent at hen
  go_enter Try.func104, Try.ntmps104
  go_wp2_with ((with_reducible refine (HK.out _).mono ?_); rintro e w1 ⟨rfl, hb1⟩)
  go_ret
  exact ⟨rfl, bel (mbel_alloc w _) hb1⟩

/-- A function value that does f with the elements at a place. -/
def Works (w : World) (D : Value) (f : Int → Int → Int → Int) : Prop :=
  ∃ k cap, D = .func (.func k) #[] cap ∧ Ent k ∧ ∀ (a b c : Int) (v : World), IsP a → IsP b → IsP c → Below w.heap.size w v →
    Calls Try.prog k (#[.agg #[.int .u32 a, .int .u32 b, .int .u32 c]] ++ cap) v fun e v' => e = .returned (.int .u32 (f a b c)) ∧ Below v.heap.size v v'
theorem Works.below {w w' : World} {D : Value} {f : Int → Int → Int → Int} (h : Works w D f) (hb : Below w.heap.size w w') : Works w' D f := by
  obtain ⟨k, cap, e, hen, h⟩ := h
  exact ⟨k, cap, e, hen, fun a b c v ha hb' hc hv => h a b c v ha hb' hc (bel hb hv)⟩

set_option maxHeartbeats 400000 in
theorem mkOne_any (k : Nat) (hen : Ent k) (f : Int → Int) (hk : ∀ (a : Int) (v : World), IsP a → Calls Try.prog k #[.int .u32 a] v fun e v' => e = .returned (.int .u32 (f a)) ∧ Below v.heap.size v v') (w : World) :
    Calls Try.prog 71 #[.func (.func k) #[] #[]] w fun e w' => ∃ D, e = .returned D ∧ Works w' D (fun a b c => f a) ∧ Below w.heap.size w w' := by
  go_enter Try.func71, Try.ntmps71
  go_wp2
  go_ret
  exact ⟨_, rfl, ⟨103, _, rfl, enters_of Try.func103 (by kernel_rfl) rfl, fun a b c v ha hb hc hv => ofone_any k hen f hk w.heap.size a b c ha v ((hv.cell (by simp)).trans (by simp))⟩, mbel_alloc w _⟩

set_option maxHeartbeats 400000 in
theorem mkTwo_any (k : Nat) (hen : Ent k) (f : Int → Int → Int) (hk : ∀ (a b : Int) (v : World), IsP a → IsP b → Calls Try.prog k #[.int .u32 a, .int .u32 b] v fun e v' => e = .returned (.int .u32 (f a b)) ∧ Below v.heap.size v v') (w : World) :
    Calls Try.prog 76 #[.func (.func k) #[] #[]] w fun e w' => ∃ D, e = .returned D ∧ Works w' D (fun a b c => f a b) ∧ Below w.heap.size w w' := by
  go_enter Try.func76, Try.ntmps76
  go_wp2
  go_ret
  exact ⟨_, rfl, ⟨104, _, rfl, enters_of Try.func104 (by kernel_rfl) rfl, fun a b c v ha hb hc hv => oftwo_any k hen f hk w.heap.size a b c ha hb v ((hv.cell (by simp)).trans (by simp))⟩, mbel_alloc w _⟩

set_option maxHeartbeats 400000 in
theorem instr_3 (w : World) : Calls Try.prog 38 #[.int .i64 3] w fun e w' => ∃ D, e = .returned (.tuple #[.int .i64 1, D]) ∧ Works w' D (opf 3) ∧ Below w.heap.size w w' := by
  go_enter Try.func38, Try.ntmps38
  go_wp2_with (go_at_call 71; refine (mkOne_any 60 (enters_of Try.func60 (by kernel_rfl) rfl) canon (fun a v h => ((canon_any a h.1 h.2 v).mono fun e w' h => ⟨h.1, by rw [h.2]; exact bel0 _⟩)) _).mono ?_; rintro e w1 ⟨D, rfl, hD, hb1⟩; have HD : Hid (Works w1 D (opf 3)) := hD; clear hD)
  go_returns
  exact ⟨_, rfl, HD.out, hb1⟩

set_option maxHeartbeats 400000 in
theorem instr_11 (w : World) : Calls Try.prog 38 #[.int .i64 11] w fun e w' => ∃ D, e = .returned (.tuple #[.int .i64 1, D]) ∧ Works w' D (opf 11) ∧ Below w.heap.size w w' := by
  go_enter Try.func38, Try.ntmps38
  go_wp2_with (go_at_call 71; refine (mkOne_any 55 (enters_of Try.func55 (by kernel_rfl) rfl) fsqrt (fun a v h => sqrt_any a h.1 h.2 v) _).mono ?_; rintro e w1 ⟨D, rfl, hD, hb1⟩; have HD : Hid (Works w1 D (opf 11)) := hD; clear hD)
  go_returns
  exact ⟨_, rfl, HD.out, hb1⟩

set_option maxHeartbeats 400000 in
theorem instr_12 (w : World) : Calls Try.prog 38 #[.int .i64 12] w fun e w' => ∃ D, e = .returned (.tuple #[.int .i64 1, D]) ∧ Works w' D (opf 12) ∧ Below w.heap.size w w' := by
  go_enter Try.func38, Try.ntmps38
  go_wp2_with (go_at_call 71; refine (mkOne_any 72 (enters_of Try.func72 (by kernel_rfl) rfl) fneg (fun a v h => ((neg_any a h.1 h.2 v).mono fun e w' h => ⟨h.1, by rw [h.2]; exact bel0 _⟩)) _).mono ?_; rintro e w1 ⟨D, rfl, hD, hb1⟩; have HD : Hid (Works w1 D (opf 12)) := hD; clear hD)
  go_returns
  exact ⟨_, rfl, HD.out, hb1⟩

set_option maxHeartbeats 400000 in
theorem instr_13 (w : World) : Calls Try.prog 38 #[.int .i64 13] w fun e w' => ∃ D, e = .returned (.tuple #[.int .i64 1, D]) ∧ Works w' D (opf 13) ∧ Below w.heap.size w w' := by
  go_enter Try.func38, Try.ntmps38
  go_wp2_with (go_at_call 71; refine (mkOne_any 73 (enters_of Try.func73 (by kernel_rfl) rfl) fabs (fun a v h => ((abs_any a h.1 h.2 v).mono fun e w' h => ⟨h.1, by rw [h.2]; exact bel0 _⟩)) _).mono ?_; rintro e w1 ⟨D, rfl, hD, hb1⟩; have HD : Hid (Works w1 D (opf 13)) := hD; clear hD)
  go_returns
  exact ⟨_, rfl, HD.out, hb1⟩

set_option maxHeartbeats 400000 in
theorem instr_14 (w : World) : Calls Try.prog 38 #[.int .i64 14] w fun e w' => ∃ D, e = .returned (.tuple #[.int .i64 1, D]) ∧ Works w' D (opf 14) ∧ Below w.heap.size w w' := by
  go_enter Try.func38, Try.ntmps38
  go_wp2_with (go_at_call 71; refine (mkOne_any 74 (enters_of Try.func74 (by kernel_rfl) rfl) (fun a => flag (ffin a)) (fun a v h => opfin_any a h v) _).mono ?_; rintro e w1 ⟨D, rfl, hD, hb1⟩; have HD : Hid (Works w1 D (opf 14)) := hD; clear hD)
  go_returns
  exact ⟨_, rfl, HD.out, hb1⟩

set_option maxHeartbeats 400000 in
theorem instr_4 (w : World) : Calls Try.prog 38 #[.int .i64 4] w fun e w' => ∃ D, e = .returned (.tuple #[.int .i64 2, D]) ∧ Works w' D (opf 4) ∧ Below w.heap.size w w' := by
  go_enter Try.func38, Try.ntmps38
  go_wp2_with (go_at_call 76; refine (mkTwo_any 50 (enters_of Try.func50 (by kernel_rfl) rfl) fadd (fun a b v h k => add_any a h.1 h.2 b k.1 k.2 v) _).mono ?_; rintro e w1 ⟨D, rfl, hD, hb1⟩; have HD : Hid (Works w1 D (opf 4)) := hD; clear hD)
  go_returns
  exact ⟨_, rfl, HD.out, hb1⟩

set_option maxHeartbeats 400000 in
theorem instr_5 (w : World) : Calls Try.prog 38 #[.int .i64 5] w fun e w' => ∃ D, e = .returned (.tuple #[.int .i64 2, D]) ∧ Works w' D (opf 5) ∧ Below w.heap.size w w' := by
  go_enter Try.func38, Try.ntmps38
  go_wp2_with (go_at_call 76; refine (mkTwo_any 77 (enters_of Try.func77 (by kernel_rfl) rfl) fsub (fun a b v h k => sub_any a h.1 h.2 b k.1 k.2 v) _).mono ?_; rintro e w1 ⟨D, rfl, hD, hb1⟩; have HD : Hid (Works w1 D (opf 5)) := hD; clear hD)
  go_returns
  exact ⟨_, rfl, HD.out, hb1⟩

set_option maxHeartbeats 400000 in
theorem instr_6 (w : World) : Calls Try.prog 38 #[.int .i64 6] w fun e w' => ∃ D, e = .returned (.tuple #[.int .i64 2, D]) ∧ Works w' D (opf 6) ∧ Below w.heap.size w w' := by
  go_enter Try.func38, Try.ntmps38
  go_wp2_with (go_at_call 76; refine (mkTwo_any 78 (enters_of Try.func78 (by kernel_rfl) rfl) fmul (fun a b v h k => mul_any a h.1 h.2 b k.1 k.2 v) _).mono ?_; rintro e w1 ⟨D, rfl, hD, hb1⟩; have HD : Hid (Works w1 D (opf 6)) := hD; clear hD)
  go_returns
  exact ⟨_, rfl, HD.out, hb1⟩

set_option maxHeartbeats 400000 in
theorem instr_7 (w : World) : Calls Try.prog 38 #[.int .i64 7] w fun e w' => ∃ D, e = .returned (.tuple #[.int .i64 2, D]) ∧ Works w' D (opf 7) ∧ Below w.heap.size w w' := by
  go_enter Try.func38, Try.ntmps38
  go_wp2_with (go_at_call 76; refine (mkTwo_any 51 (enters_of Try.func51 (by kernel_rfl) rfl) fdiv (fun a b v h k => div_any a h.1 h.2 b k.1 k.2 v) _).mono ?_; rintro e w1 ⟨D, rfl, hD, hb1⟩; have HD : Hid (Works w1 D (opf 7)) := hD; clear hD)
  go_returns
  exact ⟨_, rfl, HD.out, hb1⟩

set_option maxHeartbeats 400000 in
theorem instr_8 (w : World) : Calls Try.prog 38 #[.int .i64 8] w fun e w' => ∃ D, e = .returned (.tuple #[.int .i64 2, D]) ∧ Works w' D (opf 8) ∧ Below w.heap.size w w' := by
  go_enter Try.func38, Try.ntmps38
  go_wp2_with (go_at_call 76; refine (mkTwo_any 62 (enters_of Try.func62 (by kernel_rfl) rfl) fmin (fun a b v h k => min_any a h.1 h.2 b k.1 k.2 v) _).mono ?_; rintro e w1 ⟨D, rfl, hD, hb1⟩; have HD : Hid (Works w1 D (opf 8)) := hD; clear hD)
  go_returns
  exact ⟨_, rfl, HD.out, hb1⟩

set_option maxHeartbeats 400000 in
theorem instr_9 (w : World) : Calls Try.prog 38 #[.int .i64 9] w fun e w' => ∃ D, e = .returned (.tuple #[.int .i64 2, D]) ∧ Works w' D (opf 9) ∧ Below w.heap.size w w' := by
  go_enter Try.func38, Try.ntmps38
  go_wp2_with (go_at_call 76; refine (mkTwo_any 64 (enters_of Try.func64 (by kernel_rfl) rfl) fmax (fun a b v h k => max_any a h.1 h.2 b k.1 k.2 v) _).mono ?_; rintro e w1 ⟨D, rfl, hD, hb1⟩; have HD : Hid (Works w1 D (opf 9)) := hD; clear hD)
  go_returns
  exact ⟨_, rfl, HD.out, hb1⟩

set_option maxHeartbeats 400000 in
theorem instr_10 (w : World) : Calls Try.prog 38 #[.int .i64 10] w fun e w' => ∃ D, e = .returned (.tuple #[.int .i64 2, D]) ∧ Works w' D (opf 10) ∧ Below w.heap.size w w' := by
  go_enter Try.func38, Try.ntmps38
  go_wp2_with (go_at_call 76; refine (mkTwo_any 79 (enters_of Try.func79 (by kernel_rfl) rfl) (fun a b => flag (fless a b)) (fun a b v h k => opless_any a h b k v) _).mono ?_; rintro e w1 ⟨D, rfl, hD, hb1⟩; have HD : Hid (Works w1 D (opf 10)) := hD; clear hD)
  go_returns
  exact ⟨_, rfl, HD.out, hb1⟩

set_option maxHeartbeats 400000 in
theorem instr_15 (w : World) : Calls Try.prog 38 #[.int .i64 15] w fun e w' => ∃ D, e = .returned (.tuple #[.int .i64 3, D]) ∧ Works w' D (opf 15) ∧ Below w.heap.size w w' := by
  go_enter Try.func38, Try.ntmps38
  go_wp2
  go_returns
  exact ⟨_, rfl, ⟨81, #[], rfl, enters_of Try.func81 (by kernel_rfl) rfl, fun a b c v ha hb hc hv => opsel_any a b c ha hb hc v⟩, bel0 w⟩

set_option maxHeartbeats 1000000 in
theorem instr_no (op : Int) (h : takes op = 0) (w : World) : Calls Try.prog 38 #[.int .i64 op] w fun e w' => e = .returned (.tuple #[.int .i64 0, .nilFunc]) ∧ w' = w := by
  have n1 : ¬ (op = 3 ∨ op = 11 ∨ op = 12 ∨ op = 13 ∨ op = 14) := fun c => by unfold takes at h; rw [if_pos c] at h; cases h
  have n2 : ¬ (op = 4 ∨ op = 5 ∨ op = 6 ∨ op = 7 ∨ op = 8 ∨ op = 9 ∨ op = 10) := fun c => by unfold takes at h; rw [if_neg n1, if_pos c] at h; cases h
  have n3 : ¬ (op = 15) := fun c => by unfold takes at h; rw [if_neg n1, if_neg n2, if_pos c] at h; cases h
  simp only [not_or] at n1 n2
  obtain ⟨a1, a2, a3, a4, a5⟩ := n1
  obtain ⟨b1, b2, b3, b4, b5, b6, b7⟩ := n2
  clear h
  go_enter Try.func38, Try.ntmps38
  go_wp2
  go_returns
  exact ⟨rfl, rfl⟩

theorem takes_cases (op : Int) (h : takes op ≠ 0) : op = 3 ∨ op = 11 ∨ op = 12 ∨ op = 13 ∨ op = 14 ∨ op = 4 ∨ op = 5 ∨ op = 6 ∨ op = 7 ∨ op = 8 ∨ op = 9 ∨ op = 10 ∨ op = 15 := by
  unfold takes at h
  split at h
  · omega
  · split at h
    · omega
    · split at h
      · omega
      · exact absurd rfl h

theorem instr_any (op : Int) (h : takes op ≠ 0) (w : World) : Calls Try.prog 38 #[.int .i64 op] w fun e w' => ∃ D, e = .returned (.tuple #[.int .i64 (takes op), D]) ∧ Works w' D (opf op) ∧ Below w.heap.size w w' := by
  rcases takes_cases op h with rfl | rfl | rfl | rfl | rfl | rfl | rfl | rfl | rfl | rfl | rfl | rfl | rfl
  · exact instr_3 w
  · exact instr_11 w
  · exact instr_12 w
  · exact instr_13 w
  · exact instr_14 w
  · exact instr_4 w
  · exact instr_5 w
  · exact instr_6 w
  · exact instr_7 w
  · exact instr_8 w
  · exact instr_9 w
  · exact instr_10 w
  · exact instr_15 w

end Go.Proofs.Ytpidcmfmdgppbaa
